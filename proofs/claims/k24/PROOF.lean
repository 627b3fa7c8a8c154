import PyProof.Rows.All
import Wide.All
import OpenK.AllK
import Wide.FinOn
import Lean
import PyProof.EqAt
import PyProof.EqKinds
import PyProof.TupleCall
import PyProof.NeKinds
import PyProof.FitsReplace
import PyProof.Rows.SumAny
import PyProof.Rows.MinMaxN
import PyProof.Rows.CallKwBuiltin
import PyProof.StrBlock2
import KE.KMinKey
import OpenK.KOwn
import PyProof.ExcArgsOwn
import KE.KIsAll
import PyProof.ReprRoads
import PyProof.ReprBulk
import PyProof.StrWalks
import PyProof.ConsumeWalk
import PyProof.StrCalls2
import PyProof.EnumMake
import PyProof.Draws
import PyProof.Rows.EnumRows
import PyProof.Rows.FactsT2
import PyProof.CompUse
import KE.KRevIter
import PyProof.ListStr
import KE.KIntText
import PyProof.StrLawsIdx
import PyProof.StrLawsNeg
import PyProof.StrLawsTight
import PyProof.StrLawsChain
import PyProof.Rows.StrItems
import PyProof.Rows.StrFirst
import PyProof.Rows.StrLawsPart
import PyProof.Rows.Range3
import PyProof.Rows.StrWeight2
import PyProof.AutoListH
import PyProof.TupleOfGen
import PyProof.WalksEnum
import PyProof.FactsAll.range_2
import PyProof.ZipIter
import PySem.Challenge.RW_leafsay_k24_trees_refused
/-! Names that stand for nothing: where a name is taken, the head goes on without the twin of that name, and the compiled text stays small. -/
def PySem.W.Fast.tw7327851423837734403 : Nat := 0
def PySem.W.Fast.tw340483716429534912 : Nat := 0
def PySem.W.Fast.tw14256466041625441498 : Nat := 0
def PySem.W.Fast.tw2901348254584127813 : Nat := 0
def PySem.W.Fast.tw15948006173607942244 : Nat := 0
def PySem.W.Fast.tw14946011052963414097 : Nat := 0
def PySem.W.Fast.tw11702988298869237240 : Nat := 0
def PySem.W.Fast.tw14244454305958940550 : Nat := 0
def PySem.W.Fast.tw488002049331329635 : Nat := 0
def PySem.W.Fast.tw5858394075099928634 : Nat := 0
def PySem.W.Fast.tw14342249465465129371 : Nat := 0
def PySem.W.Fast.tw15091756351991482474 : Nat := 0
def PySem.W.Fast.tw7788866678136904255 : Nat := 0
def PySem.W.Fast.tw9969433031138852766 : Nat := 0
def PySem.W.Fast.tw14003034799305572139 : Nat := 0
def PySem.W.Fast.tw10308358288755726640 : PySem.Program := PySem.Challenge.pw_leafsay_k24_trees_refused
theorem PySem.W.Fast.te10308358288755726640 : PySem.Challenge.pw_leafsay_k24_trees_refused = PySem.W.Fast.tw10308358288755726640 := rfl
set_option Elab.async false
set_option linter.all false
set_option maxRecDepth 100000
namespace L2
open PySem PySem.Spec PyProof.Rows

abbrev Key := Sum Int Str
def keyIs : Key → Value → Bool
  | .inl k, v => Value.isInt k v
  | .inr x, v => Value.isStrOf x v
def keyH (w : World) : Key → Int
  | .inl k => hashInt k
  | .inr x => hashStr w x
theorem keyIs_shape : ∀ {k : Key} {v : Value}, keyIs k v = true → (∃ i t, k = Sum.inl i ∧ v = Value.int i t) ∨ (∃ x t, k = Sum.inr x ∧ v = Value.str x t)
  | .inl i, v, h => by
    obtain ⟨t, e⟩ := Value.isInt_shape (k := i) (v := v) h
    exact .inl ⟨i, t, rfl, e⟩
  | .inr x, v, h => by
    obtain ⟨t, e⟩ := Value.isStrOf_shape (x := x) (v := v) h
    exact .inr ⟨x, t, rfl, e⟩
theorem keyIs_int (i : Int) (t : Tok) : keyIs (.inl i) (.int i t) = true := by simp [keyIs, Value.isInt]
theorem keyIs_str (x : Str) (t : Tok) : keyIs (.inr x) (.str x t) = true := by simp [keyIs, Value.isStrOf]
theorem key_ll (a b : Int) : decide ((Sum.inl a : Key) = Sum.inl b) = (a == b) := by
  by_cases e : a = b
  · subst e; simp
  · have h : ¬ (Sum.inl a : Key) = Sum.inl b := fun q => e (Sum.inl.inj q)
    rw [decide_eq_false h]
    exact (beq_eq_false_iff_ne.mpr e).symm
theorem key_rr (a b : Str) : decide ((Sum.inr a : Key) = Sum.inr b) = decide (a = b) := by
  by_cases e : a = b
  · subst e; simp
  · have h : ¬ (Sum.inr a : Key) = Sum.inr b := fun q => e (Sum.inr.inj q)
    rw [decide_eq_false h, decide_eq_false e]
theorem key_lr (a : Int) (b : Str) : decide ((Sum.inl a : Key) = Sum.inr b) = false := decide_eq_false (fun q => nomatch q)
theorem key_rl (a : Str) (b : Int) : decide ((Sum.inr a : Key) = Sum.inl b) = false := decide_eq_false (fun q => nomatch q)

def mixKind (prog : Program) (w : World) : PySem.KeyKind prog w Key where
  is := keyIs
  hash := keyH w
  inj := fun v a b ha hb => by
    rcases keyIs_shape ha with ⟨i, t, rfl, rfl⟩ | ⟨x, t, rfl, rfl⟩
    · rcases keyIs_shape hb with ⟨j, u, rfl, e⟩ | ⟨y, u, rfl, e⟩
      · injection e with e1 _; rw [e1]
      · exact nomatch e
    · rcases keyIs_shape hb with ⟨j, u, rfl, e⟩ | ⟨y, u, rfl, e⟩
      · exact nomatch e
      · injection e with e1 _; rw [e1]
  byValue := fun k v h => by
    rcases keyIs_shape h with ⟨i, t, rfl, rfl⟩ | ⟨x, t, rfl, rfl⟩ <;> rfl
  pyHash := fun hv h => by
    rcases keyIs_shape hv with ⟨i, t, rfl, rfl⟩ | ⟨x, t, rfl, rfl⟩
    · exact wpAny_pyHash_int h
    · exact wpAny_pyHash_str h
  eqBool := fun hu hv h => by
    rcases keyIs_shape hu with ⟨i, t, rfl, rfl⟩ | ⟨x, t, rfl, rfl⟩
    · rcases keyIs_shape hv with ⟨j, u, rfl, rfl⟩ | ⟨y, u, rfl, rfl⟩
      · rw [key_ll] at h; exact wpAny_eqBool_int h
      · rw [key_lr] at h; exact SeqAt.EqAt.int_str i t y u _ _ _ _ h
    · rcases keyIs_shape hv with ⟨j, u, rfl, rfl⟩ | ⟨y, u, rfl, rfl⟩
      · rw [key_rl] at h; exact SeqAt.EqAt.str_int x t j u _ _ _ _ h
      · rw [key_rr] at h; exact wpAny_eqBool_str h
  «strs» := fun k x t v h => by
    rcases keyIs_shape h with ⟨i, u, rfl, e⟩ | ⟨y, u, rfl, e⟩
    · exact nomatch e
    · injection e with e1 _
      subst e1
      cases v <;> rfl

theorem mixKind_int (prog : Program) (w : World) (i : Int) (t : Tok) : (mixKind prog w).is (.inl i) (.int i t) = true := keyIs_int i t
theorem mixKind_str (prog : Program) (w : World) (x : Str) (t : Tok) : (mixKind prog w).is (.inr x) (.str x t) = true := keyIs_str x t
end L2

namespace L2
open PySem PySem.Spec PyProof.Rows

inductive V where
  | non | bl (b : Bool) | int (i : Int) | str (x : Str) | byt (b : Array UInt8) | flt (b : UInt64) | ref (a : Addr) | ty (n : String)
  deriving DecidableEq

def RelV : V → Value → Prop
  | .non, u => u = Value.none
  | .bl b, u => u = Value.bool b
  | .int i, u => ∃ t, u = Value.int i t
  | .str x, u => ∃ t, u = Value.str x t
  | .byt b, u => ∃ t, u = Value.bytes b t
  | .flt b, u => ∃ t, u = Value.float b t
  | .ref a, u => u = Value.ref a
  | .ty n, u => u = Value.type n

abbrev Vals : List V → List Value → Prop := Paired RelV
theorem Vals.length {xs : List V} {us : List Value} (r : Vals xs us) : xs.length = us.length := Paired.length r
theorem Vals.get : ∀ {xs : List V} {us : List Value} {i : Nat} {x : V}, Vals xs us → xs[i]? = some x → ∃ u, us[i]? = some u ∧ RelV x u
  | _, _, _, _, .nil, e => by simp at e
  | _, _, 0, _, .cons r _, e => by simp at e; subst e; exact ⟨_, rfl, r⟩
  | _, _, i + 1, x, .cons _ t, e => by
    obtain ⟨u, h1, h2⟩ := Vals.get (i := i) (x := x) t (by simpa using e)
    exact ⟨u, by simpa using h1, h2⟩
theorem Vals.set {x : V} {u : Value} (r : RelV x u) : ∀ {xs : List V} {us : List Value} (i : Nat), Vals xs us → Vals (xs.set i x) (us.set i u)
  | _, _, _, .nil => .nil
  | _, _, 0, .cons _ t => .cons r t
  | _, _, i + 1, .cons q t => .cons q (Vals.set r i t)
theorem Vals.append : ∀ {xs ys : List V} {us ws : List Value}, Vals xs us → Vals ys ws → Vals (xs ++ ys) (us ++ ws)
  | _, _, _, _, .nil, s => s
  | _, _, _, _, .cons r t, s => .cons r (Vals.append t s)
theorem Vals.take : ∀ {xs : List V} {us : List Value} (n : Nat), Vals xs us → Vals (xs.take n) (us.take n)
  | _, _, 0, _ => .nil
  | _, _, _ + 1, .nil => .nil
  | _, _, n + 1, .cons r t => .cons r (Vals.take n t)
theorem Vals.drop : ∀ {xs : List V} {us : List Value} (n : Nat), Vals xs us → Vals (xs.drop n) (us.drop n)
  | _, _, 0, r => r
  | _, _, _ + 1, .nil => .nil
  | _, _, n + 1, .cons _ t => Vals.drop n t
def RelO : Option V → Option Value → Prop
  | some v, some u => RelV v u
  | none, none => True
  | _, _ => False
def KV {κ : Type} : List (κ × V) → List (κ × Value) → Prop := Paired fun (p : κ × V) (q : κ × Value) => p.1 = q.1 ∧ RelV p.2 q.2

def kV : Key → V
  | .inl i => .int i
  | .inr x => .str x

inductive HO where
  /-- a list -/
  | lst (xs : List V)
  /-- a tuple (never changes) -/
  | tup (xs : List V)
  /-- a dict whose keys are ints and texts; one whose keys are tuples of ints and texts (the empty one is both) -/
  | dK (kvs : List (Key × V)) | dT (kvs : List (List Key × V))
  /-- a set of ints: its members, its size -/
  | set (S : Int → Bool) (n : Nat)
  /-- an instance of the class at C, its dict at dx, its attributes -/
  | ins (C dx : Addr) (fs : List (Str × V))
  /-- the dict of the instance at x -/
  | own (x : Addr)
  /-- the dict of an exception -/
  | xd (fs : List (Str × V))
  /-- a bound method, f of x -/
  | met (f x : Addr)
  /-- a range object lo, lo + 1, .. below hi -/
  | rng (lo hi : Int)
  /-- a thing that is known to the object (the script; a dict while a loop walks it): read, never written while it is so -/
  | frz (o : Obj) (u : HO)
  /-- a code object's table -/
  | tbl (ps : Array Value)
  /-- any other thing, by what is true of its one object (a def of one's own: SetO a S n := HO.ext fun h => ..) -/
  | ext (φ : Heap → Prop)

abbrev Hp := Addr → Option HO
def upd (H : Hp) (a : Addr) (o : HO) : Hp := fun b => if b = a then some o else H b
theorem upd_same {H : Hp} {a : Addr} {o : HO} : upd H a o a = some o := by unfold upd; rw [if_pos rfl]
theorem upd_ne {H : Hp} {a b : Addr} {o : HO} (h : b ≠ a) : upd H a o b = H b := by unfold upd; rw [if_neg h]
theorem ne_of {H : Hp} {a b : Addr} {o u : HO} (h : H a = some o) (h' : H b = some u) (d : o ≠ u) : a ≠ b := by
  intro e; subst e; rw [h] at h'; exact d (Option.some.inj h')
theorem ne_of_none {H : Hp} {a b : Addr} {o : HO} (h : H a = some o) (h' : H b = none) : a ≠ b := by
  intro e; subst e; rw [h] at h'; cases h'

section
variable (P : Program) (w : World)
def ObjOk (H : Hp) (h : Heap) (a : Addr) : HO → Prop
  | .lst xs => xs.length ≤ sizeLine ∧ ∃ (its : List Value) (n : Nat), Vals xs its ∧ h.get? a = some { cls := .type "list", data := .seq its.toArray n }
  | .tup xs => xs.length ≤ sizeLine ∧ ∃ its : List Value, Vals xs its ∧ IsTup h a its.toArray
  | .dK kvs => kvs.length ≤ sizeLine ∧ (a == sysModules) = false ∧ ∃ vs, KV kvs vs ∧ h.DictOf (mixKind P w) a vs
  | .dT kvs => kvs.length ≤ sizeLine ∧ (a == sysModules) = false ∧ ∃ xs : List (List Key × Addr × Value),
      Paired (fun (p : List Key × V) (q : List Key × Addr × Value) => p.1 = q.1 ∧ H q.2.1 = some (.tup (p.1.map kV)) ∧ RelV p.2 q.2.2) kvs xs ∧
      ∃ o es ep, h.get? a = some o ∧ o.ExactDict ∧ o.data = .dict es ep ∧ es.toList = xs.map (entryOfKey (tupleKind (mixKind P w))) ∧ (xs.map (·.1)).Nodup
  | .set S n => h.SetOf (intKind P w) a S n
  | .ins C dx fs => H dx = some (.own a) ∧ fs.length ≤ 1000 ∧ dx ≠ a ∧ h.get? a = some (PySem.W.instObj C dx) ∧
      ∃ mA, h.Ns1 dx mA ∧ (∀ f, RelO (fs.lookup f) (mA f)) ∧ PySem.Within mA (fs.map (·.1))
  | .own _ => ∃ o, h.get? a = some o
  | .xd fs => ∃ mA, h.Ns1 a mA ∧ ∀ f, RelO (fs.lookup f) (mA f)
  | .rng lo hi => ∃ t u v, h.get? a = some { cls := .type "range", data := .fields #[.int lo t, .int hi u, .int 1 v] }
  | .frz o u => h.get? a = some o ∧ ObjOk H h a u
  | .tbl ps => h.get? a = some { cls := .none, data := .fields ps }
  | .met f x => h.get? a = some (PySem.W.methodObj (.ref f) (.ref x))
  | .ext φ => φ h ∧ (∃ o, h.get? a = some o) ∧ ∀ h1 h2 : Heap, φ h1 → (∀ o, h1.get? a = some o → h2.get? a = some o) → φ h2
def HOk (H : Hp) (h : Heap) : Prop := ∀ a o, H a = some o → ObjOk P w H h a o
end

section
variable {P : Program} {w : World} {H H' : Hp} {h h' : Heap} {a : Addr} {o : HO}
theorem ObjOk.lt (x : ObjOk P w H h a o) : a < h.objs.size := by
  cases o with
  | lst xs => obtain ⟨_, _, _, _, e⟩ := x; exact Heap.lt_size e
  | tup xs => obtain ⟨_, _, _, p⟩ := x; exact p.lt
  | dK kvs => obtain ⟨_, _, _, _, o, _, _, e, _⟩ := x; exact Heap.lt_size e
  | dT kvs => obtain ⟨_, _, _, _, o, _, _, e, _⟩ := x; exact Heap.lt_size e
  | set S n => obtain ⟨o, _, _, _, e, _⟩ := x; exact Heap.lt_size e
  | ins C dx fs => obtain ⟨_, _, _, e, _⟩ := x; exact Heap.lt_size e
  | own y => obtain ⟨_, e⟩ := x; exact Heap.lt_size e
  | xd fs => obtain ⟨_, ⟨_, _, _, e, _⟩, _⟩ := x; exact Heap.lt_size e
  | rng lo hi => obtain ⟨_, _, _, e⟩ := x; exact Heap.lt_size e
  | frz ob u => obtain ⟨e, _⟩ := x; exact Heap.lt_size e
  | tbl ps => exact Heap.lt_size (show h.get? a = some _ from x)
  | met f y => exact Heap.lt_size (show h.get? a = some _ from x)
  | ext φ => obtain ⟨_, ⟨_, e⟩, _⟩ := x; exact Heap.lt_size e
theorem Paired.mapP {α β : Type} {F G : α → β → Prop} : ∀ {l₁ : List α} {l₂ : List β}, Paired F l₁ l₂ → (∀ a b, F a b → G a b) → Paired G l₁ l₂
  | _, _, .nil, _ => .nil
  | _, _, .cons r t, f => .cons (f _ _ r) (Paired.mapP t f)
theorem ObjOk.stay (x : ObjOk P w H h a o) (k : ∀ b u, (b = a ∨ H b = some (.own a)) → h.get? b = some u → h'.get? b = some u)
    (ho : ∀ b, H b = some (.own a) → H' b = some (.own a)) (ht : ∀ b xs, H b = some (.tup xs) → H' b = some (.tup xs)) : ObjOk P w H' h' a o := by
  induction o with
  | lst xs => obtain ⟨z, its, n, r, e⟩ := x; exact ⟨z, its, n, r, k _ _ (.inl rfl) e⟩
  | tup xs => obtain ⟨z, its, r, ob, e, c⟩ := x; exact ⟨z, its, r, ob, k _ _ (.inl rfl) e, c⟩
  | dK kvs => obtain ⟨z, y, vs, r, ob, es, ep, e, c⟩ := x; exact ⟨z, y, vs, r, ob, es, ep, k _ _ (.inl rfl) e, c⟩
  | dT kvs =>
    obtain ⟨z, y, xs, r, ob, es, ep, e, c⟩ := x
    exact ⟨z, y, xs, Paired.mapP r fun p q z => ⟨z.1, ht _ _ z.2.1, z.2.2⟩, ob, es, ep, k _ _ (.inl rfl) e, c⟩
  | set S n => obtain ⟨ob, es, ep, t, e, c⟩ := x; exact ⟨ob, es, ep, t, k _ _ (.inl rfl) e, c⟩
  | ins C dx fs =>
    obtain ⟨d, z, ne, e, mA, ⟨od, es, ep, e2, c⟩, r⟩ := x
    exact ⟨ho _ d, z, ne, k _ _ (.inl rfl) e, mA, ⟨od, es, ep, k _ _ (.inr d) e2, c⟩, r⟩
  | own y => obtain ⟨ob, e⟩ := x; exact ⟨ob, k _ _ (.inl rfl) e⟩
  | xd fs => obtain ⟨mA, ⟨od, es, ep, e, c⟩, r⟩ := x; exact ⟨mA, ⟨od, es, ep, k _ _ (.inl rfl) e, c⟩, r⟩
  | rng lo hi => obtain ⟨t, u, v, e⟩ := x; exact ⟨t, u, v, k _ _ (.inl rfl) e⟩
  | frz ob u ih => obtain ⟨e, q⟩ := x; exact ⟨k _ _ (.inl rfl) e, ih q⟩
  | tbl ps =>
    have e : h.get? a = some { cls := .none, data := .fields ps } := x
    show h'.get? a = some { cls := .none, data := .fields ps }
    exact k a _ (.inl rfl) e
  | met f y =>
    have e : h.get? a = some (PySem.W.methodObj (.ref f) (.ref y)) := x
    show h'.get? a = some (PySem.W.methodObj (.ref f) (.ref y))
    exact k a _ (.inl rfl) e
  | ext φ => obtain ⟨p, ⟨o, e⟩, st⟩ := x; exact ⟨st _ _ p fun o q => k _ _ (.inl rfl) q, ⟨o, k _ _ (.inl rfl) e⟩, st⟩
theorem HOk.lt (x : HOk P w H h) (e : H a = some o) : a < h.objs.size := (x a o e).lt
theorem HOk.fresh (x : HOk P w H h) (e : h.objs.size ≤ a) : H a = none := by
  cases q : H a with
  | none => rfl
  | some u => exact absurd (Nat.lt_of_lt_of_le (x.lt q) e) (Nat.lt_irrefl _)
theorem HOk.kept (x : HOk P w H h) (k : ∀ b u, h.get? b = some u → h'.get? b = some u) : HOk P w H h' := fun a o e =>
  (x a o e).stay (fun b u _ q => k b u q) (fun _ q => q) fun _ _ q => q
theorem HOk.laid (x : HOk P w H h) (k : ∀ b u, h.get? b = some u → h'.get? b = some u) (hp : h.objs.size ≤ a) (new : ObjOk P w (upd H a o) h' a o) : HOk P w (upd H a o) h' := fun b u e => by
  have hn := x.fresh hp
  by_cases hb : b = a
  · subst hb; rw [upd_same] at e; cases e; exact new
  · rw [upd_ne hb] at e
    exact (x b u e).stay (fun c v _ q => k c v q) (fun c q => by rw [upd_ne (ne_of_none q hn)]; exact q) fun c xs q => by rw [upd_ne (ne_of_none q hn)]; exact q
end

def Rd (H : Hp) (a : Addr) (u : HO) : Prop := H a = some u ∨ ∃ o, H a = some (.frz o u)
theorem Rd.ok {P : Program} {w : World} {H : Hp} {h : Heap} {a : Addr} {u : HO} (r : Rd H a u) (x : HOk P w H h) : ObjOk P w H h a u := by
  rcases r with r | ⟨o, r⟩
  · exact x a u r
  · obtain ⟨_, q⟩ := x a _ r
    exact q
def Mut : Option HO → Prop
  | some (.lst _) => True
  | some (.dK _) => True
  | some (.dT _) => True
  | some (.set _ _) => True
  | some (.ins _ _ _) => True
  | some (.ext _) => True
  | _ => False
section
variable {P : Program} {w : World} {H : Hp} {h h' : Heap} {x e : Addr} {o' : HO}
theorem HOk.write (ok : HOk P w H h) (mu : Mut (H x)) (he : e = x ∨ H e = some (.own x)) (k : ∀ b u, b ≠ e → h.get? b = some u → h'.get? b = some u) (heo : ∃ u, h'.get? e = some u)
    (new : ObjOk P w (upd H x o') h' x o') : HOk P w (upd H x o') h' := fun b u q => by
  have nown : ∀ c y, H c = some (.own y) → c ≠ x := fun c y r z => by subst z; rw [r] at mu; exact mu
  have ntup : ∀ c xs, H c = some (.tup xs) → c ≠ x := fun c xs r z => by subst z; rw [r] at mu; exact mu
  by_cases hb : b = x
  · subst hb; rw [upd_same] at q; cases q; exact new
  · rw [upd_ne hb] at q
    by_cases hbe : b = e
    · have q' : H b = some (.own x) := by
        rcases he with z | z
        · exact absurd (hbe.trans z) hb
        · rw [hbe]; exact z
      rw [q] at q'; cases q'
      obtain ⟨v, hv⟩ := heo
      exact ⟨v, by rw [hbe]; exact hv⟩
    · refine (ok b u q).stay (fun c v hc r => k c v ?_ r) (fun c r => by rw [upd_ne (nown c b r)]; exact r) fun c xs r => by rw [upd_ne (ntup c xs r)]; exact r
      rcases hc with rfl | hc
      · exact hbe
      · rintro rfl
        rcases he with z | z
        · exact nown c b hc z
        · rw [hc] at z; cases z; exact hb rfl
end

structure Un (fs ex : List Addr) (H H' : Hp) (h h' : Heap) : Prop where
  keep : ∀ b o, h.get? b = some o → H b = none → b ∉ fs → b ∉ ex → h'.get? b = some o
  slot : ∀ b o, h.get? b = some o → H b = none → b ∈ fs → b ∉ ex → ∃ sl, h'.get? b = some { o with slots := sl }
  free : ∀ b o, h.get? b = some o → H b = none → b ∉ ex → H' b = none
  there : ∀ b o, h.get? b = some o → b ∉ ex → ∃ o', h'.get? b = some o'
  tups : ∀ b xs, H b = some (.tup xs) → H' b = some (.tup xs)
  frzs : ∀ b o u, H b = some (.frz o u) → H' b = some (.frz o u)
  tbls : ∀ b ps, H b = some (.tbl ps) → ∃ more, H' b = some (.tbl (ps ++ more))
section
variable {fs fs' ex ex' : List Addr} {H H1 H2 : Hp} {h h1 h2 h' : Heap} {a x e : Addr} {o : HO}
theorem Un.any (u : Un fs ex H H1 h h1) {b : Addr} {ob : Obj} (q : h.get? b = some ob) (n : H b = none) (hx : b ∉ ex) : ∃ sl, h1.get? b = some { ob with slots := sl } := by
  by_cases hb : b ∈ fs
  · exact u.slot b ob q n hb hx
  · exact ⟨ob.slots, u.keep b ob q n hb hx⟩
theorem Un.kept (k : ∀ b u, h.get? b = some u → h'.get? b = some u) : Un fs ex H H h h' :=
  ⟨fun b ob q _ _ _ => k b ob q, fun b ob q _ _ _ => ⟨ob.slots, k b ob q⟩, fun _ _ _ n _ => n, fun b ob q _ => ⟨ob, k b ob q⟩, fun _ _ q => q, fun _ _ _ q => q, fun _ ps q => ⟨#[], by rw [q]; simp⟩⟩
theorem Un.refl : Un fs ex H H h h := Un.kept fun _ _ q => q
theorem Un.laid (k : ∀ b u, h.get? b = some u → h'.get? b = some u) (hp : h.objs.size ≤ a) (hn : H a = none) : Un fs ex H (upd H a o) h h' where
  keep := fun b u q _ _ _ => k b u q
  slot := fun b u q _ _ _ => ⟨u.slots, k b u q⟩
  free := fun b u q n _ => by rw [upd_ne (Nat.ne_of_lt (Nat.lt_of_lt_of_le (Heap.lt_size q) hp))]; exact n
  there := fun b u q _ => ⟨u, k b u q⟩
  tups := fun b xs q => by rw [upd_ne (ne_of_none q hn)]; exact q
  frzs := fun b u xs q => by rw [upd_ne (ne_of_none q hn)]; exact q
  tbls := fun b ps q => ⟨#[], by rw [upd_ne (ne_of_none q hn), q]; simp⟩
theorem Un.write (mu : Mut (H x)) (he : e = x ∨ H e = some (.own x)) (k : ∀ b u, b ≠ e → h.get? b = some u → h'.get? b = some u) (heo : ∃ u, h'.get? e = some u) : Un fs ex H (upd H x o) h h' := by
  have hx : ∀ b, H b = none → b ≠ x := fun b n z => by subst z; rw [n] at mu; exact mu
  have hb : ∀ b, H b = none → b ≠ e := fun b n z => by
    subst z
    rcases he with r | r
    · exact hx b n r
    · rw [n] at r; cases r
  have hm : ∀ b u, H b = some u → ¬ Mut (some u) → b ≠ x := fun b u q nm z => by subst z; rw [q] at mu; exact nm mu
  refine ⟨fun b u q n _ _ => k b u (hb b n) q, fun b u q n _ _ => ⟨u.slots, k b u (hb b n) q⟩, fun b u q n _ => by rw [upd_ne (hx b n)]; exact n, fun b u q _ => ?_,
    fun b xs q => by rw [upd_ne (hm b _ q fun z => z)]; exact q, fun b u xs q => by rw [upd_ne (hm b _ q fun z => z)]; exact q, fun b ps q => ⟨#[], by rw [upd_ne (hm b _ q fun z => z), q]; simp⟩⟩
  by_cases hbe : b = e
  · subst hbe; exact heo
  · exact ⟨u, k b u hbe q⟩
end

def trk (h : Heap) (H : Hp) : List Addr := (List.range h.objs.size).filter fun a => (H a).isSome
def hidT (h : Heap) (H : Hp) : Heap := PySem.W.hideAll h (trk h H)
theorem hidT_size (h : Heap) (H : Hp) : (hidT h H).objs.size = h.objs.size := PySem.W.hideAll_size _ _
theorem hidT_get {h : Heap} {H : Hp} {b : Addr} {o : Obj} (e : h.get? b = some o) (n : H b = none) : (hidT h H).get? b = some o :=
  PySem.W.hideAll_get _ e fun hm => by
    have q : (H b).isSome = true := (List.mem_filter.mp hm).2
    rw [n] at q; simp at q
theorem of_hidT {h : Heap} {H : Hp} {b : Addr} {o : Obj} (e : (hidT h H).get? b = some o) : h.get? b = some o ∧ H b = none := by
  have e' : h.get? b = some o := PySem.W.of_hideAll (trk h H) e
  refine ⟨e', ?_⟩
  cases q : H b with
  | none => rfl
  | some x =>
    have hm : b ∈ trk h H := List.mem_filter.mpr ⟨List.mem_range.mpr (Heap.lt_size e'), by simp [q]⟩
    have z : (hidT h H).get? b = none := PySem.W.hideAll_none (trk h H) hm
    rw [z] at e; cases e

end L2

namespace L2
open PySem PySem.Spec PyProof.Rows

structure Mod (K : PySem.W.Frag) (mg : Str → Option Value) (base : Heap) : Prop where
  kin : K.In base
  glob : base.Ns mainGlobals mg
  blt : ∃ mb, base.Ns builtinsNs mb ∧ ∀ x : Str, x ≠ "__name__" → mb x = bootBuiltins x
  nolimit : base.NoLimit

structure Cx where
  prog : Program
  w : World
  K : PySem.W.Frag
  mg : Str → Option Value
  base : Heap
  A : Around
  N : List Str
  s₀ : Shared
  H₀ : Hp
  env : Env
  outer : List Env
  stack : List Env
  ex : List Addr
  fn : Str → Bool
  calm : Bool
  pn : List (Addr × Obj)
  xe : Value → Shared → Prop
def frs (l : List Env) : List Addr := l.filterMap (·.frame)
abbrev Cx.fs (X : Cx) : List Addr := frs X.outer

def Vis (sc : Scope) (x : Str) : Prop := sc.names.lookup x = some .local ∨ sc.names.lookup x = some .cell ∨ sc.names.lookup x = some .free
def Loc (sc : Scope) (x : Str) : Prop := sc.names.lookup x = some .local ∨ sc.names.lookup x = some .cell
def Look (env : Env) (h : Heap) (m : Str → Option Value) (x : Str) (u : Value) : Prop :=
  (env.kindOf x = some .local ∧ m x = some u) ∨ ((env.kindOf x = some .cell ∨ env.kindOf x = some .free) ∧ ∃ c, env.cells.lookup x = some c ∧ h.IsCell c (some u))

structure Cx.Ok (X : Cx) : Prop where
  mod : Mod X.K X.mg X.base
  kind : X.env.scope.kind = .function
  glob : X.env.globals = mainGlobals
  blt : X.env.builtins = builtinsNs
  above : X.s₀.heap.objs.size ≤ X.env.locals
  inj : ∀ x y c, X.env.cells.lookup x = some c → X.env.cells.lookup y = some c → x = y
  has : ∀ x, (X.env.kindOf x = some .cell ∨ X.env.kindOf x = some .free) → ∃ c, X.env.cells.lookup x = some c
  cab : ∀ x c, X.fn x = true → X.env.cells.lookup x = some c → X.s₀.heap.objs.size ≤ c
  hd : X.calm = true → X.A.handled = none
  frames : X.A.frames = some X.stack
  stk : X.stack = X.outer ∨ (X.stack = X.env :: X.outer ∧ X.env.frame = some X.env.locals)
  exf : ∀ b ∈ X.ex, b ≠ X.env.locals ∧ ∀ x c, X.env.cells.lookup x = some c → c ≠ b
  bs : ∀ b o, X.base.get? b = some o → X.s₀.heap.get? b = some o ∧ X.H₀ b = none
  bsz : X.base.objs.size ≤ X.s₀.heap.objs.size
  noex : ∀ b o, X.base.get? b = some o → b ∉ X.ex
  exfs : ∀ b ∈ X.ex, b ∉ X.fs
  funs : X.s₀.heap.FunFrames X.base X.outer
  frf : ∀ b ∈ X.fs, X.H₀ b = none

structure Inv (X : Cx) (pins : List (Addr × Obj)) (σ : List (Option V)) (H : Hp) (s : Shared) : Prop where
  ok : X.Ok
  os : s.os = X.s₀.os
  bare : AllBare s.gens
  base : Un X.fs X.ex X.H₀ H X.s₀.heap s.heap
  loc : ∃ m, s.heap.Ns X.env.locals m ∧ ∀ (i : Nat) (x : Str) (v : V), X.N[i]? = some x → σ[i]? = some (some v) → Vis X.env.scope x → ∃ u, RelV v u ∧ Look X.env s.heap m x u
  cell : ∀ x c, X.env.cells.lookup x = some c → ∃ v, s.heap.IsCell c v
  free : H X.env.locals = none
  freeC : ∀ x c, X.env.cells.lookup x = some c → H c = none
  pin : ∀ p ∈ X.pn ++ pins, s.heap.get? p.1 = some p.2 ∧ H p.1 = none ∧ p.1 ≠ X.env.locals ∧ p.1 ∉ X.fs ∧ ∀ v, p.2.data ≠ .cell v
  hok : HOk X.prog X.w H s.heap
  len : σ.length = X.N.length

section
variable {X : Cx} {pins : List (Addr × Obj)} {σ : List (Option V)} {H H' : Hp} {s : Shared} {h' : Heap}

theorem Cx.Ok.nofr (ok : X.Ok) {b : Addr} {o : Obj} (e : X.base.get? b = some o) : b ∉ X.fs := fun hb => by
  have := (ok.funs.mem hb).1
  rw [e] at this; cases this
theorem Inv.bs (I : Inv X pins σ H s) : ∀ b o, X.base.get? b = some o → s.heap.get? b = some o ∧ H b = none := fun b o e =>
  ⟨I.base.keep b o (I.ok.bs b o e).1 (I.ok.bs b o e).2 (I.ok.nofr e) (I.ok.noex b o e), I.base.free b o (I.ok.bs b o e).1 (I.ok.bs b o e).2 (I.ok.noex b o e)⟩
theorem Inv.bk (I : Inv X pins σ H s) : ∀ b o, X.base.get? b = some o → s.heap.get? b = some o := fun b o e => (I.bs b o e).1
theorem Inv.mod (I : Inv X pins σ H s) : Mod X.K X.mg X.base := I.ok.mod
theorem Inv.kIn (I : Inv X pins σ H s) : X.K.In s.heap := I.ok.mod.kin.keeps I.bk
theorem Inv.lt (I : Inv X pins σ H s) : X.env.locals < s.heap.objs.size := let ⟨_, hn, _⟩ := I.loc; hn.lt
theorem Inv.sz (I : Inv X pins σ H s) : X.s₀.heap.objs.size ≤ s.heap.objs.size := Nat.le_trans I.ok.above (Nat.le_of_lt I.lt)
theorem Inv.nofs (I : Inv X pins σ H s) {a : Addr} (h : s.heap.objs.size ≤ a) : a ∉ X.fs := fun hb => by
  obtain ⟨_, o, ho, _⟩ := I.ok.funs.mem hb
  exact absurd (Nat.lt_of_lt_of_le (Heap.lt_size ho) (Nat.le_trans I.sz h)) (Nat.lt_irrefl _)
theorem Inv.cne (I : Inv X pins σ H s) : ∀ x c, X.env.cells.lookup x = some c → c ≠ X.env.locals := fun x c e z => by
  obtain ⟨v, o, ho, hd⟩ := I.cell x c e
  obtain ⟨m, ⟨o', es, ep, ho', hd', _⟩, _⟩ := I.loc
  rw [z, ho'] at ho; cases ho; rw [hd'] at hd; cases hd
theorem Inv.funs (I : Inv X pins σ H s) : s.heap.FunFrames X.base X.outer := by
  have all : ∀ (l : List Env), (∀ b ∈ frs l, b ∈ X.fs) → X.s₀.heap.FunFrames X.base l → s.heap.FunFrames X.base l := by
    intro l
    induction l with
    | nil => intro _ _; trivial
    | cons env r ih =>
      intro hs hl
      obtain ⟨hk, ⟨L, o, hf, hn, ho, hd⟩, hr⟩ := hl
      have hL : L ∈ X.fs := hs L (by unfold frs; rw [List.filterMap_cons, hf]; exact List.mem_cons_self)
      obtain ⟨sl, e⟩ := I.base.slot L o ho (I.ok.frf L hL) hL fun z => I.ok.exfs L z hL
      exact ⟨hk, ⟨L, _, hf, hn, e, hd⟩, ih (fun b hb => hs b (by unfold frs; rw [List.filterMap_cons, hf]; exact List.mem_cons_of_mem _ hb)) hr⟩
  exact all X.outer (fun _ hb => hb) I.ok.funs

theorem Inv.stack (I : Inv X pins σ H s) : s.heap.FunFrames X.base X.stack := by
  rcases I.ok.stk with e | ⟨e, hf⟩
  · rw [e]; exact I.funs
  · rw [e]
    obtain ⟨m, hn, _⟩ := I.loc
    refine .cons (by rw [I.ok.kind]; decide) hf hn ?_ I.funs
    exact Heap.get?_none_of_le (Nat.le_trans I.ok.bsz I.ok.above)
theorem Inv.stkSub (I : Inv X pins σ H s) : ∀ b ∈ frs X.stack, b ∈ X.env.locals :: X.fs := fun b hb => by
  rcases I.ok.stk with e | ⟨e, hf⟩
  · rw [e] at hb; exact List.mem_cons_of_mem _ hb
  · rw [e] at hb
    unfold frs at hb
    rw [List.filterMap_cons, hf] at hb
    exact hb
theorem Inv.stkFree (I : Inv X pins σ H s) : ∀ b ∈ frs X.stack, H b = none := fun b hb => by
  rcases List.mem_cons.mp (I.stkSub b hb) with e | hb
  · rw [e]; exact I.free
  · obtain ⟨_, o, ho, _⟩ := I.ok.funs.mem hb
    exact I.base.free b o ho (I.ok.frf b hb) fun z => I.ok.exfs b z hb

theorem Inv.step {g' : Array GenState} {t' : Nat} {d' : Drawn} {ch : List Addr} (I : Inv X pins σ H s)
    (hch : ∀ b ∈ ch, (b ∈ X.ex ∨ X.s₀.heap.objs.size ≤ b) ∧ b ≠ X.env.locals ∧ (∀ x c, X.env.cells.lookup x = some c → c ≠ b) ∧ ∀ p ∈ X.pn ++ pins, p.1 ≠ b)
    (keep : ∀ b o, b ≠ X.env.locals → b ∉ X.fs → b ∉ ch → s.heap.get? b = some o → H b = none → h'.get? b = some o)
    (slot : ∀ b o, b ≠ X.env.locals → b ∈ X.fs → b ∉ ch → s.heap.get? b = some o → H b = none → ∃ sl, h'.get? b = some { o with slots := sl }) (free : ∀ b o, b ∉ ch → s.heap.get? b = some o → H b = none → H' b = none)
    (there : ∀ b o, b ∉ ch → s.heap.get? b = some o → ∃ o', h'.get? b = some o')
    (tups : ∀ b xs, H b = some (.tup xs) → H' b = some (.tup xs)) (frzs : ∀ b o u, H b = some (.frz o u) → H' b = some (.frz o u)) (tbls : ∀ b ps, H b = some (.tbl ps) → ∃ more, H' b = some (.tbl (ps ++ more)))
    (ns : ∀ m, s.heap.Ns X.env.locals m → h'.Ns X.env.locals m) (hok : HOk X.prog X.w H' h') (hg : AllBare g') :
    Inv X pins σ H' { s with heap := h', gens := g', drawn := d', toks := t' } := by
  have neL : ∀ b o, X.s₀.heap.get? b = some o → b ≠ X.env.locals := fun b o e => Nat.ne_of_lt (Nat.lt_of_lt_of_le (Heap.lt_size e) I.ok.above)
  have neC : ∀ b o, X.s₀.heap.get? b = some o → b ∉ X.ex → b ∉ ch := fun b o e hx hb => by
    rcases (hch b hb).1 with z | z
    · exact hx z
    · exact absurd (Nat.lt_of_lt_of_le (Heap.lt_size e) z) (Nat.lt_irrefl _)
  have cellK : ∀ x c, X.env.cells.lookup x = some c → ∀ v, s.heap.IsCell c v → h'.IsCell c v := fun x c e v ⟨o, ho, hd⟩ => by
    have nch : c ∉ ch := fun z => (hch c z).2.2.1 x c e rfl
    by_cases hc : c ∈ X.fs
    · obtain ⟨sl, q⟩ := slot c o (I.cne x c e) hc nch ho (I.freeC x c e)
      exact ⟨_, q, hd⟩
    · exact ⟨o, keep c o (I.cne x c e) hc nch ho (I.freeC x c e), hd⟩
  refine ⟨I.ok, I.os, hg, ⟨fun b o e n hb hx => ?_, fun b o e n hb hx => ?_, fun b o e n hx => ?_, fun b o e hx => ?_, fun b xs e => tups b xs (I.base.tups b xs e), fun b o xs e => frzs b o xs (I.base.frzs b o xs e), fun b ps e => ?_⟩, ?_, fun x c e => ?_, ?_, fun x c e => ?_, fun p hp => ?_, hok, I.len⟩
  · exact keep b o (neL b o e) hb (neC b o e hx) (I.base.keep b o e n hb hx) (I.base.free b o e n hx)
  · obtain ⟨sl, e1⟩ := I.base.slot b o e n hb hx
    obtain ⟨sl', e2⟩ := slot b _ (neL b o e) hb (neC b o e hx) e1 (I.base.free b o e n hx)
    exact ⟨sl', e2⟩
  · obtain ⟨o', e1⟩ := I.base.there b o e hx
    exact free b o' (neC b o e hx) e1 (I.base.free b o e n hx)
  · obtain ⟨o', e1⟩ := I.base.there b o e hx
    exact there b o' (neC b o e hx) e1
  · obtain ⟨m1, e1⟩ := I.base.tbls b ps e
    obtain ⟨m2, e2⟩ := tbls b _ e1
    exact ⟨m1 ++ m2, by rw [e2, Array.append_assoc]⟩
  · obtain ⟨m, hn, hl⟩ := I.loc
    refine ⟨m, ns m hn, fun i x v e1 e2 e3 => ?_⟩
    obtain ⟨u, r, l⟩ := hl i x v e1 e2 e3
    refine ⟨u, r, ?_⟩
    rcases l with l | ⟨k, c, e, z⟩
    · exact .inl l
    · exact .inr ⟨k, c, e, cellK x c e _ z⟩
  · obtain ⟨v, z⟩ := I.cell x c e
    exact ⟨v, cellK x c e v z⟩
  · obtain ⟨m, ⟨o, _, _, ho, _⟩, _⟩ := I.loc
    exact free _ o (fun z => (hch _ z).2.1 rfl) ho I.free
  · obtain ⟨v, o, ho, hd⟩ := I.cell x c e
    exact free c o (fun z => (hch c z).2.2.1 x c e rfl) ho (I.freeC x c e)
  · obtain ⟨e, n, ne, nf, d⟩ := I.pin p hp
    have nch : p.1 ∉ ch := fun z => (hch p.1 z).2.2.2 p hp rfl
    exact ⟨keep p.1 p.2 ne nf nch e n, free p.1 p.2 nch e n, ne, nf, d⟩
theorem Inv.un {t' : Nat} (I : Inv X pins σ H s) (u : Un X.fs [] H H' s.heap h') (hok : HOk X.prog X.w H' h') : Inv X pins σ H' { s with heap := h', toks := t' } := by
  obtain ⟨m, ⟨o, es, ep, ho, r⟩, _⟩ := id I.loc
  obtain ⟨sl, hL⟩ := u.any ho I.free (by simp)
  exact I.step (g' := s.gens) (d' := s.drawn) (ch := []) (fun _ z => nomatch z) (fun b o _ hb _ e n => u.keep b o e n hb (by simp)) (fun b o _ hb _ e n => u.slot b o e n hb (by simp)) (fun b o _ e n => u.free b o e n (by simp)) (fun b o _ e => u.there b o e (by simp)) u.tups u.frzs u.tbls (fun m' hm => by
    obtain ⟨o', es', ep', ho', r'⟩ := hm
    rw [ho] at ho'; cases ho'
    exact ⟨_, es', ep', hL, r'⟩) hok I.bare
theorem Inv.call {g' : Array GenState} {t' : Nat} {d' : Drawn} {ch : List Addr} (I : Inv X pins σ H s) (u : Un (frs X.stack) ch H H' s.heap h') (hok : HOk X.prog X.w H' h') (hg : AllBare g')
    (hch : ∀ b ∈ ch, (b ∈ X.ex ∨ X.s₀.heap.objs.size ≤ b) ∧ b ≠ X.env.locals ∧ (∀ x c, X.env.cells.lookup x = some c → c ≠ b) ∧ ∀ p ∈ X.pn ++ pins, p.1 ≠ b) :
    Inv X pins σ H' { s with heap := h', gens := g', drawn := d', toks := t' } := by
  obtain ⟨m, ⟨o, es, ep, ho, r⟩, _⟩ := id I.loc
  obtain ⟨sl, hL⟩ := u.any ho I.free fun z => (hch _ z).2.1 rfl
  exact I.step (ch := ch) hch (fun b o hL hb hc e n => u.keep b o e n (fun z => (List.mem_cons.mp (I.stkSub b z)).elim hL hb) hc) (fun b o _ _ hc e n => u.any e n hc) (fun b o hc e n => u.free b o e n hc) (fun b o hc e => u.there b o e hc) u.tups u.frzs u.tbls (fun m' hm => by
    obtain ⟨o', es', ep', ho', r'⟩ := hm
    rw [ho] at ho'; cases ho'
    exact ⟨_, es', ep', hL, r'⟩) hok hg
theorem Inv.turned {t' : Nat} {it : Addr} (I : Inv X pins σ H s) (k : ∀ b o, b ≠ it → s.heap.get? b = some o → h'.get? b = some o) (hn : H it = none) (hL : it ≠ X.env.locals)
    (h1 : it ∈ X.ex ∨ X.s₀.heap.objs.size ≤ it) (h2 : ∀ x c, X.env.cells.lookup x = some c → c ≠ it) (h3 : ∀ p ∈ X.pn ++ pins, p.1 ≠ it) : Inv X pins σ H { s with heap := h', toks := t' } := by
  have nit : ∀ b u, H b = some u → b ≠ it := fun b u e z => by rw [z, hn] at e; cases e
  refine I.step (g' := s.gens) (d' := s.drawn) (ch := [it]) (fun b hb => ?_) (fun b o _ _ hc e _ => k b o (fun z => hc (by simp [z])) e) (fun b o _ _ hc e _ => ⟨o.slots, k b o (fun z => hc (by simp [z])) e⟩) (fun _ _ _ _ n => n)
    (fun b o hc e => ⟨o, k b o (fun z => hc (by simp [z])) e⟩) (fun _ _ e => e) (fun _ _ _ e => e) (fun b ps e => ⟨#[], by rw [e]; simp⟩) (fun m hm => ?_) (fun b u e => ?_) I.bare
  · have e : b = it := by simpa using hb
    subst e
    exact ⟨h1, hL, h2, h3⟩
  · obtain ⟨o, es, ep, ho, r⟩ := hm
    exact ⟨o, es, ep, k _ o (Ne.symm hL) ho, r⟩
  · refine (I.hok b u e).stay (fun c v hc q => k c v ?_ q) (fun _ q => q) fun _ _ q => q
    rcases hc with z | z
    · rw [z]; exact nit b u e
    · exact nit c _ z
theorem Inv.tok (I : Inv X pins σ H s) (t : Nat) : Inv X pins σ H { s with toks := t } := I.un (h' := s.heap) (t' := t) Un.refl I.hok
theorem Inv.kept {t' : Nat} (I : Inv X pins σ H s) (k : ∀ b u, s.heap.get? b = some u → h'.get? b = some u) : Inv X pins σ H { s with heap := h', toks := t' } := I.un (Un.kept k) (I.hok.kept k)
theorem Inv.laid {a : Addr} {o : HO} {t' : Nat} (I : Inv X pins σ H s) (k : ∀ b u, s.heap.get? b = some u → h'.get? b = some u) (hp : s.heap.objs.size ≤ a) (new : ObjOk X.prog X.w (upd H a o) h' a o) :
    Inv X pins σ (upd H a o) { s with heap := h', toks := t' } := I.un (Un.laid k hp (I.hok.fresh hp)) (I.hok.laid k hp new)
theorem Inv.write {x e : Addr} {o : HO} {t' : Nat} (I : Inv X pins σ H s) (mu : Mut (H x)) (he : e = x ∨ H e = some (.own x)) (k : ∀ b u, b ≠ e → s.heap.get? b = some u → h'.get? b = some u) (heo : ∃ u, h'.get? e = some u)
    (new : ObjOk X.prog X.w (upd H x o) h' x o) : Inv X pins σ (upd H x o) { s with heap := h', toks := t' } := I.un (Un.write mu he k heo) (I.hok.write mu he k heo new)
theorem Inv.weak {σ' : List (Option V)} (I : Inv X pins σ H s) (hl : σ'.length = σ.length) (w : ∀ (i : Nat) v, σ'[i]? = some (some v) → σ[i]? = some (some v)) : Inv X pins σ' H s :=
  ⟨I.ok, I.os, I.bare, I.base, let ⟨m, hn, hl'⟩ := I.loc; ⟨m, hn, fun i x v e1 e2 e3 => hl' i x v e1 (w i v e2) e3⟩, I.cell, I.free, I.freeC, I.pin, I.hok, hl.trans I.len⟩
theorem Inv.pins_of {pins' : List (Addr × Obj)} (I : Inv X pins σ H s) (h : ∀ p ∈ pins', s.heap.get? p.1 = some p.2 ∧ H p.1 = none ∧ p.1 ≠ X.env.locals ∧ p.1 ∉ X.fs ∧ ∀ v, p.2.data ≠ .cell v) : Inv X pins' σ H s :=
  ⟨I.ok, I.os, I.bare, I.base, I.loc, I.cell, I.free, I.freeC, fun p hp => (List.mem_append.mp hp).elim (fun z => I.pin p (List.mem_append_left _ z)) (h p), I.hok, I.len⟩

theorem nodup_ix {N : List Str} (hN : N.Nodup) {i j : Nat} {x : Str} (a : N[i]? = some x) (b : N[j]? = some x) : i = j := by
  obtain ⟨h1, e1⟩ := List.getElem?_eq_some_iff.mp a
  obtain ⟨h2, e2⟩ := List.getElem?_eq_some_iff.mp b
  exact (List.getElem_inj hN).mp (e1.trans e2.symm)

theorem store_ok2 {M : Model} {A : Around} {E : Value → Shared → Prop} {i : Nat} {x : Str} {v : V} {u : Value} {Q : Unit → Shared → Prop} (I : Inv X pins σ H s) (hN : X.N.Nodup) (hi : X.N[i]? = some x) (hx : Loc X.env.scope x) (r : RelV v u)
    (h : ∀ s', Inv X pins (σ.set i (some v)) H s' → (∃ a, Heap.SameBut a s.heap s'.heap ∧ (a = X.env.locals ∨ X.env.cells.lookup x = some a)) → Q () s') (hf : X.fn x = true ∨ X.env.scope.names.lookup x = some .local := by first | exact .inl rfl | exact .inr rfl | assumption) : wpAny M A (storeName X.env x u) Q E s := by
  obtain ⟨m, hn, hl⟩ := id I.loc
  have hcls : (X.env.scope.kind == .class || (X.env.scope.kind == .module && X.env.locals != X.env.globals)) = false := by rw [I.ok.kind]; rfl
  have hiσ : i < σ.length := by rw [I.len]; exact (List.getElem?_eq_some_iff.mp hi).1
  have cne := I.cne
  have tracked : ∀ {a : Addr} {h' : Heap}, (∃ o, s.heap.get? a = some o ∧ H a = none) → Heap.SameBut a s.heap h' → HOk X.prog X.w H h' := fun {a h'} ha hs b ob e => by
    obtain ⟨_, _, hfree⟩ := ha
    refine (I.hok b ob e).stay (fun c w' hc q => (hs.2 c ?_).trans q) (fun _ q => q) fun _ _ q => q
    rintro rfl
    rcases hc with rfl | hc
    · rw [hfree] at e; cases e
    · rw [hfree] at hc; cases hc
  rcases hx with hk | hk
  · refine wpAny_storeName_local hk hn (fun h' hn' hs => ?_) hcls
    obtain ⟨oL, _, _, hoL, _⟩ := id hn
    refine h _ ⟨I.ok, I.os, I.bare, ⟨fun b o e n hb hx => ?_, fun b o e n hb hx => ?_, I.base.free, fun b o e hx => ?_, I.base.tups, I.base.frzs, I.base.tbls⟩, ⟨_, hn', fun j y v' e1 e2 e3 => ?_⟩, fun y c e => ?_, I.free, I.freeC, fun p hp => ?_, tracked ⟨oL, hoL, I.free⟩ hs, by simpa using I.len⟩ ⟨_, hs, .inl rfl⟩
    · exact (hs.2 b (Nat.ne_of_lt (Nat.lt_of_lt_of_le (Heap.lt_size e) I.ok.above))).trans (I.base.keep b o e n hb hx)
    · obtain ⟨sl, e1⟩ := I.base.slot b o e n hb hx
      exact ⟨sl, (hs.2 b (Nat.ne_of_lt (Nat.lt_of_lt_of_le (Heap.lt_size e) I.ok.above))).trans e1⟩
    · obtain ⟨o', e1⟩ := I.base.there b o e hx
      exact ⟨o', (hs.2 b (Nat.ne_of_lt (Nat.lt_of_lt_of_le (Heap.lt_size e) I.ok.above))).trans e1⟩
    · by_cases hj : j = i
      · subst hj
        rw [hi] at e1; cases e1
        rw [List.getElem?_set_self hiσ] at e2
        cases e2
        exact ⟨u, r, .inl ⟨hk, by simp⟩⟩
      · rw [List.getElem?_set_ne (Ne.symm hj)] at e2
        obtain ⟨u', r', q⟩ := hl j y v' e1 e2 e3
        refine ⟨u', r', ?_⟩
        rcases q with ⟨k, e⟩ | ⟨k, c, e, z⟩
        · refine .inl ⟨k, ?_⟩
          have : y ≠ x := fun e => hj (nodup_ix hN e1 (e ▸ hi))
          simp [this, e]
        · exact .inr ⟨k, c, e, z.sameBut hs (cne y c e)⟩
    · obtain ⟨w', z⟩ := I.cell y c e
      exact ⟨w', z.sameBut hs (cne y c e)⟩
    · obtain ⟨e, n, ne, nf, d⟩ := I.pin p hp
      exact ⟨(hs.2 p.1 ne).trans e, n, ne, nf, d⟩
  · have hfn : X.fn x = true := by
      rcases hf with z | z
      · exact z
      · rw [z] at hk; cases hk
    obtain ⟨c, hc⟩ := I.ok.has x (.inl hk)
    obtain ⟨w', z⟩ := I.cell x c hc
    refine wpAny_storeName_cell I.ok.kind hk hc z (fun h' hc' hs => ?_)
    obtain ⟨oc, hoc, hocd⟩ := id z
    refine h { s with heap := h' } ⟨I.ok, I.os, I.bare, ⟨fun b o e n hb hx => ?_, fun b o e n hb hx => ?_, I.base.free, fun b o e hx => ?_, I.base.tups, I.base.frzs, I.base.tbls⟩, ⟨m, hn.sameBut hs (Ne.symm (cne x c hc)), fun j y v' e1 e2 e3 => ?_⟩, fun y c' e => ?_, I.free, I.freeC, fun p hp => ?_, tracked ⟨oc, hoc, I.freeC x c hc⟩ hs, by simpa using I.len⟩ ⟨c, hs, .inr hc⟩
    · exact (hs.2 b (Nat.ne_of_lt (Nat.lt_of_lt_of_le (Heap.lt_size e) (I.ok.cab x c hfn hc)))).trans (I.base.keep b o e n hb hx)
    · obtain ⟨sl, e1⟩ := I.base.slot b o e n hb hx
      exact ⟨sl, (hs.2 b (Nat.ne_of_lt (Nat.lt_of_lt_of_le (Heap.lt_size e) (I.ok.cab x c hfn hc)))).trans e1⟩
    · obtain ⟨o', e1⟩ := I.base.there b o e hx
      exact ⟨o', (hs.2 b (Nat.ne_of_lt (Nat.lt_of_lt_of_le (Heap.lt_size e) (I.ok.cab x c hfn hc)))).trans e1⟩
    · by_cases hj : j = i
      · subst hj
        rw [hi] at e1; cases e1
        rw [List.getElem?_set_self hiσ] at e2
        cases e2
        exact ⟨u, r, .inr ⟨.inl hk, c, hc, hc'⟩⟩
      · rw [List.getElem?_set_ne (Ne.symm hj)] at e2
        obtain ⟨u', r', q⟩ := hl j y v' e1 e2 e3
        refine ⟨u', r', ?_⟩
        rcases q with q | ⟨k, c', e, z'⟩
        · exact .inl q
        · refine .inr ⟨k, c', e, z'.sameBut hs ?_⟩
          rintro rfl
          exact hj (nodup_ix hN e1 (I.ok.inj _ _ _ e hc ▸ hi))
    · by_cases hcc : c' = c
      · subst hcc; exact ⟨_, hc'⟩
      · obtain ⟨w2, z2⟩ := I.cell y c' e
        exact ⟨w2, z2.sameBut hs hcc⟩
    · obtain ⟨e, n, ne, nf, d⟩ := I.pin p hp
      refine ⟨(hs.2 p.1 ?_).trans e, n, ne, nf, d⟩
      intro q
      rw [q, hoc] at e
      have q' : oc = p.2 := Option.some.inj e
      exact d w' (by rw [← q']; exact hocd)
theorem store_ok {M : Model} {A : Around} {E : Value → Shared → Prop} {i : Nat} {x : Str} {v : V} {u : Value} {Q : Unit → Shared → Prop} (I : Inv X pins σ H s) (hN : X.N.Nodup) (hi : X.N[i]? = some x) (hx : Loc X.env.scope x) (r : RelV v u)
    (h : ∀ s', Inv X pins (σ.set i (some v)) H s' → Q () s') (hf : X.fn x = true ∨ X.env.scope.names.lookup x = some .local := by first | exact .inl rfl | exact .inr rfl | assumption) : wpAny M A (storeName X.env x u) Q E s :=
  store_ok2 I hN hi hx r (fun s' I' _ => h s' I') hf
theorem Inv.call' {s' : Shared} {ch : List Addr} (I : Inv X pins σ H s) (ho : s'.os = s.os) (u : Un (frs X.stack) ch H H' s.heap s'.heap) (hok : HOk X.prog X.w H' s'.heap) (hg : AllBare s'.gens)
    (hch : ∀ b ∈ ch, (b ∈ X.ex ∨ X.s₀.heap.objs.size ≤ b) ∧ b ≠ X.env.locals ∧ (∀ x c, X.env.cells.lookup x = some c → c ≠ b) ∧ ∀ p ∈ X.pn ++ pins, p.1 ≠ b) : Inv X pins σ H' s' := by
  obtain ⟨h', g', d', t', o'⟩ := s'
  have e : o' = s.os := ho
  subst e
  exact I.call (g' := g') (t' := t') (d' := d') u hok hg hch
end

abbrev XK := Value → Option Addr → Hp → Prop
abbrev St := List (Option V)
abbrev VK := V → Hp → Prop
abbrev TE := St → Hp → VK → Prop
abbrev TT := St → Hp → (Bool → Hp → Prop) → Prop
abbrev TA := St → Hp → (List V → Hp → Prop) → Prop
structure Ends where
  nx : St → Hp → Prop
  rt : VK
  bk : St → Hp → Prop := fun _ _ => False
  ct : St → Hp → Prop := fun _ _ => False
abbrev TS := Ends → St → Hp → Prop

def EP (X : Cx) (pins : List (Addr × Obj)) (σ : St) (Q : VK) (u : Value) (s' : Shared) : Prop := ∃ v H', Inv X pins σ H' s' ∧ RelV v u ∧ Q v H'
def TP (X : Cx) (pins : List (Addr × Obj)) (σ : St) (Q : Bool → Hp → Prop) (b : Bool) (s' : Shared) : Prop := ∃ H', Inv X pins σ H' s' ∧ Q b H'
def AP (X : Cx) (pins : List (Addr × Obj)) (σ : St) (Q : List V → Hp → Prop) (us : List Value) (s' : Shared) : Prop := ∃ vs H', Inv X pins σ H' s' ∧ Vals vs us ∧ Q vs H'
def SP (X : Cx) (pins : List (Addr × Obj)) (D : Ends) (f : Flow) (s' : Shared) : Prop :=
  match f with
  | .next => ∃ σ' H', Inv X pins σ' H' s' ∧ D.nx σ' H'
  | .brk => ∃ σ' H', Inv X pins σ' H' s' ∧ D.bk σ' H'
  | .cont => ∃ σ' H', Inv X pins σ' H' s' ∧ D.ct σ' H'
  | .ret u => ∃ v σ' H', Inv X pins σ' H' s' ∧ RelV v u ∧ D.rt v H'

def PE (X : Cx) (e : Expr) (t : TE) : Prop :=
  ∀ (pins : List (Addr × Obj)) (s : Shared) (σ : St) (H : Hp) (Q : VK), Inv X pins σ H s → t σ H Q → wpAny (model X.prog X.w) X.A (eval e X.env) (EP X pins σ Q) X.xe s
def PT (X : Cx) (e : Expr) (t : TT) : Prop :=
  ∀ (pins : List (Addr × Obj)) (s : Shared) (σ : St) (H : Hp) (Q : Bool → Hp → Prop), Inv X pins σ H s → t σ H Q → wpAny (model X.prog X.w) X.A (isTrue e X.env (eval e X.env)) (TP X pins σ Q) X.xe s
def PW (X : Cx) (e : Expr) (t : TT) : Prop :=
  ∀ (whole : Sem Value) (pins : List (Addr × Obj)) (s : Shared) (σ : St) (H : Hp) (Q : Bool → Hp → Prop), Inv X pins σ H s → t σ H Q → wpAny (model X.prog X.w) X.A (isTrue e X.env whole) (TP X pins σ Q) X.xe s
theorem PW.pt {X : Cx} {e : Expr} {t : TT} (h : PW X e t) : PT X e t := h _
def PA (X : Cx) (es : List Expr) (t : TA) : Prop :=
  ∀ (pos : Pos) (pins : List (Addr × Obj)) (s : Shared) (σ : St) (H : Hp) (Q : List V → Hp → Prop), Inv X pins σ H s → t σ H Q → wpAny (model X.prog X.w) X.A (spliced (backTo pos (starEach es X.env))) (AP X pins σ Q) X.xe s
def PS (X : Cx) (st : Stmt) (t : TS) : Prop :=
  ∀ (pins : List (Addr × Obj)) (s : Shared) (σ : St) (H : Hp) (D : Ends), Inv X pins σ H s → t D σ H → wpAny (model X.prog X.w) X.A (exec st X.env) (SP X pins D) X.xe s
def PSs (X : Cx) (st : List Stmt) (t : TS) : Prop :=
  ∀ (pins : List (Addr × Obj)) (s : Shared) (σ : St) (H : Hp) (D : Ends), Inv X pins σ H s → t D σ H → wpAny (model X.prog X.w) X.A (execs st X.env) (SP X pins D) X.xe s
theorem thn {α : Type} {t : Sem α} {Q Q' : α → Shared → Prop} {M : Model} {A : Around} {E : Value → Shared → Prop} {s : Shared} (h : wpAny M A t Q E s) (hQ : ∀ a s, Q a s → Q' a s) : wpAny M A t Q' E s := wpAny_mono h hQ fun _ _ x => x
end L2

namespace L2
open PySem PySem.Spec PyProof.Rows
section
variable {X : Cx}

def tVar (i : Nat) : TE := fun σ H Q => ∃ v, σ[i]? = some (some v) ∧ Q v H
def tC (v : V) : TE := fun _ H Q => Q v H
theorem pe_var {i : Nat} {x : Str} {pos : Pos} (hN : X.N[i]? = some x) (hv : Vis X.env.scope x) (hd : (x == ("__debug__" : Str)) = false := by decide) (hcd : (x == ("__classdict__" : Str)) = false := by decide) : PE X (.Name x pos) (tVar i) := by
  intro pins s σ H Q I h
  obtain ⟨v, e, h⟩ := h
  obtain ⟨m, hn, hl⟩ := I.loc
  obtain ⟨u, r, l⟩ := hl i x v hN e hv
  have fin : EP X pins σ Q u s := ⟨v, H, I, r, h⟩
  rcases l with ⟨hk, hm⟩ | ⟨hk, c, hc, hcell⟩
  · exact wpAny_Name (wpAny_loadName_local I.ok.kind hk hn hm fin) hd
  · rcases hk with hk | hk
    · exact wpAny_Name (wpAny_loadName_cell I.ok.kind hk hc hcell fin) hd
    · exact wpAny_Name (wpAny_loadName_free I.ok.kind hk hc hcell fin hcd) hd
theorem pe_int {i j pos} : PE X (.Constant (.int i) j pos) (tC (.int i)) := fun _ _ _ H _ I h => wpAny_Constant_int ⟨.int i, H, I.tok _, ⟨_, rfl⟩, h⟩
theorem pe_bl {b j pos} : PE X (.Constant (.bool b) j pos) (tC (.bl b)) := fun _ _ _ H _ I h => Constant_bool ⟨.bl b, H, I, rfl, h⟩
theorem pe_str {x j pos} : PE X (.Constant (.str x) j pos) (tC (.str x)) := fun _ _ _ H _ I h => Calls.Constant_str ⟨.str x, H, I.tok _, ⟨_, rfl⟩, h⟩

def Gl (X : Cx) (x : Str) : Prop := X.env.kindOf x = some .globalImplicit
theorem ld_glob {E : Value → Shared → Prop} {pins : List (Addr × Obj)} {s : Shared} {σ : St} {H : Hp} {x : Str} {u : Value} {pos : Pos} {Q : Value → Shared → Prop} (I : Inv X pins σ H s) (hg : Gl X x) (hm : X.mg x = some u) (h : Q u s)
    (hd : (x == ("__debug__" : Str)) = false := by decide) : wpAny (model X.prog X.w) X.A (eval (.Name x pos) X.env) Q E s :=
  Calls.Name_function_global I.ok.kind hg (Calls.loadGlobal_global (by rw [I.ok.glob]; exact I.mod.glob.keeps I.bk) hm h) hd
theorem ld_blt {E : Value → Shared → Prop} {pins : List (Addr × Obj)} {s : Shared} {σ : St} {H : Hp} {x : Str} {u : Value} {pos : Pos} {Q : Value → Shared → Prop} (I : Inv X pins σ H s) (hg : Gl X x) (hm : X.mg x = none) (hv : bootBuiltins x = some u) (h : Q u s)
    (hn : x ≠ "__name__" := by decide) (hd : (x == ("__debug__" : Str)) = false := by decide) : wpAny (model X.prog X.w) X.A (eval (.Name x pos) X.env) Q E s := by
  obtain ⟨mb, h1, h2⟩ := I.mod.blt
  exact Calls.Name_function_global I.ok.kind hg (Calls.loadGlobal_builtin (by rw [I.ok.glob]; exact I.mod.glob.keeps I.bk) hm (by rw [I.ok.blt]; exact h1.keeps I.bk) ((h2 x hn).trans hv) h) hd
theorem pe_glob {x : Str} {v : V} {u : Value} {pos : Pos} (hg : Gl X x) (hm : X.mg x = some u) (r : RelV v u) (hd : (x == ("__debug__" : Str)) = false := by decide) : PE X (.Name x pos) (tC v) :=
  fun _ _ _ H _ I h => ld_glob I hg hm ⟨v, H, I, r, h⟩ hd
theorem pe_bltn {x : Str} {v : V} {u : Value} {pos : Pos} (hg : Gl X x) (hm : X.mg x = none) (hv : bootBuiltins x = some u) (r : RelV v u) (hn : x ≠ "__name__" := by decide) (hd : (x == ("__debug__" : Str)) = false := by decide) : PE X (.Name x pos) (tC v) :=
  fun _ _ _ H _ I h => ld_blt I hg hm hv ⟨v, H, I, r, h⟩ hn hd

variable {a b : Expr} {ta tb : TE} {pos : Pos}
def tB (t : TE) : TT := fun σ H Q => t σ H fun x H1 => ∃ c, x = .bl c ∧ Q c H1
theorem pt_val {e : Expr} {t : TE} (h : PE X e t) (he : ∀ whole, isTrue e X.env whole = (do let v ← whole; standAt e.pos; holding [v] (truthy v)) := by intro _; rfl) : PT X e (tB t) := by
  intro pins s σ H Q I hw
  refine isTrue_plain (thn (h pins s σ H _ I hw) fun v s1 ⟨x, H1, I1, r1, q1⟩ => ?_) (he _)
  obtain ⟨d, rfl, q⟩ := q1
  cases r1
  exact wpAny_truthy_bool ⟨H1, I1, q⟩

variable {tA tB' : TT} {rest : List Expr}
def tAnd (t u : TT) : TT := fun σ H Q => t σ H fun c H1 => if c = true then u σ H1 Q else Q false H1
def tOr (t u : TT) : TT := fun σ H Q => t σ H fun c H1 => if c = true then Q true H1 else u σ H1 Q
def tNot (t : TT) : TT := fun σ H Q => t σ H fun c H1 => Q (!c) H1
theorem pw_and1 (ha : PT X a tA) : PW X (.BoolOp .And [a] pos) tA := by
  intro wh pins s σ H Q I h
  refine isTrue_and (thn (ha pins s σ H Q I h) fun c s1 e => ?_)
  cases c with
  | true => exact isTrue_and_nil e
  | false => exact e
theorem pw_or1 (ha : PT X a tA) : PW X (.BoolOp .Or [a] pos) tA := by
  intro wh pins s σ H Q I h
  refine isTrue_or (thn (ha pins s σ H Q I h) fun c s1 e => ?_)
  cases c with
  | false => exact isTrue_or_nil e
  | true => exact e
theorem pw_and (ha : PT X a tA) (hb : PW X (.BoolOp .And (b :: rest) pos) tB') : PW X (.BoolOp .And (a :: b :: rest) pos) (tAnd tA tB') := by
  intro wh pins s σ H Q I h
  refine isTrue_and (thn (ha pins s σ H _ I h) fun c s1 ⟨H1, I1, q1⟩ => ?_)
  cases c with
  | true => exact hb wh pins s1 σ H1 Q I1 q1
  | false => exact ⟨H1, I1, q1⟩
theorem pw_or (ha : PT X a tA) (hb : PW X (.BoolOp .Or (b :: rest) pos) tB') : PW X (.BoolOp .Or (a :: b :: rest) pos) (tOr tA tB') := by
  intro wh pins s σ H Q I h
  refine isTrue_or (thn (ha pins s σ H _ I h) fun c s1 ⟨H1, I1, q1⟩ => ?_)
  cases c with
  | true => exact ⟨H1, I1, q1⟩
  | false => exact hb wh pins s1 σ H1 Q I1 q1
theorem pt_not (ha : PT X a tA) : PT X (.UnaryOp .Not a pos) (tNot tA) := by
  intro pins s σ H Q I h
  exact isTrue_not (ha pins s σ H (fun c H1 => Q (!c) H1) I h)
def tAndV (ta tb : TE) : TE := fun σ H Q => ta σ H fun x H1 => ∃ c, x = .bl c ∧ if c = true then tb σ H1 Q else Q (.bl false) H1
def tNotV (ta : TE) : TE := fun σ H Q => ta σ H fun x H1 => ∃ c, x = .bl c ∧ Q (.bl (!c)) H1
theorem pe_one {op} {t : TE} (h : PE X a t) : PE X (.BoolOp op [a] pos) t := fun pins s σ H Q I hw => BoolOp_one (h pins s σ H Q I hw)
theorem pe_and (ha : PE X a ta) (hb : PE X (.BoolOp .And (b :: rest) pos) tb) : PE X (.BoolOp .And (a :: b :: rest) pos) (tAndV ta tb) := by
  intro pins s σ H Q I h
  refine BoolOp_and (thn (ha pins s σ H _ I h) fun v s1 ⟨x, H1, I1, r1, q1⟩ => ?_)
  obtain ⟨c, rfl, q1⟩ := q1
  cases r1
  refine wpAny_truthy_bool ?_
  cases c with
  | true => exact hb pins s1 σ H1 Q I1 q1
  | false => exact ⟨.bl false, H1, I1, rfl, q1⟩
theorem pe_not (ha : PE X a ta) : PE X (.UnaryOp .Not a pos) (tNotV ta) := by
  intro pins s σ H Q I h
  refine UnaryOp_ (thn (ha pins s σ H _ I h) fun v s1 ⟨x, H1, I1, r1, q1⟩ => ?_)
  obtain ⟨c, rfl, q1⟩ := q1
  cases r1
  exact not_of (wpAny_truthy_bool ⟨.bl (!c), H1, I1, rfl, q1⟩)
def tIf (t : TT) (ta tb : TE) : TE := fun σ H Q => t σ H fun c H1 => if c = true then ta σ H1 Q else tb σ H1 Q
theorem pe_ifExp {c : Expr} (hc : PT X c tA) (ha : PE X a ta) (hb : PE X b tb) : PE X (.IfExp c a b pos) (tIf tA ta tb) := by
  intro pins s σ H Q I h
  refine wpAny_IfExp (thn (hc pins s σ H _ I h) fun d s1 ⟨H1, I1, q1⟩ => ?_)
  cases d with
  | true => exact ha pins s1 σ H1 Q I1 q1
  | false => exact hb pins s1 σ H1 Q I1 q1
end
end L2

namespace L2
open PySem PySem.Spec PyProof.Rows

def SqL (K : PySem.W.Frag) (H : Hp) (a : Addr) (xs : List V) : Prop :=
  Rd H a (.lst xs) ∨
    ∃ (o : Obj) (its : Array Value) (n : Nat), K.lookup a = some o ∧ o.cls = .type "list" ∧ o.dict = none ∧ o.data = .seq its n ∧ its.size ≤ sizeLine ∧ Vals xs its.toList
def SqT (K : PySem.W.Frag) (H : Hp) (a : Addr) (xs : List V) : Prop :=
  Rd H a (.tup xs) ∨
    ∃ (o : Obj) (its : Array Value) (n : Nat), K.lookup a = some o ∧ o.cls = .type "tuple" ∧ o.data = .seq its n ∧ its.size ≤ sizeLine ∧ Vals xs its.toList
def absV : Value → Option V
  | .none => some .non
  | .bool b => some (.bl b)
  | .int i _ => some (.int i)
  | .str x _ => some (.str x)
  | .bytes b _ => some (.byt b)
  | .float b _ => some (.flt b)
  | .ref a => some (.ref a)
  | .type n => some (.ty n)
  | _ => none
theorem RelV.abs {x : V} {u : Value} (r : RelV x u) : absV u = some x := by
  cases x with
  | non => cases r; rfl
  | bl _ => cases r; rfl
  | int _ => obtain ⟨t, rfl⟩ := r; rfl
  | str _ => obtain ⟨t, rfl⟩ := r; rfl
  | byt _ => obtain ⟨t, rfl⟩ := r; rfl
  | flt _ => obtain ⟨t, rfl⟩ := r; rfl
  | ref _ => cases r; rfl
  | ty _ => cases r; rfl
theorem RelV.inj {x y : V} {u : Value} (r : RelV x u) (q : RelV y u) : x = y := Option.some.inj (r.abs.symm.trans q.abs)
theorem Vals.inj : ∀ {xs ys : List V} {us : List Value}, Vals xs us → Vals ys us → xs = ys
  | _, _, _, .nil, .nil => rfl
  | _, _, _, .cons r t, .cons r' t' => by rw [r.inj r', Vals.inj t t']
section
variable {X : Cx} {pins : List (Addr × Obj)} {σ : St} {H : Hp} {s : Shared} {a : Addr} {xs ys : List V}
theorem SqL.of {K : PySem.W.Frag} (h : H a = some (.lst xs)) : SqL K H a xs := .inl (.inl h)
theorem SqT.of {K : PySem.W.Frag} (h : H a = some (.tup xs)) : SqT K H a xs := .inl (.inl h)
theorem Inv.list (I : Inv X pins σ H s) (h : SqL X.K H a xs) : ∃ its : List Value, Vals xs its ∧ PlainL s.heap a its.toArray ∧ xs.length ≤ sizeLine := by
  rcases h with h | ⟨o, its, n, hk, hc, hd, hs, hz, r⟩
  · obtain ⟨z, its, n, r, e⟩ := h.ok I.hok
    exact ⟨its, r, ⟨_, n, e, rfl, rfl, rfl⟩, z⟩
  · refine ⟨its.toList, r, ⟨o, n, I.kIn a o hk, hc, hd, by simpa using hs⟩, ?_⟩
    have e := r.length
    simp only [Array.length_toList] at e
    omega
theorem Inv.tuple (I : Inv X pins σ H s) (h : SqT X.K H a xs) : ∃ its : List Value, Vals xs its ∧ IsTup s.heap a its.toArray ∧ xs.length ≤ sizeLine := by
  rcases h with h | ⟨o, its, n, hk, hc, hs, hz, r⟩
  · obtain ⟨z, its, r, p⟩ := h.ok I.hok
    exact ⟨its, r, p, z⟩
  · refine ⟨its.toList, r, ⟨o, I.kIn a o hk, hc, n, by simpa using hs⟩, ?_⟩
    have e := r.length
    simp only [Array.length_toList] at e
    omega
theorem Inv.list_inj (I : Inv X pins σ H s) (h : SqL X.K H a xs) (h' : SqL X.K H a ys) : xs = ys := by
  obtain ⟨its, r, ⟨o, n, e, _, _, d⟩, _⟩ := I.list h
  obtain ⟨its', r', ⟨o', n', e', _, _, d'⟩, _⟩ := I.list h'
  rw [e] at e'; cases e'
  rw [d] at d'
  injection d' with d1 _
  have : its = its' := by simpa using congrArg Array.toList d1
  subst this
  exact r.inj r'
theorem Inv.tuple_inj (I : Inv X pins σ H s) (h : SqT X.K H a xs) (h' : SqT X.K H a ys) : xs = ys := by
  obtain ⟨its, r, ⟨o, e, _, n, d⟩, _⟩ := I.tuple h
  obtain ⟨its', r', ⟨o', e', _, n', d'⟩, _⟩ := I.tuple h'
  rw [e] at e'; cases e'
  rw [d] at d'
  injection d' with d1 _
  have : its = its' := by simpa using congrArg Array.toList d1
  subst this
  exact r.inj r'
end

abbrev Cx.wish (X : Cx) (E : Value → Shared → Prop) : Cx := { X with xe := E }
abbrev Cx.nox (X : Cx) : Cx := X.wish fun _ _ => False
theorem Cx.Ok.wish {X : Cx} (ok : X.Ok) (E : Value → Shared → Prop) : (X.wish E).Ok :=
  ⟨ok.mod, ok.kind, ok.glob, ok.blt, ok.above, ok.inj, ok.has, ok.cab, ok.hd, ok.frames, ok.stk, ok.exf, ok.bs, ok.bsz, ok.noex, ok.exfs, ok.funs, ok.frf⟩
theorem Cx.Ok.unwish {X : Cx} {E : Value → Shared → Prop} (ok : (X.wish E).Ok) : X.Ok :=
  ⟨ok.mod, ok.kind, ok.glob, ok.blt, ok.above, ok.inj, ok.has, ok.cab, ok.hd, ok.frames, ok.stk, ok.exf, ok.bs, ok.bsz, ok.noex, ok.exfs, ok.funs, ok.frf⟩
section
variable {X : Cx} {pins : List (Addr × Obj)} {σ : St} {H : Hp} {s : Shared} {E : Value → Shared → Prop}
theorem Inv.wish (I : Inv X pins σ H s) (E : Value → Shared → Prop) : Inv (X.wish E) pins σ H s := ⟨I.ok.wish E, I.os, I.bare, I.base, I.loc, I.cell, I.free, I.freeC, I.pin, I.hok, I.len⟩
theorem Inv.unwish (I : Inv (X.wish E) pins σ H s) : Inv X pins σ H s := ⟨I.ok.unwish, I.os, I.bare, I.base, I.loc, I.cell, I.free, I.freeC, I.pin, I.hok, I.len⟩
theorem SP.unwish {D : Ends} {f : Flow} {s' : Shared} (h : SP (X.wish E) pins D f s') : SP X pins D f s' := by
  cases f with
  | next => obtain ⟨σ', H', I, q⟩ := h; exact ⟨σ', H', I.unwish, q⟩
  | brk => obtain ⟨σ', H', I, q⟩ := h; exact ⟨σ', H', I.unwish, q⟩
  | cont => obtain ⟨σ', H', I, q⟩ := h; exact ⟨σ', H', I.unwish, q⟩
  | ret u => obtain ⟨v, σ', H', I, r, q⟩ := h; exact ⟨v, σ', H', I.unwish, r, q⟩
theorem PSs.nox {st : List Stmt} {t : TS} (h : PSs X.nox st t) : PSs X st t := fun pins s σ H D I hw =>
  wpAny_mono (h pins s σ H D (I.wish _) hw) (fun _ _ q => q.unwish) fun _ _ z => False.elim z
end

section
variable {X : Cx} {st : Stmt} {rest : List Stmt} {t u : TS} {e : Expr} {te : TE} {pos : Pos}
def tNext : TS := fun D σ H => D.nx σ H
def tSeq (t u : TS) : TS := fun D σ H => t { D with nx := u D } σ H
theorem pss_nil : PSs X [] tNext := fun _ _ σ H _ I h => wpAny_execs_nil ⟨σ, H, I, h⟩
theorem pss_cons (h1 : PS X st t) (h2 : PSs X rest u) : PSs X (st :: rest) (tSeq t u) := by
  intro pins s σ H D I h
  refine wpAny_execs_cons (thn (h1 pins s σ H { D with nx := u D } I h) fun f s1 q => ?_)
  cases f with
  | next =>
    obtain ⟨σ', H', I', q⟩ := q
    exact h2 pins s1 σ' H' D I' q
  | ret v => exact q
  | brk => exact q
  | cont => exact q
theorem pss_one (h1 : PS X st t) : PSs X [st] t := by
  intro pins s σ H D I h
  refine wpAny_execs_cons (thn (h1 pins s σ H D I h) fun f s1 q => ?_)
  cases f with
  | next => exact wpAny_execs_nil q
  | ret v => exact q
  | brk => exact q
  | cont => exact q
theorem Inv.quiet {pins : List (Addr × Obj)} {σ : St} {H : Hp} {s : Shared} (I : Inv X pins σ H s) : interactive X.env = false := by simp [interactive, I.ok.kind]
def tDrop (te : TE) : TS := fun D σ H => te σ H fun _ H1 => D.nx σ H1
theorem ps_expr (he : PE X e te) (hs : swapsWith e none pos.line X.env = pure false := by rfl) : PS X (.Expr e pos) (tDrop te) := by
  intro pins s σ H D I h
  exact wpAny_Expr_any (thn (he pins s σ H _ I h) fun v s1 ⟨x, H1, I1, r1, q1⟩ => ⟨σ, H1, I1, q1⟩) I.quiet hs
def tRet (te : TE) : TS := fun D σ H => te σ H D.rt
theorem ps_ret (he : PE X e te) : PS X (.Return (some e) pos) (tRet te) := by
  intro pins s σ H D I h
  exact wpAny_Return_some (thn (he pins s σ H _ I h) fun v s1 ⟨x, H1, I1, r1, q1⟩ => ⟨x, σ, H1, I1, r1, q1⟩)
def tIfS (c : TT) (t u : TS) : TS := fun D σ H => c σ H fun b H1 => if b = true then t D σ H1 else u D σ H1
theorem ps_if {c : Expr} {a b : List Stmt} {tc : TT} (hc : PT X c tc) (ha : PSs X a t) (hb : PSs X b u) : PS X (.If c a b pos) (tIfS tc t u) := by
  intro pins s σ H D I h
  refine wpAny_If (thn (hc pins s σ H _ I h) fun d s1 ⟨H1, I1, q1⟩ => ?_)
  cases d with
  | true => exact ha pins s1 σ H1 D I1 q1
  | false => exact hb pins s1 σ H1 D I1 q1
def tNever : TS := fun _ _ _ => False
theorem pss_never {sts : List Stmt} : PSs X sts tNever := fun _ _ _ _ _ _ h => h.elim
end

abbrev TG := V → St → Hp → (St → Hp → Prop) → Prop
abbrev TGs := List V → St → Hp → (St → Hp → Prop) → Prop
def PG (X : Cx) (target : Expr) (t : TG) : Prop :=
  ∀ (pins : List (Addr × Obj)) (s : Shared) (σ : St) (H : Hp) (v : V) (u : Value) (Q : St → Hp → Prop), Inv X pins σ H s → RelV v u → t v σ H Q →
    wpAny (model X.prog X.w) X.A (assign target X.env u) (fun _ s' => ∃ σ' H', Inv X pins σ' H' s' ∧ Q σ' H') X.xe s
def PGs (X : Cx) (ts : List Expr) (t : TGs) : Prop :=
  ∀ (pins : List (Addr × Obj)) (s : Shared) (σ : St) (H : Hp) (vs : List V) (us : List Value) (Q : St → Hp → Prop), Inv X pins σ H s → Vals vs us → t vs σ H Q →
    wpAny (model X.prog X.w) X.A (assignInOrder ((assignEach ts X.env).map (·.2)) us) (fun _ s' => ∃ σ' H', Inv X pins σ' H' s' ∧ Q σ' H') X.xe s
abbrev TSet := V → V → V → Hp → (Hp → Prop) → Prop
def PSet (X : Cx) (t : TSet) : Prop :=
  ∀ (pins : List (Addr × Obj)) (s : Shared) (σ : St) (H : Hp) (o i v : V) (ov iv u : Value) (Q : Hp → Prop), Inv X pins σ H s → RelV o ov → RelV i iv → RelV v u → t o i v H Q →
    wpAny (model X.prog X.w) X.A (setItem ov iv u) (fun _ s' => ∃ H', Inv X pins σ H' s' ∧ Q H') X.xe s
abbrev TIp := V → V → Hp → VK → Prop
def PIp (X : Cx) (op : Operator) (t : TIp) : Prop :=
  ∀ (pins : List (Addr × Obj)) (s : Shared) (σ : St) (H : Hp) (x y : V) (v u : Value) (Q : VK), Inv X pins σ H s → RelV x v → RelV y u → t x y H Q →
    wpAny (model X.prog X.w) X.A (inplaceOp op v u) (EP X pins σ Q) X.xe s
section
variable {X : Cx} {pos : Pos}
def gName (i : Nat) : TG := fun v σ H Q => Q (σ.set i (some v)) H
theorem pg_name {i : Nat} {x : Str} (hN : X.N.Nodup) (hi : X.N[i]? = some x) (hx : Loc X.env.scope x) (hf : X.fn x = true ∨ X.env.scope.names.lookup x = some .local := by first | exact .inl rfl | exact .inr rfl | assumption) : PG X (.Name x pos) (gName i) := by
  intro pins s σ H v u Q I r h
  exact wpAny_assign_Name (store_ok I hN hi hx r (fun s' I' => ⟨_, H, I', h⟩) hf)
def gNil : TGs := fun vs σ H Q => vs = [] ∧ Q σ H
def gCons (t : TG) (u : TGs) : TGs := fun vs σ H Q => ∃ v r, vs = v :: r ∧ t v σ H fun σ' H' => u r σ' H' Q
theorem pgs_nil : PGs X [] gNil := by
  intro pins s σ H vs us Q I r h
  obtain ⟨e, h⟩ := h
  subst e
  cases r
  exact assignInOrder_nil ⟨σ, H, I, h⟩
theorem pgs_cons {e : Expr} {es : List Expr} {t : TG} {u : TGs} (h1 : PG X e t) (h2 : PGs X es u)
    (hs : (assignEach (e :: es) X.env).map (·.2) = assign e X.env :: (assignEach es X.env).map (·.2) := by rfl) : PGs X (e :: es) (gCons t u) := by
  intro pins s σ H vs us Q I r h
  obtain ⟨v, vr, e1, h⟩ := h
  subst e1
  cases r with
  | cons r rr =>
    rw [hs]
    refine assignInOrder_cons (thn (h1 pins s σ H _ _ _ I r h) fun _ s1 ⟨σ1, H1, I1, q1⟩ => ?_)
    exact h2 pins s1 σ1 H1 _ _ Q I1 rr q1
def gTup (K : PySem.W.Frag) (n : Nat) (t : TGs) : TG := fun v σ H Q => ∃ a xs, v = .ref a ∧ SqT K H a xs ∧ xs.length = n ∧ t xs σ H Q
theorem pg_tup {es : List Expr} {k : Nat} {t : TGs} {n : Nat} (hc : X.calm = true) (h : PGs X es t)
    (hn : (assignEach es X.env).length = n := by rfl) (hst : (assignEach es X.env).findIdx? (·.1) = none := by rfl) : PG X (.Tuple es k pos) (gTup X.K n t) := by
  intro pins s σ H v u Q I r hw
  obtain ⟨a, xs, e1, hq, hl, hw⟩ := hw
  subst e1
  cases r
  obtain ⟨its, rv, ht, hz⟩ := I.tuple hq
  refine assign_Tuple_tuple (I.ok.hd hc) ht (by simp [hn, ← hl, rv.length]) hst fun h' hx => ?_
  have I1 : Inv X pins σ H { s with heap := h' } := I.kept (t' := s.toks) fun b o e => hx b o (Nat.ne_of_lt (Heap.lt_size e)) e
  exact h pins _ σ H xs _ Q I1 (by simpa using rv) hw
def tAsg (te : TE) (g : TG) : TS := fun D σ H => te σ H fun x H1 => g x σ H1 D.nx
theorem ps_set {i : Nat} {x : Str} {e : Expr} {te : TE} {pos' : Pos} (hN : X.N.Nodup) (hi : X.N[i]? = some x) (hx : Loc X.env.scope x) (he : PE X e te) (hs : swapsWith e (some (.Name x pos')) pos.line X.env = pure false := by rfl) (hf : X.fn x = true ∨ X.env.scope.names.lookup x = some .local := by first | exact .inl rfl | exact .inr rfl | assumption) :
    PS X (.Assign [.Name x pos'] e pos) (tAsg te (gName i)) := by
  intro pins s σ H D I h
  refine wpAny_Assign_Name (thn (he pins s σ H _ I h) fun v s1 ⟨y, H1, I1, r1, q1⟩ => ?_) hs
  exact store_ok I1 hN hi hx r1 (fun s2 I2 => ⟨_, H1, I2, q1⟩) hf
def tAugS (to ti te : TE) (tget : V → V → Hp → VK → Prop) (tip : TIp) (tset : TSet) : TS := fun D σ H => to σ H fun o H1 => ti σ H1 fun i H2 => tget o i H2 fun x H3 => te σ H3 fun y H4 => tip x y H4 fun z H5 => tset o i z H5 fun H6 => D.nx σ H6
def PGet (X : Cx) (t : V → V → Hp → VK → Prop) : Prop :=
  ∀ (pins : List (Addr × Obj)) (s : Shared) (σ : St) (H : Hp) (o i : V) (ov iv : Value) (Q : VK), Inv X pins σ H s → RelV o ov → RelV i iv → t o i H Q →
    wpAny (model X.prog X.w) X.A (getItem ov iv) (EP X pins σ Q) X.xe s
theorem ps_augS {o i e : Expr} {to ti te : TE} {tget : V → V → Hp → VK → Prop} {tip : TIp} {tset : TSet} {op : Operator} {tpos : Pos} (ho : PE X o to) (hi : PE X i ti) (hg : PGet X tget) (he : PE X e te) (hp : PIp X op tip) (hs : PSet X tset)
    (ha : ∀ ov iv new, augStore i ov iv new = (do holding [new, ov, iv] (setItem ov iv new); release [new, ov, iv] []; pure .next) := by intros; rfl) : PS X (.AugAssign (.Subscript o i tpos) op e pos) (tAugS to ti te tget tip tset) := by
  intro pins s σ H D I h
  refine wpAny_AugAssign_SubscriptAny (thn (ho pins s σ H _ I h) fun ov s1 ⟨x1, H1, I1, r1, q1⟩ => ?_) ha
  refine thn (hi pins s1 σ H1 _ I1 q1) fun iv s2 ⟨x2, H2, I2, r2, q2⟩ => ?_
  refine thn (hg pins s2 σ H2 x1 x2 ov iv _ I2 r1 r2 q2) fun old s3 ⟨x3, H3, I3, r3, q3⟩ => ?_
  refine thn (he pins s3 σ H3 _ I3 q3) fun v s4 ⟨x4, H4, I4, r4, q4⟩ => ?_
  refine thn (hp pins s4 σ H4 x3 x4 old v _ I4 r3 r4 q4) fun new s5 ⟨x5, H5, I5, r5, q5⟩ => ?_
  exact thn (hs pins s5 σ H5 x1 x2 x5 ov iv new _ I5 r1 r2 r5 q5) fun _ s6 ⟨H6, I6, q6⟩ => ⟨σ, H6, I6, q6⟩
def ipI (f : Int → Int → Int) : TIp := fun x y H Q => ∃ i j, x = .int i ∧ y = .int j ∧ Q (.int (f i j)) H
theorem ip_add : PIp X .Add (ipI fun i j => i + j) := by
  intro pins s σ H x y v u Q I r1 r2 h
  obtain ⟨i, j, e1, e2, q⟩ := h
  subst e1; subst e2
  obtain ⟨t, rfl⟩ := r1
  obtain ⟨t', rfl⟩ := r2
  exact iadd_int ⟨.int _, H, I.tok _, ⟨_, rfl⟩, q⟩
end

section
variable {X : Cx} {pos : Pos}
def tWhile (c : TT) (tb : TS) : TS := fun D σ H => ∃ W : Nat → St → Hp → Prop, (∃ m, W m σ H) ∧ ∀ m σ H, W m σ H →
  c σ H fun b H1 => if b = true then ∃ N : St → Hp → Prop, (∀ σ' H', N σ' H' → ∃ m', m' < m ∧ W m' σ' H') ∧ tb { D with nx := N, ct := N, bk := D.nx } σ H1 else D.nx σ H1
theorem ps_while {c : Expr} {body : List Stmt} {tc : TT} {tb : TS} (hp : PassesOwn (model X.prog X.w) X.A X.env X.xe) (hc : PT X c tc) (hb : PSs X body tb) : PS X (.While c body [] pos) (tWhile tc tb) := by
  intro pins s σ H D I h
  obtain ⟨W, ⟨m0, w0⟩, turn⟩ := h
  refine wpAny_While (codeAny_whileLoop (fun n s' => ∃ σ' H', Inv X pins σ' H' s' ∧ W n σ' H') ?_ m0 ⟨σ, H, I, w0⟩)
  rintro n s1 ⟨σ1, H1, I1, w1⟩
  refine wpAny_passesOwn hp (thn (hc pins s1 σ1 H1 _ I1 (turn n σ1 H1 w1)) fun b s2 ⟨H2, I2, q2⟩ => ?_)
  cases b with
  | true =>
    obtain ⟨N, hN, q2⟩ := q2
    rw [if_pos rfl]
    refine wpAny_passesOwn hp (thn (hb pins s2 σ1 H2 _ I2 q2) fun f s3 q3 => ?_)
    cases f with
    | next =>
      obtain ⟨σ3, H3, I3, n3⟩ := q3
      obtain ⟨m', hm, w3⟩ := hN σ3 H3 n3
      exact ⟨m', hm, σ3, H3, I3, w3⟩
    | cont =>
      obtain ⟨σ3, H3, I3, n3⟩ := q3
      obtain ⟨m', hm, w3⟩ := hN σ3 H3 n3
      exact ⟨m', hm, σ3, H3, I3, w3⟩
    | brk => exact q3
    | ret v => exact q3
  | false =>
    rw [if_neg Bool.false_ne_true]
    exact wpAny_execs_nil ⟨σ1, H2, I2, q2⟩
end

structure It where
  go : Nat → Hp → Prop
  yld : Nat → Hp → V → Hp → Prop
  stop : Nat → Hp → Prop
def FpOk (X : Cx) (pins : List (Addr × Obj)) (H : Hp) (b : Addr) : Prop :=
  H b = none ∧ b ≠ X.env.locals ∧ b ∉ X.fs ∧ (b ∈ X.ex ∨ X.s₀.heap.objs.size ≤ b) ∧ (∀ x c, X.env.cells.lookup x = some c → c ≠ b) ∧ ∀ p ∈ X.pn ++ pins, p.1 ≠ b
theorem Inv.fpOk {X : Cx} {pins : List (Addr × Obj)} {σ : St} {H H' : Hp} {s : Shared} {b : Addr} (I : Inv X pins σ H s) (hb : s.heap.objs.size ≤ b) (hn : H' b = none) : FpOk X pins H' b := by
  refine ⟨hn, Nat.ne_of_gt (Nat.lt_of_lt_of_le I.lt hb), I.nofs hb, .inr (Nat.le_trans I.sz hb), fun x c e z => ?_, fun p hp z => ?_⟩
  · obtain ⟨v, q⟩ := I.cell x c e
    exact absurd (Nat.lt_of_lt_of_le q.lt (by rw [z]; exact hb)) (Nat.lt_irrefl _)
  · exact absurd (Nat.lt_of_lt_of_le (Heap.lt_size (I.pin p hp).1) (by rw [z]; exact hb)) (Nat.lt_irrefl _)
structure Turn (P : Program) (w : World) (K : PySem.W.Frag) (tg : Expr) (J : It) (fp : List Addr) (it : Addr) (tn : Nat → Heap → Prop) : Prop where
  mem : it ∈ fp
  obj : ∀ i h, tn i h → ∀ b ∈ fp, ∃ o, h.get? b = some o ∧ ∀ v, o.data ≠ .cell v
  keep : ∀ i h h', tn i h → (∀ b ∈ fp, ∀ o, h.get? b = some o → h'.get? b = some o) → tn i h'
  item : ∀ (X : Cx), X.prog = P → X.w = w → X.K = K → X.calm = true → ∀ (i : Nat) (pins : List (Addr × Obj)) (s : Shared) (σ : St) (H : Hp) (E : Value → Shared → Prop), Inv X pins σ H s → (∀ b ∈ fp, FpOk X pins H b) → tn i s.heap → J.go i H →
    wpAny (model P w) X.A (pyNext (.ref it)) (fun r s1 => ∃ u, r = some u ∧
      wpAny (model P w) X.A (letOwnedTupleGo tg (.ref it) u) (fun _ s2 => ∃ x H', Inv X pins σ H' s2 ∧ RelV x u ∧ J.yld i H x H' ∧ tn (i + 1) s2.heap ∧ ∀ b ∈ fp, H' b = none) E s1) E s
  done : ∀ (X : Cx), X.prog = P → X.w = w → X.K = K → X.calm = true → ∀ (i : Nat) (pins : List (Addr × Obj)) (s : Shared) (σ : St) (H : Hp) (E : Value → Shared → Prop), Inv X pins σ H s → (∀ b ∈ fp, FpOk X pins H b) → tn i s.heap → J.stop i H →
    wpAny (model P w) X.A (pyNext (.ref it)) (fun r s1 => r = none ∧ Inv X pins σ H s1) E s
  self : ∀ (A : Around) (i : Nat) (s : Shared) (Q : Value → Shared → Prop) (E : Value → Shared → Prop), tn i s.heap → Q (.ref it) s → wpAny (model P w) A (pyIter (.ref it)) Q E s
abbrev TI := St → Hp → (It → Hp → Prop) → Prop
def PIE (X : Cx) (pins : List (Addr × Obj)) (σ : St) (tg : Expr) (R : It → Hp → Prop) (itv : Value) (s2 : Shared) : Prop :=
  ∃ (it : Addr) (fp : List Addr) (tn : Nat → Heap → Prop) (J : It) (H' : Hp), itv = .ref it ∧ Inv X pins σ H' s2 ∧ Turn X.prog X.w X.K tg J fp it tn ∧ tn 0 s2.heap ∧ (∀ b ∈ fp, FpOk X pins H' b) ∧ R J H'
def PI (X : Cx) (tg iter : Expr) (wi : TI) : Prop :=
  ∀ (pins : List (Addr × Obj)) (s : Shared) (σ : St) (H : Hp) (R : It → Hp → Prop), Inv X pins σ H s → wi σ H R →
    wpAny (model X.prog X.w) X.A (eval iter X.env) (fun v s1 => wpAny (model X.prog X.w) X.A (pyIter v) (PIE X pins σ tg R) X.xe s1) X.xe s

theorem go_of {M : Model} {A : Around} {E : Value → Shared → Prop} {s : Shared} {tg : Expr} {it : Addr} {u : Value} {o : Obj} {n : String} {vs : Array Value} {Q : Unit → Shared → Prop} (ho : s.heap.get? it = some o) (hc : o.cls = .type n) (hd : o.data = .fields vs)
    (hn : ["enumerate", "zip", "dict_itemiterator", "dict_reverseitemiterator", "odict_iterator", "itertools.zip_longest", "itertools.pairwise"].contains n = false) (hQ : Q () s) : wpAny M A (letOwnedTupleGo tg (.ref it) u) Q E s := by
  unfold letOwnedTupleGo
  cases tg <;> first
    | exact wpAny_pure hQ
    | (cases u <;> first
        | exact wpAny_pure hQ
        | (refine wpAny_bind (wpAny_load ho ?_)
           rw [hc, hd]
           show wpAny M A (if (["enumerate", "zip", "dict_itemiterator", "dict_reverseitemiterator", "odict_iterator", "itertools.zip_longest", "itertools.pairwise"].contains n && vs[0]? == some (rawInt _)) = true then _ else _) Q E s
           rw [if_neg (by intro h; rw [hn, Bool.false_and] at h; cases h)]
           exact wpAny_pure hQ))

def Itl (K : PySem.W.Frag) (a : Addr) : It :=
  ⟨fun i H => ∃ xs x, SqL K H a xs ∧ xs[i]? = some x, fun i H x H' => H' = H ∧ ∀ xs, SqL K H a xs → xs[i]? = some x, fun i H => ∃ xs, SqL K H a xs ∧ xs.length ≤ i⟩
def Itt (K : PySem.W.Frag) (a : Addr) : It :=
  ⟨fun i H => ∃ xs x, SqT K H a xs ∧ xs[i]? = some x, fun i H x H' => H' = H ∧ ∀ xs, SqT K H a xs → xs[i]? = some x, fun i H => ∃ xs, SqT K H a xs ∧ xs.length ≤ i⟩
def Itr (lo : Int) (n : Nat) : It := ⟨fun i _ => i < n, fun i H x H' => H' = H ∧ x = .int (lo + i), fun i _ => n ≤ i⟩
theorem turn_list {P : Program} {w : World} {K : PySem.W.Frag} {tg : Expr} (a it : Addr) : Turn P w K tg (Itl K a) [it] it (fun i h => h.IsListIter it a i) where
  mem := by simp
  obj := fun i h st b hb => by
    have e : b = it := by simpa using hb
    subst e
    obtain ⟨o, e, c, d⟩ := st
    exact ⟨o, e, fun v z => by rw [d] at z; cases z⟩
  keep := fun i h h' st k => st.at fun o e => k it (by simp) o e
  item := by
    intro X hP hw hK hc i pins s σ H E I hf st hg
    subst hP hw hK
    obtain ⟨xs, x, hq, hx⟩ := hg
    obtain ⟨its, rv, p, hz⟩ := I.list hq
    obtain ⟨u, hu, ru⟩ := rv.get hx
    obtain ⟨f0, f1, f2, f3, f4, f5⟩ := hf it (by simp)
    refine wpAny_pyNext_list_item st p.isList (x := u) (by simpa using hu) fun h' st' sb => ?_
    have I1 : Inv X pins σ H { s with heap := h' } := I.turned (t' := s.toks) (fun b o hb e => (sb.2 b hb).trans e) f0 f1 f3 f4 f5
    obtain ⟨o, e, c, d⟩ := id st'
    exact ⟨u, rfl, go_of (s := { s with heap := h' }) e c d (by decide) ⟨x, H, I1, ru, ⟨rfl, fun ys hy => by rw [I.list_inj hy hq]; exact hx⟩, st', fun b hb => (hf b hb).1⟩⟩
  done := by
    intro X hP hw hK hc i pins s σ H E I hf st hg
    subst hP hw hK
    obtain ⟨xs, hq, hx⟩ := hg
    obtain ⟨its, rv, p, hz⟩ := I.list hq
    obtain ⟨f0, f1, f2, f3, f4, f5⟩ := hf it (by simp)
    have hl := rv.length
    exact wpAny_pyNext_list_end (I.ok.hd hc) st p.isList (by simp; omega) fun h' eb => ⟨rfl, I.turned (t' := s.toks) (fun b o hb e => eb b o hb e) f0 f1 f3 f4 f5⟩
  self := fun _ _ _ _ _ st h => wpAny_pyIter_listiter st h
theorem turn_tuple {P : Program} {w : World} {K : PySem.W.Frag} {tg : Expr} (a it : Addr) : Turn P w K tg (Itt K a) [it] it (fun i h => h.IsTupleIter it a i) where
  mem := by simp
  obj := fun i h st b hb => by
    have e : b = it := by simpa using hb
    subst e
    obtain ⟨o, e, c, d⟩ := st
    exact ⟨o, e, fun v z => by rw [d] at z; cases z⟩
  keep := fun i h h' st k => st.at fun o e => k it (by simp) o e
  item := by
    intro X hP hw hK hc i pins s σ H E I hf st hg
    subst hP hw hK
    obtain ⟨xs, x, hq, hx⟩ := hg
    obtain ⟨its, rv, p, hz⟩ := I.tuple hq
    obtain ⟨u, hu, ru⟩ := rv.get hx
    obtain ⟨f0, f1, f2, f3, f4, f5⟩ := hf it (by simp)
    refine wpAny_pyNext_tuple_item st (show s.heap.IsTuple a its.toArray from p) (x := u) (by simpa using hu) fun h' st' sb => ?_
    have I1 : Inv X pins σ H { s with heap := h' } := I.turned (t' := s.toks) (fun b o hb e => (sb.2 b hb).trans e) f0 f1 f3 f4 f5
    obtain ⟨o, e, c, d⟩ := id st'
    exact ⟨u, rfl, go_of (s := { s with heap := h' }) e c d (by decide) ⟨x, H, I1, ru, ⟨rfl, fun ys hy => by rw [I.tuple_inj hy hq]; exact hx⟩, st', fun b hb => (hf b hb).1⟩⟩
  done := by
    intro X hP hw hK hc i pins s σ H E I hf st hg
    subst hP hw hK
    obtain ⟨xs, hq, hx⟩ := hg
    obtain ⟨its, rv, p, hz⟩ := I.tuple hq
    obtain ⟨f0, f1, f2, f3, f4, f5⟩ := hf it (by simp)
    have hl := rv.length
    exact wpAny_pyNext_tuple_end (I.ok.hd hc) st (show s.heap.IsTuple a its.toArray from p) (by simp; omega) fun h' eb => ⟨rfl, I.turned (t' := s.toks) (fun b o hb e => eb b o hb e) f0 f1 f3 f4 f5⟩
  self := fun _ _ _ _ _ st h => wpAny_pyIter_tupleiter st h
theorem turn_range {P : Program} {w : World} {K : PySem.W.Frag} {tg : Expr} (it : Addr) (lo : Int) (n : Nat) : Turn P w K tg (Itr lo n) [it] it (fun i h => IsRangeIter h it (lo + (i : Nat) * 1) ((n : Int) - (i : Nat)) 1) where
  mem := by simp
  obj := fun i h st b hb => by
    have e : b = it := by simpa using hb
    subst e
    exact ⟨_, st, fun v z => by
      have z' : Data.fields _ = Data.cell v := z
      cases z'⟩
  keep := fun i h h' st k => k it (by simp) _ st
  item := by
    intro X hP hw hK hc i pins s σ H E I hf st hg
    subst hP hw hK
    obtain ⟨f0, f1, f2, f3, f4, f5⟩ := hf it (by simp)
    have W := Walks.range (prog := X.prog) (w := X.w) (I.ok.hd hc) it lo 1 n
    refine W.item i s _ _ hg st fun v h' tk hv st' kk => ?_
    obtain ⟨t, rfl⟩ := hv
    have I1 : Inv X pins σ H { s with heap := h', toks := tk } := I.turned (fun b o hb e => kk b o (by simpa using hb) e) f0 f1 f3 f4 f5
    refine ⟨_, rfl, go_of (s := { s with heap := h', toks := tk }) (n := "range_iterator") st' rfl rfl (by decide) ⟨.int (lo + i), H, I1, ⟨t, ?_⟩, ⟨rfl, rfl⟩, st', fun b hb => (hf b hb).1⟩⟩
    rw [Int.mul_one]
  done := by
    intro X hP hw hK hc i pins s σ H E I hf st hg
    subst hP hw hK
    obtain ⟨f0, f1, f2, f3, f4, f5⟩ := hf it (by simp)
    exact wpAny_pyNext_range_end (I.ok.hd hc) st (by have : n ≤ i := hg; omega) fun h' eb => ⟨rfl, I.turned (t' := s.toks) (fun b o hb e => eb b o hb e) f0 f1 f3 f4 f5⟩
  self := fun _ _ _ _ _ st h => wpAny_pyIter_rangeiter st h
end L2

namespace L2
open PySem PySem.Spec PyProof.Rows
section
variable {X : Cx} {tg : Expr}
def iList (K : PySem.W.Frag) (tl : TE) : TI := fun σ H R => tl σ H fun x H1 => ∃ a, x = .ref a ∧ (∃ xs, SqL K H1 a xs) ∧ R (Itl K a) H1
def iTup (K : PySem.W.Frag) (tl : TE) : TI := fun σ H R => tl σ H fun x H1 => ∃ a, x = .ref a ∧ (∃ xs, SqT K H1 a xs) ∧ R (Itt K a) H1
theorem pi_list {l : Expr} {tl : TE} (hl : PE X l tl) : PI X tg l (iList X.K tl) := by
  intro pins s σ H R I h
  refine thn (hl pins s σ H _ I h) fun v s1 ⟨x, H1, I1, r1, q1⟩ => ?_
  obtain ⟨a, e, ⟨xs, hq⟩, q⟩ := q1
  subst e
  cases r1
  obtain ⟨its, rv, p, hz⟩ := I1.list hq
  refine wpAny_pyIter_list p.isList ?_
  refine ⟨s1.heap.objs.size, [s1.heap.objs.size], _, _, H1, rfl, I1.kept (t' := s1.toks) fun b o e => Heap.get?_push_of_some _ e, turn_list a _, ⟨_, Heap.get?_push_size _ rfl, rfl, rfl⟩, fun b hb => ?_, q⟩
  have e : b = s1.heap.objs.size := by simpa using hb
  subst e
  exact I1.fpOk (Nat.le_refl _) (I1.hok.fresh (Nat.le_refl _))
theorem pi_tup {l : Expr} {tl : TE} (hl : PE X l tl) : PI X tg l (iTup X.K tl) := by
  intro pins s σ H R I h
  refine thn (hl pins s σ H _ I h) fun v s1 ⟨x, H1, I1, r1, q1⟩ => ?_
  obtain ⟨a, e, ⟨xs, hq⟩, q⟩ := q1
  subst e
  cases r1
  obtain ⟨its, rv, p, hz⟩ := I1.tuple hq
  refine wpAny_pyIter_tuple (show s1.heap.IsTuple a its.toArray from p) ?_
  refine ⟨s1.heap.objs.size, [s1.heap.objs.size], _, _, H1, rfl, I1.kept (t' := s1.toks) fun b o e => Heap.get?_push_of_some _ e, turn_tuple a _, ⟨_, Heap.get?_push_size _ rfl, rfl, rfl⟩, fun b hb => ?_, q⟩
  have e : b = s1.heap.objs.size := by simpa using hb
  subst e
  exact I1.fpOk (Nat.le_refl _) (I1.hok.fresh (Nat.le_refl _))
theorem range_it {pins : List (Addr × Obj)} {σ : St} {H : Hp} {s : Shared} {R : It → Hp → Prop} {E : Value → Shared → Prop} {lo hi : Int} {t u v : Tok} {tk : Nat} (I : Inv X pins σ H s) (h1 : -(2 ^ 62) ≤ lo) (h2 : lo < 2 ^ 62) (h3 : -(2 ^ 62) ≤ hi) (h4 : hi < 2 ^ 62)
    (q : R (Itr lo (hi - lo).toNat) H) : wpAny (model X.prog X.w) X.A (pyIter (.ref s.heap.objs.size)) (PIE X pins σ tg R) E { s with heap := s.heap.push { cls := .type "range", data := .fields #[.int lo t, .int hi u, .int 1 v] }, toks := tk } := by
  refine wpAny_pyIter_range (IsRange.new ..) (small_one h1 h2 h3 h4) ?_
  have I1 : Inv X pins σ H { s with heap := s.heap.push { cls := .type "range", data := .fields #[.int lo t, .int hi u, .int 1 v] }, toks := tk } := I.kept fun b o e => Heap.get?_push_of_some _ e
  refine ⟨(s.heap.push { cls := .type "range", data := .fields #[.int lo t, .int hi u, .int 1 v] }).objs.size, [(s.heap.push { cls := .type "range", data := .fields #[.int lo t, .int hi u, .int 1 v] }).objs.size], _, _, H, rfl,
    I1.kept (t' := tk) fun b o e => Heap.get?_push_of_some _ e, turn_range _ lo (hi - lo).toNat, ?_, fun b hb => ?_, q⟩
  · have e1 : lo + ((0 : Nat) : Int) * 1 = lo := by simp
    have e2 : (((hi - lo).toNat : Nat) : Int) - ((0 : Nat) : Int) = Builtin.Range.rangeSize lo hi 1 := by rw [rangeSize_one]; split <;> omega
    show IsRangeIter _ _ (lo + ((0 : Nat) : Int) * 1) ((((hi - lo).toNat : Nat) : Int) - ((0 : Nat) : Int)) 1
    rw [e1, e2]
    exact Heap.get?_push_size _ rfl
  · have e : b = (s.heap.push { cls := .type "range", data := .fields #[.int lo t, .int hi u, .int 1 v] }).objs.size := by simpa using hb
    subst e
    exact I1.fpOk (Nat.le_refl _) (I1.hok.fresh (Nat.le_refl _))
def iRng1 (ta : TA) : TI := fun σ H R => ta σ H fun vs H1 => ∃ j : Int, vs = [.int j] ∧ -(2 ^ 62) ≤ j ∧ j < 2 ^ 62 ∧ R (Itr 0 j.toNat) H1
theorem pi_range1 {a : Expr} {ta : TA} {p pos : Pos} (hg : Gl X "range") (hm : X.mg "range" = none) (ha : PA X [a] ta) (hs : starEach [a] X.env = [(false, eval a X.env)] := by rfl) : PI X tg (.Call (.Name "range" p) [a] [] pos) (iRng1 ta) := by
  intro pins s σ H R I h
  refine Call_ (ld_blt I hg hm boot_range (PyProof.Rows.callWith_type1 (thn (ha pos pins s σ H _ I h) fun us s1 ⟨vs, H1, I1, r1, q1⟩ => ?_) hs rfl))
  obtain ⟨j, e, q1, q2, q⟩ := q1
  subst e
  cases r1 with
  | cons r rr =>
    cases rr
    obtain ⟨t, rfl⟩ := r
    exact call_range_1 (range_it I1 (by omega) (by omega) q1 q2 (by simpa using q))
def tFor (wi : TI) (g : TG) (tb : TS) : TS := fun D σ H => wi σ H fun J H1 => ∃ W : Nat → Nat → St → Hp → Prop, (∃ m, W 0 m σ H1) ∧ ∀ i m σ H, W i m σ H →
  (J.stop i H ∧ D.nx σ H) ∨ (J.go i H ∧ ∃ N : St → Hp → Prop, (∀ σ' H', N σ' H' → ∃ m', m' < m ∧ W (i + 1) m' σ' H') ∧ ∀ x H', J.yld i H x H' → g x σ H' fun σ2 H2 => tb { D with nx := N, ct := N, bk := D.nx } σ2 H2)
def pinsAt (fp : List Addr) (h : Heap) : List (Addr × Obj) := fp.filterMap fun b => (h.get? b).map fun o => (b, o)
theorem mem_pinsAt {fp : List Addr} {h : Heap} {b : Addr} {o : Obj} (hb : b ∈ fp) (e : h.get? b = some o) : (b, o) ∈ pinsAt fp h := List.mem_filterMap.mpr ⟨b, hb, by rw [e]; rfl⟩
theorem of_pinsAt {fp : List Addr} {h : Heap} {p : Addr × Obj} (hp : p ∈ pinsAt fp h) : p.1 ∈ fp ∧ h.get? p.1 = some p.2 := by
  obtain ⟨b, hb, e⟩ := List.mem_filterMap.mp hp
  cases q : h.get? b with
  | none => rw [q] at e; cases e
  | some o =>
    rw [q] at e
    have e' : (b, o) = p := Option.some.inj e
    subst e'
    exact ⟨hb, q⟩
theorem Inv.pinned {pins : List (Addr × Obj)} {σ : St} {H : Hp} {s : Shared} {fp : List Addr} (I : Inv X pins σ H s) (hf : ∀ b ∈ fp, FpOk X pins H b) (ho : ∀ b ∈ fp, ∃ o, s.heap.get? b = some o ∧ ∀ v, o.data ≠ .cell v) : Inv X (pins ++ pinsAt fp s.heap) σ H s :=
  I.pins_of fun p hp => (List.mem_append.mp hp).elim (fun z => I.pin p (List.mem_append_right _ z)) fun z => by
    obtain ⟨hb, e⟩ := of_pinsAt z
    obtain ⟨f0, f1, f2, _⟩ := hf p.1 hb
    obtain ⟨o, e', d⟩ := ho p.1 hb
    rw [e] at e'; cases e'
    exact ⟨e, f0, f1, f2, d⟩
theorem Inv.unpinned {pins pl : List (Addr × Obj)} {σ : St} {H : Hp} {s : Shared} (I : Inv X (pins ++ pl) σ H s) : Inv X pins σ H s := I.pins_of fun p hp => I.pin p (List.mem_append_right _ (List.mem_append_left _ hp))
theorem ps_for {iter : Expr} {body : List Stmt} {wi : TI} {g : TG} {tb : TS} {pos : Pos} (hp : PassesOwn (model X.prog X.w) X.A X.env X.xe) (hc : X.calm = true) (hi : PI X tg iter wi) (hg : PG X tg g) (hb : PSs X body tb)
    (hs : ∀ x, foldedSetIterable iter X.env x = pure x := by intro _; rfl) : PS X (.For tg iter body [] pos) (tFor wi g tb) := by
  intro pins s σ H D I h
  refine wpAny_For (thn (hi pins s σ H _ I h) fun v s1 h1 => thn h1 fun itv s2 h2 => ?_) hs
  obtain ⟨it, fp, tn, J, H2, e, I2, T, st2, f2, W, ⟨m0, w0⟩, turn⟩ := h2
  subst e
  -- what stays true of the iterator's objects through the loop
  have stat : ∀ {H' : Hp}, (∀ b ∈ fp, H' b = none) → ∀ b ∈ fp, FpOk X pins H' b := fun hn b hb => ⟨hn b hb, (f2 b hb).2⟩
  refine codeAny_forLoop_any (fun n s' => ∃ i σ' H', Inv X pins σ' H' s' ∧ tn i s'.heap ∧ (∀ b ∈ fp, H' b = none) ∧ W i n σ' H') ?_ m0 ⟨0, σ, H2, I2, st2, fun b hb => (f2 b hb).1, w0⟩
  rintro n s3 ⟨i, σ3, H3, I3, st3, fr3, w3⟩
  rcases turn i n σ3 H3 w3 with ⟨stop, qn⟩ | ⟨go, N, hN, step⟩
  · refine wpAny_passesOwn hp (thn (T.done X rfl rfl rfl hc i pins s3 σ3 H3 X.xe I3 (stat fr3) st3 stop) fun r s4 ⟨hr, I4⟩ => ?_)
    subst hr
    exact wpAny_execs_nil ⟨σ3, H3, I4, qn⟩
  · refine wpAny_passesOwn hp (thn (T.item X rfl rfl rfl hc i pins s3 σ3 H3 X.xe I3 (stat fr3) st3 go) fun r s4 ⟨u, hr, h4⟩ => ?_)
    subst hr
    refine wpAny_passesOwn hp (thn h4 fun _ s5 ⟨x, H5, I5, r5, y5, st5, fr5⟩ => ?_)
    have I5' := I5.pinned (stat fr5) (T.obj _ _ st5)
    refine wpAny_passesOwn hp (thn (hg _ s5 σ3 H5 x u _ I5' r5 (step x H5 y5)) fun _ s6 ⟨σ6, H6, I6, q6⟩ => ?_)
    refine wpAny_passesOwn hp (thn (hb _ s6 σ6 H6 _ I6 q6) fun f s7 q7 => ?_)
    have again : ∀ {σ7 : St} {H7 : Hp}, Inv X (pins ++ pinsAt fp s5.heap) σ7 H7 s7 → N σ7 H7 → ∃ m, m < n ∧ ∃ i σ' H', Inv X pins σ' H' s7 ∧ tn i s7.heap ∧ (∀ b ∈ fp, H' b = none) ∧ W i m σ' H' := fun {σ7 H7} I7 n7 => by
      obtain ⟨m', hm, w7⟩ := hN σ7 H7 n7
      refine ⟨m', hm, i + 1, σ7, H7, I7.unpinned, T.keep _ _ _ st5 fun b hb o e => (I7.pin (b, o) (List.mem_append_right _ (List.mem_append_right _ (mem_pinsAt hb e)))).1, fun b hb => ?_, w7⟩
      obtain ⟨o, e, d⟩ := T.obj _ _ st5 b hb
      exact (I7.pin (b, o) (List.mem_append_right _ (List.mem_append_right _ (mem_pinsAt hb e)))).2.1
    cases f with
    | next => obtain ⟨σ7, H7, I7, n7⟩ := q7; exact again I7 n7
    | cont => obtain ⟨σ7, H7, I7, n7⟩ := q7; exact again I7 n7
    | brk => obtain ⟨σ7, H7, I7, q7⟩ := q7; exact ⟨σ7, H7, I7.unpinned, q7⟩
    | ret v => obtain ⟨x7, σ7, H7, I7, r7, q7⟩ := q7; exact ⟨x7, σ7, H7, I7.unpinned, r7, q7⟩
end

theorem for_list {K : PySem.W.Frag} {a : Addr} {xs : List V} {g : TG} {tb : TS} {D : Ends} {σ : St} {H : Hp} (Pv : Nat → St → Hp → Prop) (h0 : Pv 0 σ H) (hl : ∀ i σ H, i ≤ xs.length → Pv i σ H → SqL K H a xs)
    (hs : ∀ i x σ H, xs[i]? = some x → Pv i σ H → g x σ H fun σ2 H2 => tb { D with nx := Pv (i + 1), ct := Pv (i + 1), bk := D.nx } σ2 H2) (hd : ∀ σ H, Pv xs.length σ H → D.nx σ H) :
    ∃ W : Nat → Nat → St → Hp → Prop, (∃ m, W 0 m σ H) ∧ ∀ i m σ H, W i m σ H →
      ((Itl K a).stop i H ∧ D.nx σ H) ∨ ((Itl K a).go i H ∧ ∃ N : St → Hp → Prop, (∀ σ' H', N σ' H' → ∃ m', m' < m ∧ W (i + 1) m' σ' H') ∧ ∀ x H', (Itl K a).yld i H x H' → g x σ H' fun σ2 H2 => tb { D with nx := N, ct := N, bk := D.nx } σ2 H2) := by
  refine ⟨fun i m σ H => m = xs.length - i ∧ i ≤ xs.length ∧ Pv i σ H, ⟨xs.length, by simp, Nat.zero_le _, h0⟩, ?_⟩
  rintro i m σ H ⟨rfl, hi, p⟩
  have q := hl i σ H hi p
  by_cases hlt : i < xs.length
  · refine .inr ⟨⟨xs, xs[i], q, by simp [hlt]⟩, Pv (i + 1), fun σ' H' p' => ⟨xs.length - (i + 1), by omega, rfl, hlt, p'⟩, fun x H' y => ?_⟩
    obtain ⟨e, y⟩ := y
    subst e
    exact hs i x σ _ (y xs q) p
  · have e : i = xs.length := by omega
    subst e
    exact .inl ⟨⟨xs, q, Nat.le_refl _⟩, hd σ H p⟩
theorem for_range {lo : Int} {n : Nat} {g : TG} {tb : TS} {D : Ends} {σ : St} {H : Hp} (Pv : Nat → St → Hp → Prop) (h0 : Pv 0 σ H)
    (hs : ∀ i σ H, i < n → Pv i σ H → g (.int (lo + i)) σ H fun σ2 H2 => tb { D with nx := Pv (i + 1), ct := Pv (i + 1), bk := D.nx } σ2 H2) (hd : ∀ σ H, Pv n σ H → D.nx σ H) :
    ∃ W : Nat → Nat → St → Hp → Prop, (∃ m, W 0 m σ H) ∧ ∀ i m σ H, W i m σ H →
      ((Itr lo n).stop i H ∧ D.nx σ H) ∨ ((Itr lo n).go i H ∧ ∃ N : St → Hp → Prop, (∀ σ' H', N σ' H' → ∃ m', m' < m ∧ W (i + 1) m' σ' H') ∧ ∀ x H', (Itr lo n).yld i H x H' → g x σ H' fun σ2 H2 => tb { D with nx := N, ct := N, bk := D.nx } σ2 H2) := by
  refine ⟨fun i m σ H => m = n - i ∧ i ≤ n ∧ Pv i σ H, ⟨n, by simp, Nat.zero_le _, h0⟩, ?_⟩
  rintro i m σ H ⟨rfl, hi, p⟩
  by_cases hlt : i < n
  · refine .inr ⟨hlt, Pv (i + 1), fun σ' H' p' => ⟨n - (i + 1), by omega, rfl, hlt, p'⟩, fun x H' y => ?_⟩
    obtain ⟨e, y⟩ := y
    subst e y
    exact hs i σ _ hlt p
  · have e : i = n := by omega
    subst e
    exact .inl ⟨Nat.le_refl _, hd σ H p⟩
end L2

namespace L2
open PySem PySem.Spec PyProof.Rows

abbrev R2 := V → V → Hp → VK → Prop
def OpR (X : Cx) (f : Value → Value → Sem Value) (r : R2) : Prop :=
  ∀ (pins : List (Addr × Obj)) (s : Shared) (σ : St) (H : Hp) (x y : V) (v u : Value) (Q : VK), Inv X pins σ H s → RelV x v → RelV y u → r x y H Q →
    wpAny (model X.prog X.w) X.A (f v u) (EP X pins σ Q) X.xe s
def UnR (X : Cx) (f : Value → Sem Value) (r : V → Hp → VK → Prop) : Prop :=
  ∀ (pins : List (Addr × Obj)) (s : Shared) (σ : St) (H : Hp) (x : V) (v : Value) (Q : VK), Inv X pins σ H s → RelV x v → r x H Q →
    wpAny (model X.prog X.w) X.A (f v) (EP X pins σ Q) X.xe s
def CallR (X : Cx) (f : Value) (r : List V → Hp → VK → Prop) : Prop :=
  ∀ (pins : List (Addr × Obj)) (s : Shared) (σ : St) (H : Hp) (xs : List V) (us : List Value) (Q : VK), Inv X pins σ H s → Vals xs us → r xs H Q →
    wpAny (model X.prog X.w) X.A (call f us) (EP X pins σ Q) X.xe s
def TruR (X : Cx) (r : V → Hp → (Bool → Hp → Prop) → Prop) : Prop :=
  ∀ (pins : List (Addr × Obj)) (s : Shared) (σ : St) (H : Hp) (x : V) (v : Value) (Q : Bool → Hp → Prop), Inv X pins σ H s → RelV x v → r x H Q →
    wpAny (model X.prog X.w) X.A (truthy v) (TP X pins σ Q) X.xe s

def tOp (r : R2) (ta tb : TE) : TE := fun σ H Q => ta σ H fun x H1 => tb σ H1 fun y H2 => r x y H2 Q
def tUn (r : V → Hp → VK → Prop) (ta : TE) : TE := fun σ H Q => ta σ H fun x H1 => r x H1 Q
def rI (C : Int → Int → Prop) (g : Int → Int → V) : R2 := fun x y H Q => ∃ i j, x = .int i ∧ y = .int j ∧ C i j ∧ Q (g i j) H
def rI0 (g : Int → Int → V) : R2 := fun x y H Q => ∃ i j, x = .int i ∧ y = .int j ∧ Q (g i j) H
def rU (g : Int → V) : V → Hp → VK → Prop := fun x H Q => ∃ i, x = .int i ∧ Q (g i) H

section
variable {X : Cx} {a b c : Expr} {ta tb tc : TE} {pos : Pos}

theorem binT (ha : PE X a ta) (hb : PE X b tb) {pins : List (Addr × Obj)} {s : Shared} {σ : St} {H : Hp} {R : V → V → Hp → Prop} (I : Inv X pins σ H s)
    (h : ta σ H fun x H1 => tb σ H1 fun y H2 => R x y H2) {Q : Value → Shared → Prop} {f : Value → Value → Sem Value}
    (hf : ∀ v u s2 x y H2, Inv X pins σ H2 s2 → RelV x v → RelV y u → R x y H2 → wpAny (model X.prog X.w) X.A (f v u) Q X.xe s2) :
    wpAny (model X.prog X.w) X.A (eval a X.env) (fun v s₁ => wpAny (model X.prog X.w) X.A (eval b X.env) (fun u s₂ => wpAny (model X.prog X.w) X.A (f v u) Q X.xe s₂) X.xe s₁) X.xe s := by
  refine thn (ha pins s σ H _ I h) fun v s1 ⟨x, H1, I1, r1, q1⟩ => ?_
  refine thn (hb pins s1 σ H1 _ I1 q1) fun u s2 ⟨y, H2, I2, r2, q2⟩ => ?_
  exact hf v u s2 x y H2 I2 r1 r2 q2

theorem pe_op {op : Operator} {r : R2} (ho : OpR X (binaryOp op) r) (ha : PE X a ta) (hb : PE X b tb) : PE X (.BinOp a op b pos) (tOp r ta tb) := by
  intro pins s σ H Q I h
  exact wpAny_BinOp (binT ha hb I h fun v u s2 x y H2 I2 rx ry q => ho pins s2 σ H2 x y v u Q I2 rx ry q)
theorem pe_un {op : UnaryOp} {r : V → Hp → VK → Prop} (ho : UnR X (unaryOp op) r) (ha : PE X a ta) : PE X (.UnaryOp op a pos) (tUn r ta) := by
  intro pins s σ H Q I h
  exact UnaryOp_ (thn (ha pins s σ H _ I h) fun v s1 ⟨x, H1, I1, r1, q1⟩ => ho pins s1 σ H1 x v Q I1 r1 q1)
theorem opI {f : Value → Value → Sem Value} {C : Int → Int → Prop} {g : Int → Int → Int}
    (rule : ∀ (i j : Int) (t u : Tok) (s : Shared) (Q : Value → Shared → Prop) (E : Value → Shared → Prop), C i j → Q (.int (g i j) s.toks) { s with toks := s.toks + 1 } → wpAny (model X.prog X.w) X.A (f (.int i t) (.int j u)) Q E s) :
    OpR X f (rI C fun i j => .int (g i j)) := by
  intro pins s σ H x y v u Q I rx ry h
  obtain ⟨i, j, rfl, rfl, hc, q⟩ := h
  obtain ⟨t, rfl⟩ := rx
  obtain ⟨t', rfl⟩ := ry
  exact rule i j t t' s _ _ hc ⟨.int (g i j), H, I.tok _, ⟨_, rfl⟩, q⟩
theorem opI0 {f : Value → Value → Sem Value} {g : Int → Int → Int}
    (rule : ∀ (i j : Int) (t u : Tok) (s : Shared) (Q : Value → Shared → Prop) (E : Value → Shared → Prop), Q (.int (g i j) s.toks) { s with toks := s.toks + 1 } → wpAny (model X.prog X.w) X.A (f (.int i t) (.int j u)) Q E s) :
    OpR X f (rI0 fun i j => .int (g i j)) := by
  intro pins s σ H x y v u Q I rx ry h
  obtain ⟨i, j, rfl, rfl, q⟩ := h
  obtain ⟨t, rfl⟩ := rx
  obtain ⟨t', rfl⟩ := ry
  exact rule i j t t' s _ _ ⟨.int (g i j), H, I.tok _, ⟨_, rfl⟩, q⟩
theorem opB0 {f : Value → Value → Sem Value} {g : Int → Int → Bool}
    (rule : ∀ (i j : Int) (t u : Tok) (s : Shared) (Q : Value → Shared → Prop) (E : Value → Shared → Prop), Q (.bool (g i j)) s → wpAny (model X.prog X.w) X.A (f (.int i t) (.int j u)) Q E s) :
    OpR X f (rI0 fun i j => .bl (g i j)) := by
  intro pins s σ H x y v u Q I rx ry h
  obtain ⟨i, j, rfl, rfl, q⟩ := h
  obtain ⟨t, rfl⟩ := rx
  obtain ⟨t', rfl⟩ := ry
  exact rule i j t t' s _ _ ⟨.bl (g i j), H, I, rfl, q⟩

def CDiv (i j : Int) : Prop := 0 < j ∧ j < 1073741824
def CPow (i j : Int) : Prop := 0 ≤ j ∧ j ≤ 1000000 ∧ i.natAbs < 2 ^ 64
def CMul (i j : Int) : Prop := (-(2 ^ 64) < i ∧ i < 2 ^ 64) ∨ (-(2 ^ 64) < j ∧ j < 2 ^ 64)
theorem CMul.ok {i j : Int} (h : CMul i j) : IntMulOk i j := by
  rcases h with ⟨h1, h2⟩ | ⟨h1, h2⟩
  · exact .of_left (intBits_le_64 h1 h2)
  · exact .of_right (intBits_le_64 h1 h2)
theorem op_add : OpR X (binaryOp .Add) (rI0 fun i j => .int (i + j)) := opI0 fun _ _ _ _ _ _ _ q => add_int q
theorem op_sub : OpR X (binaryOp .Sub) (rI0 fun i j => .int (i - j)) := opI0 fun _ _ _ _ _ _ _ q => sub_int q
theorem op_mul : OpR X (binaryOp .Mult) (rI CMul fun i j => .int (i * j)) := opI fun _ _ _ _ _ _ _ hc q => mul_int q hc.ok
theorem op_fdiv : OpR X (binaryOp .FloorDiv) (rI CDiv fun i j => .int (i / j)) := opI fun i j _ _ _ _ _ hc q => by
  have h1 : (0 : Int) < j := hc.1
  have h2 : j < 1073741824 := hc.2
  exact floordiv_int (by omega) (by rw [Int.fdiv_eq_ediv_of_nonneg i (by omega)]; exact q) (.inl (PyProof.noPylong_small (by omega)))
theorem op_mod : OpR X (binaryOp .Mod) (rI (fun _ j => 0 < j) fun i j => .int (i % j)) := opI fun i j _ _ _ _ _ hc q => by
  have h1 : (0 : Int) < j := hc
  exact mod_int' (by omega) (by rw [Int.fmod_eq_emod_of_nonneg i (by omega)]; exact q)
theorem op_pow : OpR X (binaryOp .Pow) (rI CPow fun i j => .int (i ^ j.toNat)) := opI fun _ _ _ _ _ _ _ hc q => pow_int_small hc.1 hc.2.1 hc.2.2 q
theorem unI {f : Value → Sem Value} {g : Int → Int}
    (rule : ∀ (i : Int) (t : Tok) (s : Shared) (Q : Value → Shared → Prop) (E : Value → Shared → Prop), Q (.int (g i) s.toks) { s with toks := s.toks + 1 } → wpAny (model X.prog X.w) X.A (f (.int i t)) Q E s) :
    UnR X f (rU fun i => .int (g i)) := by
  intro pins s σ H x v Q I rx h
  obtain ⟨i, rfl, q⟩ := h
  obtain ⟨t, rfl⟩ := rx
  exact rule i t s _ _ ⟨.int (g i), H, I.tok _, ⟨_, rfl⟩, q⟩
theorem un_neg : UnR X (unaryOp .USub) (rU fun i => .int (-i)) := unI fun _ _ _ _ _ q => neg_int q
end

def scal : V → V → Bool
  | .non, .non => true | .non, .int _ => true | .int _, .non => true | .non, .bl _ => true | .bl _, .non => true | .non, .str _ => true | .str _, .non => true
  | .int _, .int _ => true | .bl _, .bl _ => true | .str _, .str _ => true | .byt _, .byt _ => true
  | .int _, .str _ => true | .str _, .int _ => true | .bl _, .str _ => true | .str _, .bl _ => true
  | _, _ => false
def rEq : R2 := fun x y H Q => scal x y = true ∧ Q (.bl (decide (x = y))) H
def rNe : R2 := fun x y H Q => scal x y = true ∧ Q (.bl (!decide (x = y))) H

theorem dec_int {i j : Int} : decide (V.int i = V.int j) = (i == j) := by
  rw [Bool.eq_iff_iff]
  simp
theorem dec_bl {i j : Bool} : decide (V.bl i = V.bl j) = (i == j) := by
  rw [Bool.eq_iff_iff]
  simp
theorem dec_str {i j : Str} : decide (V.str i = V.str j) = (i == j) := by
  rw [Bool.eq_iff_iff]
  simp
theorem dec_byt {i j : Array UInt8} : decide (V.byt i = V.byt j) = (i.toList == j.toList) := by
  rw [Bool.eq_iff_iff]
  cases i
  cases j
  simp

section
variable {X : Cx} {a b c : Expr} {ta tb tc : TE} {pos : Pos}
theorem fin_bl {pins : List (Addr × Obj)} {σ : St} {H : Hp} {s : Shared} {Q : VK} {k k' : Bool} (I : Inv X pins σ H s) (q : Q (.bl k) H) (e : k = k') : EP X pins σ Q (.bool k') s := by
  subst e
  exact ⟨.bl k, H, I, rfl, q⟩
theorem op_eq : OpR X (compareOp .Eq) rEq := by
  intro pins s σ H x y v u Q I rx ry h
  obtain ⟨hs, q⟩ := h
  cases x with
  | non =>
    cases rx
    cases y with
    | non => cases ry; exact PySem.EqNone.eq_none_none (fin_bl I q (by simp))
    | bl j => cases ry; exact PySem.EqNone.eq_none_bool (fin_bl I q (by simp))
    | int j => obtain ⟨t', rfl⟩ := ry; exact PySem.EqNone.eq_none_int (fin_bl I q (by simp))
    | str j => obtain ⟨t', rfl⟩ := ry; exact PySem.EqNone.eq_none_str (fin_bl I q (by simp))
    | _ => exact absurd (show false = true from hs) Bool.false_ne_true
  | bl i =>
    cases rx
    cases y with
    | non => cases ry; exact PySem.EqNone.eq_bool_none (fin_bl I q (by simp))
    | bl j => cases ry; exact eq_bool (fin_bl I q dec_bl)
    | str j => obtain ⟨t', rfl⟩ := ry; exact PySem.EqMixed.eq_bool_str (fin_bl I q (by simp))
    | _ => exact absurd (show false = true from hs) Bool.false_ne_true
  | int i =>
    obtain ⟨t, rfl⟩ := rx
    cases y with
    | non => cases ry; exact PySem.EqNone.eq_int_none (fin_bl I q (by simp))
    | int j => obtain ⟨t', rfl⟩ := ry; exact eq_int (fin_bl I q dec_int)
    | str j => obtain ⟨t', rfl⟩ := ry; exact PySem.EqMixed.eq_int_str (fin_bl I q (by simp))
    | _ => exact absurd (show false = true from hs) Bool.false_ne_true
  | str i =>
    obtain ⟨t, rfl⟩ := rx
    cases y with
    | non => cases ry; exact PySem.EqNone.eq_str_none (fin_bl I q (by simp))
    | bl j => cases ry; exact PySem.EqMixed.eq_str_bool (fin_bl I q (by simp))
    | int j => obtain ⟨t', rfl⟩ := ry; exact PySem.EqMixed.eq_str_int (fin_bl I q (by simp))
    | str j => obtain ⟨t', rfl⟩ := ry; exact eq_str (fin_bl I q dec_str)
    | _ => exact absurd (show false = true from hs) Bool.false_ne_true
  | byt i =>
    obtain ⟨t, rfl⟩ := rx
    cases y with
    | byt j => obtain ⟨t', rfl⟩ := ry; exact PySem.W.eq_bytes (fin_bl I q dec_byt)
    | _ => exact absurd (show false = true from hs) Bool.false_ne_true
  | _ => cases y <;> exact absurd (show false = true from hs) Bool.false_ne_true
theorem op_ne : OpR X (compareOp .NotEq) rNe := by
  intro pins s σ H x y v u Q I rx ry h
  obtain ⟨hs, q⟩ := h
  cases x with
  | non =>
    cases rx
    cases y with
    | non => cases ry; exact PySem.EqNone.ne_none_none (fin_bl I q (by simp))
    | bl j => cases ry; exact PySem.EqNone.ne_none_bool (fin_bl I q (by simp))
    | int j => obtain ⟨t', rfl⟩ := ry; exact PySem.EqNone.ne_none_int (fin_bl I q (by simp))
    | str j => obtain ⟨t', rfl⟩ := ry; exact PySem.EqNone.ne_none_str (fin_bl I q (by simp))
    | _ => exact absurd (show false = true from hs) Bool.false_ne_true
  | bl i =>
    cases rx
    cases y with
    | non => cases ry; exact PySem.EqNone.ne_bool_none (fin_bl I q (by simp))
    | bl j => cases ry; exact ne_bool (fin_bl I q (congrArg not dec_bl))
    | str j => obtain ⟨t', rfl⟩ := ry; exact PySem.EqMixed.ne_bool_str (fin_bl I q (by simp))
    | _ => exact absurd (show false = true from hs) Bool.false_ne_true
  | int i =>
    obtain ⟨t, rfl⟩ := rx
    cases y with
    | non => cases ry; exact PySem.EqNone.ne_int_none (fin_bl I q (by simp))
    | int j => obtain ⟨t', rfl⟩ := ry; exact ne_int (fin_bl I q (congrArg not dec_int))
    | str j => obtain ⟨t', rfl⟩ := ry; exact PySem.EqMixed.ne_int_str (fin_bl I q (by simp))
    | _ => exact absurd (show false = true from hs) Bool.false_ne_true
  | str i =>
    obtain ⟨t, rfl⟩ := rx
    cases y with
    | non => cases ry; exact PySem.EqNone.ne_str_none (fin_bl I q (by simp))
    | bl j => cases ry; exact PySem.EqMixed.ne_str_bool (fin_bl I q (by simp))
    | int j => obtain ⟨t', rfl⟩ := ry; exact PySem.EqMixed.ne_str_int (fin_bl I q (by simp))
    | str j => obtain ⟨t', rfl⟩ := ry; exact ne_str (fin_bl I q (congrArg not dec_str))
    | _ => exact absurd (show false = true from hs) Bool.false_ne_true
  | byt i =>
    obtain ⟨t, rfl⟩ := rx
    cases y with
    | byt j => obtain ⟨t', rfl⟩ := ry; exact PySem.W.ne_bytes (fin_bl I q (congrArg not dec_byt))
    | _ => exact absurd (show false = true from hs) Bool.false_ne_true
  | _ => cases y <;> exact absurd (show false = true from hs) Bool.false_ne_true

theorem op_lt : OpR X (compareOp .Lt) (rI0 fun i j => .bl (decide (i < j))) := opB0 fun _ _ _ _ _ _ _ q => lt_int q
theorem op_le : OpR X (compareOp .LtE) (rI0 fun i j => .bl (decide (i ≤ j))) := opB0 fun _ _ _ _ _ _ _ q => le_int q
theorem op_gt : OpR X (compareOp .Gt) (rI0 fun i j => .bl (decide (j < i))) := opB0 fun _ _ _ _ _ _ _ q => gt_int q
theorem op_ge : OpR X (compareOp .GtE) (rI0 fun i j => .bl (decide (j ≤ i))) := opB0 fun _ _ _ _ _ _ _ q => ge_int q
theorem op_in_str : OpR X (compareOp .In) (fun x y H Q => ∃ i j, x = .str i ∧ y = .str j ∧ Q (.bl (!(Builtin.Str.occurrences j i 0 j.length 1).isEmpty)) H) := by
  intro pins s σ H x y v u Q I rx ry h
  obtain ⟨i, j, rfl, rfl, q⟩ := h
  obtain ⟨t, rfl⟩ := rx
  obtain ⟨t', rfl⟩ := ry
  exact in_str (fin_bl I q rfl)

theorem op_notin_str : OpR X (compareOp .NotIn) (fun x y H Q => ∃ i j, x = .str i ∧ y = .str j ∧ Q (.bl (!(!(Builtin.Str.occurrences j i 0 j.length 1).isEmpty))) H) := by
  intro pins s σ H x y v u Q I rx ry h
  obtain ⟨i, j, rfl, rfl, q⟩ := h
  obtain ⟨t, rfl⟩ := rx
  obtain ⟨t', rfl⟩ := ry
  exact notIn_str (fin_bl I q rfl)
theorem nomark (b : Expr) {op : CmpOp} (h : op ≠ .In := by decide) (h2 : op ≠ .NotIn := by decide) : behindInMarks op b = false := by
  have e1 : (op == CmpOp.In) = false := by cases op <;> first | rfl | exact absurd rfl h
  have e2 : (op == CmpOp.NotIn) = false := by cases op <;> first | rfl | exact absurd rfl h2
  cases b <;> simp [behindInMarks, e1, e2]
theorem pe_cmpR {op : CmpOp} {r : R2} (ho : OpR X (compareOp op) r) (ha : PE X a ta) (hb : PE X b tb) (hm : behindInMarks op b = false) : PE X (.Compare a [op] [b] pos) (tOp r ta tb) := by
  intro pins s σ H Q I h
  exact wpAny_Compare1 (binT ha hb I h fun v u s2 x y H2 I2 rx ry q => ho pins s2 σ H2 x y v u Q I2 rx ry q) hm
def tTest (t : TE) : TT := fun σ H Q => t σ H fun x H' => ∃ k, x = .bl k ∧ Q k H'
theorem pt_cmpR {op : CmpOp} {r : R2} (ho : OpR X (compareOp op) r) (ha : PE X a ta) (hb : PE X b tb) (hm : behindInMarks op b = false) : PT X (.Compare a [op] [b] pos) (tTest (tOp r ta tb)) := by
  intro pins s σ H Q I h
  refine wpAny_isTrue_Compare1 (thn (ha pins s σ H _ I h) fun v s1 ⟨x, H1, I1, r1, q1⟩ => thn (hb pins s1 σ H1 _ I1 q1) fun u s2 ⟨y, H2, I2, r2, q2⟩ =>
    thn (ho pins s2 σ H2 x y v u _ I2 r1 r2 q2) fun c s3 ⟨z, H3, I3, r3, k, e, q3⟩ => ?_) hm
  subst e
  cases r3
  exact wpAny_truthy_bool ⟨H3, I3, q3⟩
def tChain (r r' : R2) (ta tb tc : TE) : TE := fun σ H Q => ta σ H fun x H1 => tb σ H1 fun y H2 => r x y H2 fun z H3 => ∃ k, z = .bl k ∧
  (if k = true then tc σ H3 fun w' H4 => r' y w' H4 Q else Q (.bl false) H3)
theorem pt_chain {op op' : CmpOp} {r r' : R2} (ho : OpR X (compareOp op) r) (ho' : OpR X (compareOp op') r') (ha : PE X a ta) (hb : PE X b tb) (hc : PE X c tc)
    (hm : lastMarks [op, op'] [b, c] = false := by with_unfolding_all rfl) : PT X (.Compare a [op, op'] [b, c] pos) (tTest (tChain r r' ta tb tc)) := by
  intro pins s σ H Q I h
  refine isTrue_chain (thn (ha pins s σ H _ I h) fun v s1 ⟨x, H1, I1, r1, q1⟩ => test_link (thn (hb pins s1 σ H1 _ I1 q1) fun u s2 ⟨y, H2, I2, r2, q2⟩ =>
    thn (ho pins s2 σ H2 x y v u _ I2 r1 r2 q2) fun d s3 ⟨z, H3, I3, r3, k, e, q3⟩ => ?_)) hm
  subst e
  cases r3
  refine wpAny_truthy_bool ?_
  cases k with
  | false =>
    obtain ⟨k', e', q'⟩ := q3
    cases e'
    exact ite_ff ⟨H3, I3, q'⟩
  | true =>
    refine ite_tt (test_last (thn (hc pins s3 σ H3 _ I3 q3) fun w' s4 ⟨z', H4, I4, r4, q4⟩ => thn (ho' pins s4 σ H4 y z' u w' _ I4 r2 r4 q4) fun d' s5 ⟨z2, H5, I5, r5, k2, e2, q5⟩ => ?_))
    subst e2
    cases r5
    exact wpAny_truthy_bool ⟨H5, I5, q5⟩

def TruV (K : PySem.W.Frag) (x : V) (H : Hp) (k : Bool) : Prop :=
  match x with
  | .non => k = false
  | .bl b => k = b
  | .int i => k = (i != 0)
  | .str y => y.length ≤ sizeLine ∧ k = ((y.length : Int) != 0)
  | .byt y => y.size ≤ sizeLine ∧ k = ((y.size : Int) != 0)
  | .ref p => (∃ xs, SqL K H p xs ∧ k = !xs.isEmpty) ∨ (∃ xs, SqT K H p xs ∧ k = !xs.isEmpty) ∨ ∃ kvs, H p = some (.dK kvs) ∧ k = !kvs.isEmpty
  | _ => False
theorem isEmpty_kv {κ : Type} {kvs : List (κ × V)} {vs : List (κ × Value)} (r : KV kvs vs) : (!vs.isEmpty) = !kvs.isEmpty := by
  cases r <;> rfl
theorem isEmpty_of {xs : List V} {its : List Value} (r : Vals xs its) : (!its.toArray.isEmpty) = !xs.isEmpty := by
  cases r <;> simp
theorem line63 : (sizeLine : Nat) < 2 ^ 63 := by rw [sizeLine_eq]; decide
theorem tru_ok : TruR X (fun x H Q => ∃ k, TruV X.K x H k ∧ Q k H) := by
  intro pins s σ H x v Q I rx h
  obtain ⟨k, e, q⟩ := h
  have hl := line63
  have hs : sizeLine = 16777216 := sizeLine_eq
  cases x with
  | non =>
    cases rx
    have e' : k = false := e
    subst e'
    exact truthy_none ⟨H, I, q⟩
  | bl b =>
    cases rx
    have e' : k = b := e
    subst e'
    exact wpAny_truthy_bool ⟨H, I, q⟩
  | int i =>
    obtain ⟨t, rfl⟩ := rx
    have e' : k = (i != 0) := e
    subst e'
    exact PySem.P.truthy_int ⟨H, I, q⟩
  | str y =>
    obtain ⟨t, rfl⟩ := rx
    obtain ⟨hy, e'⟩ : y.length ≤ sizeLine ∧ k = ((y.length : Int) != 0) := e
    subst e'
    exact PySem.P.truthy_str (by omega) ⟨H, I.tok _, q⟩
  | byt y =>
    obtain ⟨t, rfl⟩ := rx
    obtain ⟨hy, e'⟩ : y.size ≤ sizeLine ∧ k = ((y.size : Int) != 0) := e
    subst e'
    exact PySem.W.truthy_bytes (by omega) ⟨H, I.tok _, q⟩
  | ref p =>
    cases rx
    have e' : (∃ xs, SqL X.K H p xs ∧ k = !xs.isEmpty) ∨ (∃ xs, SqT X.K H p xs ∧ k = !xs.isEmpty) ∨ ∃ kvs, H p = some (.dK kvs) ∧ k = !kvs.isEmpty := e
    rcases e' with ⟨xs, hx, e'⟩ | ⟨xs, hx, e'⟩ | ⟨kvs, hx, e'⟩
    · subst e'
      obtain ⟨its, r, pl, hz⟩ := I.list hx
      have hlen := r.length
      exact wpAny_truthy_list pl.isList (by simp only [List.size_toArray]; omega) ⟨H, I.tok _, by rw [isEmpty_of r]; exact q⟩
    · subst e'
      obtain ⟨its, r, pl, hz⟩ := I.tuple hx
      have hlen := r.length
      exact truthy_tuple pl (by simp only [List.size_toArray]; omega) ⟨H, I.tok _, by rw [isEmpty_of r]; exact q⟩
    · subst e'
      obtain ⟨hz, hS, vs, r, m⟩ : kvs.length ≤ sizeLine ∧ (p == sysModules) = false ∧ ∃ vs, KV kvs vs ∧ s.heap.DictOf (mixKind X.prog X.w) p vs := I.hok p _ hx
      have hlen : kvs.length = vs.length := Paired.length r
      exact wpAny_truthy_dict hS m (by omega) ⟨H, I.tok _, by rw [isEmpty_kv r]; exact q⟩
  | _ => exact (show False from e).elim
theorem pt_truth (ha : PE X a ta) (he : ∀ whole, isTrue a X.env whole = (do let v ← whole; standAt a.pos; holding [v] (truthy v))) :
    PT X a (fun σ H Q => ta σ H fun x H' => ∃ k, TruV X.K x H' k ∧ Q k H') := by
  intro pins s σ H Q I h
  exact isTrue_plain (thn (ha pins s σ H _ I h) fun v s1 ⟨x, H1, I1, r1, q1⟩ => tru_ok pins s1 σ H1 x v Q I1 r1 q1) (he _)

theorem op_add_str : OpR X (binaryOp .Add) (fun x y H Q => ∃ i j, x = .str i ∧ y = .str j ∧ i.length + j.length ≤ sizeLine ∧ Q (.str (i ++ j)) H) := by
  intro pins s σ H x y v u Q I rx ry h
  obtain ⟨i, j, rfl, rfl, hz, q⟩ := h
  obtain ⟨t, rfl⟩ := rx
  obtain ⟨t', rfl⟩ := ry
  exact add_str (fun t' tk => ⟨.str (i ++ j), H, I.tok _, ⟨_, rfl⟩, q⟩) hz
theorem vals1 {x : V} {us : List Value} (r : Vals [x] us) : ∃ u, us = [u] ∧ RelV x u := by
  cases r with
  | cons r1 r2 => cases r2; exact ⟨_, rfl, r1⟩
theorem vals2 {x y : V} {us : List Value} (r : Vals [x, y] us) : ∃ u w', us = [u, w'] ∧ RelV x u ∧ RelV y w' := by
  cases r with
  | cons r1 r2 =>
    cases r2 with
    | cons r3 r4 => cases r4; exact ⟨_, _, rfl, r1, r3⟩
theorem call_int1 : CallR X (.type "int") (fun xs H Q => (∃ i, xs = [.int i] ∧ Q (.int i) H) ∨ ∃ k, xs = [.bl k] ∧ Q (.int (if k then 1 else 0)) H) := by
  intro pins s σ H xs us Q I r h
  rcases h with ⟨i, rfl, q⟩ | ⟨k, rfl, q⟩
  · obtain ⟨u, rfl, t, rfl⟩ := vals1 r
    exact call_int_int ⟨.int i, H, I, ⟨_, rfl⟩, q⟩
  · obtain ⟨u, rfl, r1⟩ := vals1 r
    cases r1
    exact call_int_bool ⟨.int (if k then 1 else 0), H, I.tok _, ⟨_, rfl⟩, q⟩
theorem call_str_int : CallR X (.type "str") (fun xs H Q => ∃ i, xs = [.int i] ∧ i.natAbs.log2 < 1920 ∧ Q (.str (toString i)) H) := by
  intro pins s σ H xs us Q I r h
  obtain ⟨i, rfl, hz, q⟩ := h
  obtain ⟨u, rfl, t, rfl⟩ := vals1 r
  exact PySem.P.str_of_int hz ⟨.str _, H, I.tok _, ⟨_, rfl⟩, q⟩
end
end L2

namespace L2
open PySem PySem.Spec PyProof.Rows

structure ObjM (h : Heap) (x dx C : Addr) (mA : Str → Option Value) : Prop where
  obj : h.get? x = some (PySem.W.instObj C dx)
  ns : h.Ns1 dx mA
  ne : dx ≠ x

theorem lookIn_ns {h : Heap} {dx : Addr} {mA : Str → Option Value} (n : h.Ns1 dx mA) : ∃ od, h.get? dx = some od ∧ ∀ name, PySem.W.lookIn name od = some (mA name) := by
  obtain ⟨o, es, ep, ho, hd, hk, _, hm⟩ := n
  refine ⟨o, ho, fun name => ?_⟩
  have e := hm name
  unfold nsFind findBy at e
  rw [← Array.find?_toList] at e
  unfold PySem.W.lookIn
  rw [hd]
  dsimp only
  split
  · rename_i y q
    rw [q] at e
    exact congrArg some e
  · rename_i q
    rw [q] at e
    have a : es.toList.any (·.refKey) = false := by
      rw [List.any_eq_false]
      intro y hy
      obtain ⟨z, t, hkey⟩ := hk y (Array.mem_toList_iff.mp hy)
      simp [DictEntry.refKey, hkey]
    have a' : ¬ es.toList.any (·.refKey) = true := by rw [a]; exact Bool.false_ne_true
    rw [if_neg a']
    exact congrArg some e

theorem ObjM.look {h : Heap} {x dx C : Addr} {mA : Str → Option Value} (I : ObjM h x dx C mA) : ∃ od, PySem.W.InstAt h x (PySem.W.instObj C dx) C (some od) ∧ ∀ name, PySem.W.lookIn name od = some (mA name) :=
  let ⟨od, ho, hl⟩ := lookIn_ns I.ns
  ⟨od, ⟨I.obj, rfl, rfl, ho⟩, hl⟩

section
variable {prog : Program} {w : World} {A : Around} {E : Value → Shared → Prop} {s : Shared} {K : PySem.W.Frag} {x dx C f : Addr} {mA : Str → Option Value} {name : Str} {v : Value}

theorem get_map {expr : Bool} {Q : Value → Shared → Prop} (X : K.In s.heap) (I : ObjM s.heap x dx C mA) (hg : PySem.W.plainGet K C name = true) (hh : PySem.W.hasDictIn K C = true)
    (ha : PySem.W.findIn K (.ref C) name = some none) (hv : mA name = some v) (hv' : PySem.W.handedIn v = true) (h : Q v { s with toks := s.toks + 1 }) :
    wpAny (model prog w) A (getAttr (.ref x) name expr) Q E s := by
  obtain ⟨od, J, hl⟩ := I.look
  exact PySem.W.get_value X J (PySem.W.plainGet_of hg).1 (PySem.W.findObj_own hh ha rfl (by rw [hl, hv])) hv' h

theorem get_meth {pl : Sem Bool} {Q : Value × List Value → Shared → Prop} (X : K.In s.heap) (I : ObjM s.heap x dx C mA) (hg : PySem.W.plainGet K C name = true)
    (hf : PySem.W.findIn K (.ref C) name = some (some (.ref f))) (ht : PySem.W.isFn K (.ref f) = true) (hv : mA name = none) (h : Q (.ref f, [.ref x]) s) :
    wpAny (model prog w) A (getMethod (.ref x) name pl) Q E s := by
  obtain ⟨od, J, hl⟩ := I.look
  exact PySem.W.method_fn X J (PySem.W.plainGet_of hg).1 (PySem.W.plainGet_of hg).2 hf (beq_iff_eq.mp ht) (by show (PySem.W.lookIn name od).map (·.isSome) = some false; rw [hl, hv]; rfl) h

theorem set_map {ns : List Str} {Q : Unit → Shared → Prop} (X : K.In s.heap) (I : ObjM s.heap x dx C mA)
    (hs : PySem.W.findIn K (.ref C) "__setattr__" = some (some (.builtin "object.__setattr__"))) (hp : PySem.W.plainOver K C = true) (ht : PySem.W.takerIn K C name = some none) (hh : PySem.W.hasDictIn K C = true)
    (hw : PySem.Within mA ns) (hsz : ns.length ≤ sizeLine)
    (h : ∀ h', ObjM h' x dx C (fun y => if y = name then some v else mA y) → Heap.SameBut dx s.heap h' → Q () { s with heap := h', toks := s.toks + 2 }) :
    wpAny (model prog w) A (setAttr (.ref x) name v) Q E s := by
  obtain ⟨od, J, hl⟩ := I.look
  refine PySem.W.set_plain X J hs (PySem.W.osa_open (s := { s with toks := s.toks + 1 }) (r := none) X J hp ht fun b => ?_)
  obtain ⟨cd, hc, hd'⟩ := PySem.W.any_some hh
  have hx : s.heap.get? x = some ⟨.ref C, some dx, .plain, #[]⟩ := I.obj
  refine wpAny_bind (wpAny_pure (wpAny_bind (wpAny_bind (wpAny_loadPart hx (wpAny_bind (PySem.W.Looks.here (s := { s with toks := s.toks + 1 }) (PySem.W.looks_clsIn X hc) ?_))))))
  rw [hd']
  refine wpAny_pure (a := some dx) (wpAny_bind (wpAny_pure (wpAny_bind ?_)))
  refine wpAny_nsSet1 (s := { s with toks := s.toks + 1 }) I.ns fun h' hn2 hs2 => ?_
  obtain ⟨oD, esD, epD, hoD, hdD, hcD⟩ := hn2.count (PySem.Within.cons name v hw)
  refine wpAny_bind (wpAny_lookBehind hoD (by rw [hdD]; exact pastItsLine_dict (Nat.le_trans hcD (by rw [List.length_cons]; omega))) ?_)
  exact wpAny_pure (h _ ⟨(hs2.2 _ (Ne.symm I.ne)).trans I.obj, hn2, I.ne⟩ hs2)

theorem make_map {R : Result → Shared → Prop} {vs : List Value} {kw : List (Str × Value)} (X : K.In s.heap) (hm : PySem.W.makesIn K C = true)
    (hi : PySem.W.findIn K (.ref C) "__init__" = some (some (.ref f))) (hf : PySem.W.typeIn K (.ref f) = some (.type "function"))
    (h : codeAny (model prog w) (A.under (.builtin "type.__call__" ⟨.ref C :: vs, kw⟩)) (.call (.ref f) ⟨.ref (s.heap.objs.size + 1) :: vs, kw⟩) (PySem.W.InitBack (s.heap.objs.size + 1) R)
      { s with heap := (s.heap.push PySem.W.emptyDict).push (PySem.W.instObj C s.heap.objs.size) }) :
    codeAny (model prog w) A (.call (.ref C) ⟨vs, kw⟩) R s := by
  obtain ⟨hh, g, d, t, os⟩ := s
  exact PySem.W.make_core (PySem.W.makes_of X hm) (PySem.W.looks_findIn X hi) (fun self => PySem.W.bind_fn X self hf) (.inl rfl) h
end

def putF (f : Str) (v : V) : List (Str × V) → List (Str × V)
  | [] => [(f, v)]
  | (g, x) :: r => if g = f then (g, v) :: r else (g, x) :: putF f v r
theorem lookup_putF (f g : Str) (v : V) : ∀ fs : List (Str × V), (putF f v fs).lookup g = if g = f then some v else fs.lookup g
  | [] => by
    show List.lookup g [(f, v)] = _
    by_cases h : g = f
    · have hb : (g == f) = true := beq_iff_eq.mpr h
      simp only [List.lookup, hb, if_pos h]
    · have hb : (g == f) = false := beq_eq_false_iff_ne.mpr h
      simp only [List.lookup, hb, if_neg h]
  | (k, x) :: r => by
    have ih := lookup_putF f g v r
    rw [show putF f v ((k, x) :: r) = (if k = f then (k, v) :: r else (k, x) :: putF f v r) from rfl]
    by_cases hk : k = f
    · rw [if_pos hk]
      by_cases h : g = k
      · have hb : (g == k) = true := beq_iff_eq.mpr h
        simp only [List.lookup, hb, if_pos (h.trans hk)]
      · have hb : (g == k) = false := beq_eq_false_iff_ne.mpr h
        simp only [List.lookup, hb, if_neg (fun e : g = f => h (e.trans hk.symm))]
    · rw [if_neg hk]
      by_cases h : g = k
      · have hb : (g == k) = true := beq_iff_eq.mpr h
        simp only [List.lookup, hb, if_neg (fun e : g = f => hk (h.symm.trans e))]
      · have hb : (g == k) = false := beq_eq_false_iff_ne.mpr h
        simp only [List.lookup, hb]
        exact ih
theorem keys_putF (f : Str) (v : V) : ∀ fs : List (Str × V), f ∈ (putF f v fs).map (·.1) ∧ ∀ g, g ∈ fs.map (·.1) → g ∈ (putF f v fs).map (·.1)
  | [] => ⟨by simp [putF], fun g h => by simp at h⟩
  | (k, x) :: r => by
    obtain ⟨i1, i2⟩ := keys_putF f v r
    rw [show putF f v ((k, x) :: r) = (if k = f then (k, v) :: r else (k, x) :: putF f v r) from rfl]
    by_cases hk : k = f
    · rw [if_pos hk]
      subst hk
      exact ⟨by simp, fun g h => by simpa using h⟩
    · rw [if_neg hk]
      refine ⟨?_, fun g h => ?_⟩
      · rw [List.map_cons]
        exact List.mem_cons_of_mem _ i1
      · rw [List.map_cons] at h ⊢
        rcases List.mem_cons.mp h with e | e
        · exact List.mem_cons.mpr (.inl e)
        · exact List.mem_cons_of_mem _ (i2 g e)
theorem length_putF (f : Str) (v : V) : ∀ fs : List (Str × V), (putF f v fs).length ≤ fs.length + 1
  | [] => by simp [putF]
  | (k, x) :: r => by
    have ih := length_putF f v r
    rw [show putF f v ((k, x) :: r) = (if k = f then (k, v) :: r else (k, x) :: putF f v r) from rfl]
    by_cases hk : k = f
    · rw [if_pos hk, List.length_cons, List.length_cons]; omega
    · rw [if_neg hk, List.length_cons, List.length_cons]; omega

theorem RelO.some_of {v : V} {o : Option Value} (r : RelO (some v) o) : ∃ u, o = some u ∧ RelV v u := by
  cases o with
  | none => exact (show False from r).elim
  | some u => exact ⟨u, rfl, r⟩
theorem RelO.none_of {o : Option Value} (r : RelO none o) : o = none := by
  cases o with
  | none => rfl
  | some u => exact (show False from r).elim
theorem handed_of {v : V} {u : Value} (r : RelV v u) : PySem.W.handedIn u = true := by
  cases v with
  | non => cases (show u = Value.none from r); rfl
  | bl b => cases (show u = Value.bool b from r); rfl
  | int i => obtain ⟨t, e⟩ := (show ∃ t, u = Value.int i t from r); cases e; rfl
  | str x => obtain ⟨t, e⟩ := (show ∃ t, u = Value.str x t from r); cases e; rfl
  | byt b => obtain ⟨t, e⟩ := (show ∃ t, u = Value.bytes b t from r); cases e; rfl
  | flt b => obtain ⟨t, e⟩ := (show ∃ t, u = Value.float b t from r); cases e; rfl
  | ref a => cases (show u = Value.ref a from r); rfl
  | ty n => cases (show u = Value.type n from r); rfl

section
variable {P : Program} {w : World} {H H' : Hp} {h h' : Heap} {a C dx : Addr} {fs fs' : List (Str × V)}
theorem ins_get (hok : HOk P w H h) (e : H a = some (.ins C dx fs)) : ∃ mA, ObjM h a dx C mA ∧ (∀ f, RelO (fs.lookup f) (mA f)) ∧ PySem.Within mA (fs.map (·.1)) ∧ fs.length ≤ 1000 ∧ H dx = some (.own a) := by
  obtain ⟨d, z, ne, ob, mA, n, r, q⟩ := (show ObjOk P w H h a (.ins C dx fs) from hok a _ e)
  exact ⟨mA, ⟨ob, n, ne⟩, r, q, z, d⟩
end

structure Cls (K : PySem.W.Frag) (C : Addr) : Prop where
  pg : PySem.W.plainGet K C Str.empty = true
  hd : PySem.W.hasDictIn K C = true
  po : PySem.W.plainOver K C = true
  sa : PySem.W.findIn K (.ref C) "__setattr__" = some (some (.builtin "object.__setattr__"))
theorem Cls.get {K : PySem.W.Frag} {C : Addr} (c : Cls K C) (f : Str) : PySem.W.plainGet K C f = true := c.pg
def NoAttr (K : PySem.W.Frag) (C : Addr) (f : Str) : Prop := PySem.W.findIn K (.ref C) f = some none
theorem NoAttr.taker {K : PySem.W.Frag} {C : Addr} {f : Str} (n : NoAttr K C f) : PySem.W.takerIn K C f = some none := by
  unfold PySem.W.takerIn
  rw [show PySem.W.findIn K (.ref C) f = some none from n]
  rfl
structure Meth (K : PySem.W.Frag) (C : Addr) (m : Str) (f : Addr) : Prop where
  at_ : PySem.W.findIn K (.ref C) m = some (some (.ref f))
  fn : PySem.W.isFn K (.ref f) = true
  kp : PySem.W.keepIn K (.ref f) = true

section
variable {X : Cx} {pins : List (Addr × Obj)} {σ : St} {H : Hp} {s : Shared} {a C dx : Addr} {fs : List (Str × V)} {f : Str} {v : V} {A : Around} {E : Value → Shared → Prop}

theorem getattr_ok {b : Bool} {Q : Value → Shared → Prop} (I : Inv X pins σ H s) (e : H a = some (.ins C dx fs)) (c : Cls X.K C) (n : NoAttr X.K C f) (l : fs.lookup f = some v)
    (h : ∀ u s', Inv X pins σ H s' → RelV v u → Q u s') : wpAny (model X.prog X.w) A (getAttr (.ref a) f b) Q E s := by
  obtain ⟨mA, O, r, _, _, _⟩ := ins_get I.hok e
  obtain ⟨u, hu, ru⟩ := RelO.some_of (v := v) (o := mA f) (by rw [← l]; exact r f)
  exact get_map I.kIn O (c.get f) c.hd n hu (handed_of ru) (h u _ (I.tok _) ru)

theorem getmeth_ok {m : Str} {g : Addr} {pl : Sem Bool} {Q : Value × List Value → Shared → Prop} (I : Inv X pins σ H s) (e : H a = some (.ins C dx fs)) (c : Cls X.K C) (k : Meth X.K C m g) (l : fs.lookup m = none)
    (h : Q (.ref g, [.ref a]) s) : wpAny (model X.prog X.w) A (getMethod (.ref a) m pl) Q E s := by
  obtain ⟨mA, O, r, _, _, _⟩ := ins_get I.hok e
  have hn : mA m = none := RelO.none_of (by rw [← l]; exact r m)
  exact get_meth I.kIn O (c.get m) k.at_ k.fn hn h

theorem setattr_ok {y : V} {u : Value} {Q : Unit → Shared → Prop} (I : Inv X pins σ H s) (e : H a = some (.ins C dx fs)) (c : Cls X.K C) (n : NoAttr X.K C f) (hl : fs.length < 1000) (ry : RelV y u)
    (h : ∀ s', Inv X pins σ (upd H a (.ins C dx (putF f y fs))) s' → Q () s') : wpAny (model X.prog X.w) A (setAttr (.ref a) f u) Q E s := by
  obtain ⟨mA, O, r, wi, _, ho⟩ := ins_get I.hok e
  have hz : (fs.map (·.1)).length ≤ sizeLine := by rw [List.length_map, sizeLine_eq]; omega
  refine set_map I.kIn O c.sa c.po n.taker c.hd wi hz fun h' O' sb => h _ ?_
  have hd : ∃ o, h'.get? dx = some o := let ⟨o, _, _, e', _⟩ := O'.ns; ⟨o, e'⟩
  refine I.write (x := a) (e := dx) (by rw [e]; exact True.intro) (.inr ho) (fun b q hb z => (sb.2 b hb).trans z) hd ?_
  refine ⟨by rw [upd_ne O.ne]; exact ho, ?_, O.ne, O'.obj, _, O'.ns, fun g => ?_, fun g hg => ?_⟩
  · have := length_putF f y fs; omega
  · show RelO ((putF f y fs).lookup g) (if g = f then some u else mA g)
    rw [lookup_putF]
    by_cases q : g = f
    · rw [if_pos q, if_pos q]; exact ry
    · rw [if_neg q, if_neg q]; exact r g
  · by_cases q : g = f
    · rw [q]; exact (keys_putF f y fs).1
    · refine (keys_putF f y fs).2 g (wi g fun z => hg ?_)
      show (if g = f then some u else mA g) = none
      rw [if_neg q]; exact z

theorem Inv.made (I : Inv X pins σ H s) : Inv X pins σ (upd (upd H s.heap.objs.size (.own (s.heap.objs.size + 1))) (s.heap.objs.size + 1) (.ins C s.heap.objs.size []))
    { s with heap := (s.heap.push PySem.W.emptyDict).push (PySem.W.instObj C s.heap.objs.size) } := by
  have e1 : (s.heap.push PySem.W.emptyDict).get? s.heap.objs.size = some PySem.W.emptyDict := Heap.get?_push_size s.heap rfl
  have e2 : ((s.heap.push PySem.W.emptyDict).push (PySem.W.instObj C s.heap.objs.size)).get? (s.heap.objs.size + 1) = some (PySem.W.instObj C s.heap.objs.size) := by
    have := Heap.get?_push_size (s.heap.push PySem.W.emptyDict) (o := PySem.W.instObj C s.heap.objs.size) rfl
    rwa [Heap.size_push] at this
  have e3 : (s.heap.push PySem.W.emptyDict).Ns s.heap.objs.size (fun _ => none) := ⟨PySem.W.emptyDict, #[], _, e1, rfl, (fun e he => absurd he (by simp)), fun _ => rfl⟩
  have I1 := I.laid (a := s.heap.objs.size) (o := .own (s.heap.objs.size + 1)) (h' := s.heap.push PySem.W.emptyDict) (t' := s.toks) (fun b u q => Heap.get?_push_of_some _ q) (Nat.le_refl _) ⟨_, e1⟩
  refine I1.laid (a := s.heap.objs.size + 1) (o := .ins C s.heap.objs.size []) (t' := s.toks) (fun b u q => Heap.get?_push_of_some _ q) (Nat.le_of_eq (Heap.size_push _ _)) ?_
  have ne : s.heap.objs.size ≠ s.heap.objs.size + 1 := Nat.ne_of_lt (Nat.lt_succ_self _)
  refine ⟨by rw [upd_ne ne, upd_same], Nat.zero_le _, ne, e2, fun _ => none, (Heap.Ns1.of_empty e3).at fun o q => Heap.get?_push_of_some _ q, fun _ => True.intro, fun y hy => absurd rfl hy⟩

theorem attr_of {prog : Program} {w : World} {env : Env} {e : Expr} {f : Str} {pos : Pos} {s : Shared} {Q : Value → Shared → Prop} (hb : attributeBase e f env (eval e env) = eval e env)
    (h : wpAny (model prog w) A (eval e env) (fun o s₁ => wpAny (model prog w) A (getAttr o f true) Q E s₁) E s) : wpAny (model prog w) A (eval (.Attribute e f pos) env) Q E s :=
  Attribute_any_ h (by rw [arm_eval_Attribute, hb])
end

def tFld (K : PySem.W.Frag) (ta : TE) (f : Str) : TE := fun σ H Q => ta σ H fun x H1 => ∃ a C dx fs v, x = .ref a ∧ H1 a = some (.ins C dx fs) ∧ Cls K C ∧ NoAttr K C f ∧ fs.lookup f = some v ∧ Q v H1
def sFld (K : PySem.W.Frag) (ta tv : TE) (f : Str) : TS := fun D σ H => tv σ H fun y H1 => ta σ H1 fun x H2 => ∃ a C dx fs, x = .ref a ∧ H2 a = some (.ins C dx fs) ∧ Cls K C ∧ NoAttr K C f ∧ fs.length < 1000 ∧
  D.nx σ (upd H2 a (.ins C dx (putF f y fs)))
section
variable {X : Cx} {o e value : Expr} {f : Str} {pos pos' tpos : Pos} {ta tv : TE}
theorem pe_fld (he : PE X e ta) (hb : attributeBase e f X.env (eval e X.env) = eval e X.env) : PE X (.Attribute e f pos) (tFld X.K ta f) := by
  intro pins s σ H Q I h
  refine attr_of hb (thn (he pins s σ H _ I h) fun u s1 ⟨x, H1, I1, rx, a, C, dx, fs, v, ex, ea, c, n, l, q⟩ => ?_)
  subst ex
  obtain rfl : u = Value.ref a := rx
  exact getattr_ok I1 ea c n l fun u' s2 I2 ru => ⟨v, H1, I2, ru, q⟩
theorem ps_fld (ha : PE X o ta) (hv : PE X value tv) (hs : swapsWith value (some (.Attribute o f pos')) pos.line X.env = pure false) : PS X (.Assign [.Attribute o f pos'] value pos) (sFld X.K ta tv f) := by
  intro pins s σ H D I h
  refine plainObj_wpAny_Assign_Attribute (thn (hv pins s σ H _ I h) fun u s1 ⟨y, H1, I1, ry, q⟩ => thn (ha pins s1 σ H1 _ I1 q) fun ov s2 ⟨x, H2, I2, rx, a, C, dx, fs, ex, ea, c, n, l, q2⟩ => ?_) hs
  subst ex
  obtain rfl : ov = Value.ref a := rx
  exact setattr_ok I2 ea c n l ry fun s3 I3 => ⟨σ, _, I3, q2⟩
end

section
variable {X : Cx} {pins : List (Addr × Obj)} {σ : St} {H : Hp} {s : Shared} {A : Around} {E : Value → Shared → Prop} {Q : Value → Shared → Prop} {c : Value} {b : Bool}
inductive TyOf (K : PySem.W.Frag) (H : Hp) : V → Value → Prop where
  | non : TyOf K H .non (.type "NoneType")
  | bl (x : Bool) : TyOf K H (.bl x) (.type "bool")
  | int (i : Int) : TyOf K H (.int i) (.type "int")
  | str (x : Str) : TyOf K H (.str x) (.type "str")
  | flt (x : UInt64) : TyOf K H (.flt x) (.type "float")
  | lst {a : Addr} {xs : List V} (e : H a = some (.lst xs)) : TyOf K H (.ref a) (.type "list")
  | frz {a : Addr} {o : Obj} {xs : List V} (e : H a = some (.frz o (.lst xs))) : TyOf K H (.ref a) (.type "list")
  | tup {a : Addr} {xs : List V} (e : H a = some (.tup xs)) : TyOf K H (.ref a) (.type "tuple")
  | dK {a : Addr} {kvs : List (Key × V)} (e : H a = some (.dK kvs)) : TyOf K H (.ref a) (.type "dict")
  | dT {a : Addr} {kvs : List (List Key × V)} (e : H a = some (.dT kvs)) : TyOf K H (.ref a) (.type "dict")
  | ins {a C dx : Addr} {fs : List (Str × V)} (e : H a = some (.ins C dx fs)) (cl : Cls K C) (ha : PySem.W.findIn K (.ref C) "__class__" = some (some (.builtin "object.__class__")))
      (hn : PySem.W.specialIn K (.builtin "object.__class__") "__get__" = some (some (.builtin "getset_descriptor.__get__"))) (htk : PySem.W.takesIn K (.builtin "object.__class__") = some true)
      (hm : PySem.W.mroIn K C (.type "object") = some true) : TyOf K H (.ref a) (.ref C)
theorem isinst_ok {x : V} {u t : Value} (I : Inv X pins σ H s) (rx : RelV x u) (ty : TyOf X.K H x t) (e : PySem.W.kitOne X.K t c = some b) (h : ∀ tk, Q (.bool b) { s with toks := tk }) :
    wpAny (model X.prog X.w) A (call (.builtin "isinstance") [u, c]) Q E s := by
  cases ty with
  | non => cases (show u = Value.none from rx); exact PySem.W.kia_one PySem.W.kitx_none I.kIn True.intro e (fun z => nomatch z) h
  | bl y => cases (show u = Value.bool y from rx); exact PySem.W.kia_one PySem.W.kitx_bool I.kIn True.intro e (fun z => nomatch z) h
  | int i => obtain ⟨t, q⟩ := (show ∃ t, u = Value.int i t from rx); cases q; exact PySem.W.kia_one PySem.W.kitx_int I.kIn True.intro e (fun z => nomatch z) h
  | str y => obtain ⟨t, q⟩ := (show ∃ t, u = Value.str y t from rx); cases q; exact PySem.W.kia_one PySem.W.kitx_str I.kIn True.intro e (fun z => nomatch z) h
  | flt y => obtain ⟨t, q⟩ := (show ∃ t, u = Value.float y t from rx); cases q; exact PySem.W.kia_one PySem.W.kitx_float I.kIn True.intro e (fun z => nomatch z) h
  | @lst a xs ea =>
    cases (show u = Value.ref a from rx)
    obtain ⟨_, _, n, _, h1⟩ := (show ObjOk X.prog X.w H s.heap a (.lst xs) from I.hok a _ ea)
    exact PySem.W.kia_one PySem.W.kitx_list I.kIn ⟨_, h1, rfl⟩ e (fun z => nomatch z) h
  | @frz a ob xs ea =>
    cases (show u = Value.ref a from rx)
    obtain ⟨_, _, _, n, _, h1⟩ := (show ObjOk X.prog X.w H s.heap a (.frz ob (.lst xs)) from I.hok a _ ea)
    exact PySem.W.kia_one PySem.W.kitx_list I.kIn ⟨_, h1, rfl⟩ e (fun z => nomatch z) h
  | @tup a xs ea =>
    cases (show u = Value.ref a from rx)
    obtain ⟨_, _, _, p⟩ := (show ObjOk X.prog X.w H s.heap a (.tup xs) from I.hok a _ ea)
    obtain ⟨o, h1, h2, _⟩ := p
    exact PySem.W.kia_one PySem.W.kitx_tuple I.kIn ⟨o, h1, h2⟩ e (fun z => nomatch z) h
  | @dK a kvs ea =>
    cases (show u = Value.ref a from rx)
    obtain ⟨_, _, vs, _, p⟩ := (show ObjOk X.prog X.w H s.heap a (.dK kvs) from I.hok a _ ea)
    obtain ⟨o, es, ep, h1, h2, _⟩ := p
    exact PySem.W.kia_one PySem.W.kitx_dict I.kIn ⟨o, h1, h2.1⟩ e (fun z => nomatch z) h
  | @dT a kvs ea =>
    cases (show u = Value.ref a from rx)
    obtain ⟨_, _, xs, _, o, es, ep, h1, h2, _⟩ := (show ObjOk X.prog X.w H s.heap a (.dT kvs) from I.hok a _ ea)
    exact PySem.W.kia_one PySem.W.kitx_dict I.kIn ⟨o, h1, h2.1⟩ e (fun z => nomatch z) h
  | @ins a C dx fs ea cl ha hn htk hm =>
    cases (show u = Value.ref a from rx)
    obtain ⟨mA, O, _⟩ := ins_get I.hok ea
    obtain ⟨od, J, _⟩ := O.look
    exact PySem.W.kia_one (PySem.W.kitx_own (cl.get _) cl.hd ha hn htk hm) I.kIn J e (fun z => nomatch z) h
end
end L2

namespace L2
open PySem PySem.Spec PyProof.Rows

structure Room (k : Nat) (A : Around) : Prop where
  hd : A.handled = none
  dp : A.depth + 3 * k + 5 < recursionLimit
  un : A.units + 16 * k + 200 < cLine
  gd : A.guards = some []
theorem Room.mono {j k : Nat} {A : Around} (r : Room k A) (h : j ≤ k) : Room j A := ⟨r.hd, by have := r.dp; omega, by have := r.un; omega, r.gd⟩
theorem Room.deeper {k : Nat} {A : Around} (r : Room (k + 1) A) (env : Env) : Room k (A.deeper env) :=
  ⟨r.hd, by have := r.dp; show A.depth + 1 + 3 * k + 5 < _; omega, by have := r.un; show A.units + 3 + 16 * k + 200 < _; omega, by first | exact r.gd | (show pushGuards _ A.guards = _; rw [r.gd]; rfl)⟩
theorem make_depth {A : Around} {C : Addr} {us : List Value} {kw : List (Str × Value)} : (A.under (.builtin "type.__call__" ⟨.ref C :: us, kw⟩)).depth = A.depth + 1 := by
  first | rfl | simp [Around.under, Code.weight, Code.isCreation, Code.isGuard, Code.isCaller, Code.frames, Code.isFrame, guardIds]
theorem make_units {A : Around} {C : Addr} {us : List Value} {kw : List (Str × Value)} : (A.under (.builtin "type.__call__" ⟨.ref C :: us, kw⟩)).units = A.units + 1 := by
  first | rfl | simp [Around.under, Code.cUnits, Code.frames, Code.isFrame]
theorem make_guards {A : Around} {C : Addr} {us : List Value} {kw : List (Str × Value)} (h : A.guards = some []) : (A.under (.builtin "type.__call__" ⟨.ref C :: us, kw⟩)).guards = some [] := by
  have e : (Code.builtin "type.__call__" ⟨.ref C :: us, kw⟩).guards = [] := by
    unfold Code.guards
    have : (Code.builtin "type.__call__" ⟨.ref C :: us, kw⟩).isGuard = false := by first | rfl | decide +kernel | simp [Code.isGuard, guardIds]
    rw [this]; rfl
  unfold Around.under
  simp only [e, h]
  rfl
theorem Room.make {k : Nat} {A : Around} (r : Room (k + 1) A) (C : Addr) (us : List Value) (kw : List (Str × Value)) : Room k (A.under (.builtin "type.__call__" ⟨.ref C :: us, kw⟩)) :=
  ⟨r.hd, by have := r.dp; rw [make_depth]; omega, by have := r.un; rw [make_units]; omega, make_guards r.gd⟩
theorem Room.depth {k : Nat} {A : Around} (r : Room k A) : A.depth < recursionLimit := by have := r.dp; omega
theorem Room.units {k : Nat} {A : Around} (r : Room k A) : A.units + 64 < cLine := by have := r.un; omega
def tNil : TA := fun _ H Q => Q [] H
def tCons (ta : TE) (tr : TA) : TA := fun σ H Q => ta σ H fun x H1 => tr σ H1 fun xs H2 => Q (x :: xs) H2
section
variable {X : Cx} {e : Expr} {es : List Expr} {te : TE} {t : TA} {pos : Pos}
theorem pa_nil : PA X [] tNil := fun _ _ _ _ H Q I h => Calls.spliced_nil ⟨[], H, I, .nil, h⟩
theorem pa_cons (ha : PE X e te) (hr : PA X es t) (hs : starEach (e :: es) X.env = (false, eval e X.env) :: starEach es X.env := by rfl) : PA X (e :: es) (tCons te t) := by
  intro pos pins s σ H Q I h
  rw [hs]
  show wpAny _ _ (spliced ((false, eval e X.env) :: backTo pos (starEach es X.env))) _ _ s
  refine Calls.spliced_cons (thn (ha pins s σ H _ I h) fun u s1 ⟨x, H1, I1, r1, q1⟩ => ?_)
  exact thn (hr pos pins s1 σ H1 _ I1 q1) fun us s2 ⟨xs, H2, I2, r2, q2⟩ => ⟨x :: xs, H2, I2, .cons r1 r2, q2⟩

def tTup (t : TA) : TE := fun σ H Q => t σ H fun xs H1 => xs.length ≤ sizeLine ∧ ∀ p, H1 p = none → Q (.ref p) (upd H1 p (.tup xs))
def tLst (t : TA) : TE := fun σ H Q => t σ H fun xs H1 => xs.length ≤ sizeLine ∧ ∀ p, H1 p = none → Q (.ref p) (upd H1 p (.lst xs))
theorem pe_tup {x1} (h : PA X es t) : PE X (.Tuple es x1 pos) (tTup t) := by
  intro pins s σ H Q I hq
  refine wpAny_Tuple_spliced (thn (h pos pins s σ H _ I hq) fun us s1 ⟨xs, H1, I1, r, z, q⟩ => ⟨by rw [← r.length]; exact z, ?_⟩)
  have hf : H1 s1.heap.objs.size = none := I1.hok.fresh (Nat.le_refl _)
  refine ⟨.ref s1.heap.objs.size, upd H1 s1.heap.objs.size (.tup xs), I1.laid (t' := s1.toks) (fun b u e => Heap.get?_push_of_some _ e) (Nat.le_refl _) ?_, rfl, q _ hf⟩
  exact ⟨z, us, r, ⟨_, Heap.get?_push_size _ rfl, rfl, _, rfl⟩⟩
theorem pe_lst (h : PA X es t) : PE X (.List es pos) (tLst t) := by
  intro pins s σ H Q I hq
  refine wpAny_List_spliced (thn (h pos pins s σ H _ I hq) fun us s1 ⟨xs, H1, I1, r, z, q⟩ => ⟨by rw [← r.length]; exact z, ?_⟩)
  have hf : H1 s1.heap.objs.size = none := I1.hok.fresh (Nat.le_refl _)
  refine ⟨.ref s1.heap.objs.size, upd H1 s1.heap.objs.size (.lst xs), I1.laid (t' := s1.toks) (fun b u e => Heap.get?_push_of_some _ e) (Nat.le_refl _) ?_, rfl, q _ hf⟩
  exact ⟨z, us, 0, r, Heap.get?_push_size _ rfl⟩
end

abbrev Sp := List V → Hp → VK → XK → Prop
abbrev CXT := List Env → Hp → Shared → XK → Value → Shared → Prop

structure Env0 (P : Program) (w : World) (K : PySem.W.Frag) (mg : Str → Option Value) (base : Heap) (A : Around) (outer : List Env) (s : Shared) (H : Hp) : Prop where
  frames : A.frames = some outer
  mod : Mod K mg base
  bs : ∀ b o, base.get? b = some o → s.heap.get? b = some o ∧ H b = none
  bsz : base.objs.size ≤ s.heap.objs.size
  funs : s.heap.FunFrames base outer
  frf : ∀ b ∈ frs outer, H b = none
  hok : HOk P w H s.heap
  bare : AllBare s.gens
def CE (outer : List Env) (P : Program) (w : World) (H : Hp) (s : Shared) (Q : VK) (u : Value) (s' : Shared) : Prop :=
  ∃ v H', s'.os = s.os ∧ AllBare s'.gens ∧ Un (frs outer) [] H H' s.heap s'.heap ∧ HOk P w H' s'.heap ∧ RelV v u ∧ Q v H'
def CR (CX : CXT) (outer : List Env) (P : Program) (w : World) (H : Hp) (s : Shared) (Q : VK) (E : XK) (r : Result) (s' : Shared) : Prop :=
  match r with
  | .ok (.ret u) => CE outer P w H s Q u s'
  | .ok _ => False
  | .error e => CX outer H s E e s'
structure FnOk (P : Program) (w : World) (K : PySem.W.Frag) (mg : Str → Option Value) (base : Heap) (CX : CXT) (k : Nat) (f : Addr) (fd : FuncData) (ps : List Str) (sp : Sp) : Prop where
  len : ∀ vs H Q E, sp vs H Q E → vs.length = ps.length
  run : ∀ (A : Around) (outer : List Env) (s : Shared) (H : Hp) (args : Args) (us : List Value) (vs : List V) (Q : VK) (E : XK), Room k A → Env0 P w K mg base A outer s H → BindsTo s fd args (ps.zip us) → Vals vs us → sp vs H Q E →
    codeAny (model P w) A (.call (.ref f) args) (CR CX outer P w H s Q E) s
theorem FnOk.mono {P : Program} {w : World} {K : PySem.W.Frag} {mg : Str → Option Value} {base : Heap} {CX : CXT} {j k : Nat} {f : Addr} {fd : FuncData} {ps : List Str} {sp : Sp} (F : FnOk P w K mg base CX j f fd ps sp) (h : j ≤ k) :
    FnOk P w K mg base CX k f fd ps sp := ⟨F.len, fun A outer s H args us vs Q E hr => F.run A outer s H args us vs Q E (hr.mono h)⟩
theorem Env0.make {P : Program} {w : World} {K : PySem.W.Frag} {mg : Str → Option Value} {base : Heap} {A : Around} {outer : List Env} {s : Shared} {H : Hp} (e : Env0 P w K mg base A outer s H) (C : Addr) (us : List Value) (kw : List (Str × Value)) :
    Env0 P w K mg base (A.under (.builtin "type.__call__" ⟨.ref C :: us, kw⟩)) outer s H := ⟨by first | exact e.frames | (simpa [Around.under, Code.envs, Code.isFrame, pushEnvs] using e.frames), e.mod, e.bs, e.bsz, e.funs, e.frf, e.hok, e.bare⟩
section
variable {X : Cx} {pins : List (Addr × Obj)} {σ : St} {H : Hp} {s s' : Shared}
theorem Inv.env0 (I : Inv X pins σ H s) : Env0 X.prog X.w X.K X.mg X.base X.A X.stack s H :=
  ⟨I.ok.frames, I.ok.mod, I.bs, Nat.le_trans I.ok.bsz I.sz, I.stack, I.stkFree, I.hok, I.bare⟩
theorem Inv.after {Q : VK} {u : Value} (I : Inv X pins σ H s) (h : CE X.stack X.prog X.w H s Q u s') : EP X pins σ Q u s' := by
  obtain ⟨v, H', os, bare, un, hok, r, q⟩ := h
  obtain ⟨hh, g, d, t, os'⟩ := s'
  obtain rfl : os' = s.os := os
  exact ⟨v, H', I.call (h' := hh) (g' := g) (d' := d) (t' := t) (ch := []) un hok bare (fun b z => absurd z (by simp)), r, q⟩
end

def tCall (sp : Sp) (dvs : List V) (E : XK) (t : TA) : TE := fun σ H Q => t σ H fun vs H1 => sp (vs ++ dvs) H1 Q E
def tMeth (C : Addr) (m : Str) (sp : Sp) (dvs : List V) (E : XK) (ta : TE) (t : TA) : TE := fun σ H Q => ta σ H fun x H1 => ∃ a dx fs, x = .ref a ∧ H1 a = some (.ins C dx fs) ∧ fs.lookup m = none ∧
  t σ H1 fun vs H2 => sp (x :: (vs ++ dvs)) H2 Q E
def tMake (C : Addr) (sp : Sp) (dvs : List V) (E : XK) (t : TA) : TE := fun σ H Q => t σ H fun vs H1 => ∀ x dx, H1 x = none → H1 dx = none → dx ≠ x →
  sp (.ref x :: (vs ++ dvs)) (upd (upd H1 dx (.own x)) x (.ins C dx [])) (fun v H2 => v = .non ∧ Q (.ref x) H2) E

def Binds (K : PySem.W.Frag) (fd : FuncData) (ps : List Str) (ds : List Value) : Prop :=
  ∀ (s : Shared) (us : List Value), K.In s.heap → (us ++ ds).length = ps.length → BindsTo s fd ⟨us, []⟩ (ps.zip (us ++ ds))
theorem Binds.all {K : PySem.W.Frag} {fd : FuncData} {ps : List Str} (h : ∀ us : List Value, us.length = ps.length → bindArgs fd ⟨us, []⟩ = pure (ps.zip us)) : Binds K fd ps [] := fun s us _ hl => by
  rw [List.append_nil] at hl ⊢
  exact .of_eq (h us hl)

def Passes (CX : CXT) (X : Cx) (E : XK) : Prop := ∀ (pins : List (Addr × Obj)) (σ : St) (H : Hp) (s : Shared) (e : Value) (s' : Shared), Inv X pins σ H s → CX X.stack H s E e s' → X.xe e s'

section
variable {X : Cx} {CX : CXT} {k : Nat} {f C : Addr} {fd : FuncData} {ps : List Str} {sp : Sp} {dvs : List V} {ds : List Value} {E : XK} {x m : Str} {p pos apos : Pos} {e o : Expr} {es : List Expr} {ta : TE} {t : TA}

theorem run_fn {pins : List (Addr × Obj)} {σ : St} {H : Hp} {s : Shared} {Q : VK} {us : List Value} {vs : List V} (F : FnOk X.prog X.w X.K X.mg X.base CX k f fd ps sp) (hr : Room k X.A) (hb : Binds X.K fd ps ds) (hd : Vals dvs ds) (hx : Passes CX X E)
    (I : Inv X pins σ H s) (r : Vals vs us) (h : sp (vs ++ dvs) H Q E) : wpAny (model X.prog X.w) X.A (call (.ref f) us) (EP X pins σ Q) X.xe s := by
  have r2 : Vals (vs ++ dvs) (us ++ ds) := r.append hd
  have hl : (us ++ ds).length = ps.length := by rw [← r2.length]; exact F.len _ _ _ _ h
  refine wpAny_call (codeAny_mono (F.run X.A X.stack s H ⟨us, []⟩ (us ++ ds) (vs ++ dvs) Q E hr I.env0 (hb s us I.kIn hl) r2 h) fun r s' hq => ?_)
  cases r with
  | error e => exact hx pins σ H s e s' I hq
  | ok fl =>
    cases fl with
    | ret u => exact I.after hq
    | next => exact False.elim hq
    | brk => exact False.elim hq
    | cont => exact False.elim hq

theorem pe_call (F : FnOk X.prog X.w X.K X.mg X.base CX k f fd ps sp) (hr : Room k X.A) (hg : Gl X x) (hm : X.mg x = some (.ref f)) (hk : PySem.W.keepIn X.K (.ref f) = true) (hb : Binds X.K fd ps ds) (hd : Vals dvs ds) (hx : Passes CX X E)
    (ha : PA X (e :: es) t) (hdb : (x == ("__debug__" : Str)) = false := by decide) (he : starEach (e :: es) X.env = (false, eval e X.env) :: starEach es X.env := by rfl) (hpl : (backTo pos (starEach es X.env)).any (·.1) = false := by rfl) :
    PE X (.Call (.Name x p) (e :: es) [] pos) (tCall sp dvs E t) := by
  intro pins s σ H Q I h
  refine wpAny_Call_Name_kw (ld_glob I hg hm ?_ hdb)
  refine PySem.W.callWith_K (h₀ := X.base) I.ok.mod.kin hk (thn (ha pos pins s σ H _ I h) fun us s1 ⟨vs, H1, I1, r, q⟩ => ⟨I1.kIn, ?_⟩) he hpl
  exact run_fn F hr hb hd hx I1 r q
theorem pe_meth {pl : Sem Bool} (he : PE X o ta) (c : Cls X.K C) (hm : Meth X.K C m f) (F : FnOk X.prog X.w X.K X.mg X.base CX k f fd ps sp) (hr : Room k X.A) (hb : Binds X.K fd ps ds) (hd : Vals dvs ds) (hx : Passes CX X E) (ha : PA X (e :: es) t)
    (hst : starEach (e :: es) X.env = (false, eval e X.env) :: starEach es X.env := by rfl) (hpl : (backTo pos (starEach es X.env)).any (·.1) = false := by rfl)
    (ht : eval (.Call (.Attribute o m apos) (e :: es) [] pos) X.env = (do
      let ov ← eval o X.env
      standAt apos.atName
      let (f, first) ← holding [ov] (getMethod ov m pl)
      callWith pos f first (backTo pos (starEach (e :: es) X.env)) (backToKw pos (keywordEach [] X.env))) := by rfl) :
    PE X (.Call (.Attribute o m apos) (e :: es) [] pos) (tMeth C m sp dvs E ta t) := by
  intro pins s σ H Q I h
  refine PySem.W.methodCall_KW (pl := pl) (thn (he pins s σ H _ I h) fun u s1 ⟨x, H1, I1, rx, a, dx, fs, ex, ea, l, q⟩ => ?_) ht
  subst ex
  obtain rfl : u = Value.ref a := rx
  refine getmeth_ok I1 ea c hm l ?_
  refine PySem.W.callWith_K (first := [.ref a]) (h₀ := X.base) I.ok.mod.kin hm.kp (thn (ha pos pins s1 σ H1 _ I1 q) fun us s2 ⟨vs, H2, I2, r, q2⟩ => ⟨I2.kIn, ?_⟩) hst hpl
  exact run_fn (us := .ref a :: us) (vs := .ref a :: vs) F hr hb hd hx I2 (.cons rfl r) q2
theorem pe_meth0 {pl : Sem Bool} (he : PE X o ta) (c : Cls X.K C) (hm : Meth X.K C m f) (F : FnOk X.prog X.w X.K X.mg X.base CX k f fd ps sp) (hr : Room k X.A) (hb : Binds X.K fd ps ds) (hd : Vals dvs ds) (hx : Passes CX X E)
    (ht : eval (.Call (.Attribute o m apos) [] [] pos) X.env = (do
      let ov ← eval o X.env
      standAt apos.atName
      let (f, first) ← holding [ov] (getMethod ov m pl)
      callWith pos f first (backTo pos (starEach [] X.env)) (backToKw pos (keywordEach [] X.env))) := by rfl) :
    PE X (.Call (.Attribute o m apos) [] [] pos) (tMeth C m sp dvs E ta tNil) := by
  intro pins s σ H Q I h
  refine PySem.W.methodCall_KW (pl := pl) (thn (he pins s σ H _ I h) fun u s1 ⟨x, H1, I1, rx, a, dx, fs, ex, ea, l, q⟩ => ?_) ht
  subst ex
  obtain rfl : u = Value.ref a := rx
  refine getmeth_ok I1 ea c hm l ?_
  exact PySem.W.callWith_K0 (first := [.ref a]) I1.kIn hm.kp (run_fn (us := [.ref a]) (vs := [.ref a]) F hr hb hd hx I1 (.cons rfl .nil) q)

structure Mk (K : PySem.W.Frag) (C f : Addr) : Prop where
  makes : PySem.W.makesIn K C = true
  init : PySem.W.findIn K (.ref C) "__init__" = some (some (.ref f))
  fn : PySem.W.isFn K (.ref f) = true
  kp : PySem.W.keepIn K (.ref C) = true

theorem run_make {pins : List (Addr × Obj)} {σ : St} {H : Hp} {s : Shared} {Q : VK} {us : List Value} {vs : List V} (M : Mk X.K C f) (F : FnOk X.prog X.w X.K X.mg X.base CX k f fd ps sp) (hr : Room (k + 1) X.A) (hb : Binds X.K fd ps ds) (hd : Vals dvs ds)
    (hx : Passes CX X E) (I : Inv X pins σ H s) (r : Vals vs us)
    (h : ∀ x dx, H x = none → H dx = none → dx ≠ x → sp (.ref x :: (vs ++ dvs)) (upd (upd H dx (.own x)) x (.ins C dx [])) (fun v H2 => v = .non ∧ Q (.ref x) H2) E) :
    wpAny (model X.prog X.w) X.A (call (.ref C) us) (EP X pins σ Q) X.xe s := by
  have hq := h (s.heap.objs.size + 1) s.heap.objs.size (I.hok.fresh (Nat.le_succ _)) (I.hok.fresh (Nat.le_refl _)) (Nat.ne_of_lt (Nat.lt_succ_self _))
  have I2 := Inv.made (C := C) I
  have r2 : Vals (V.ref (s.heap.objs.size + 1) :: (vs ++ dvs)) (Value.ref (s.heap.objs.size + 1) :: (us ++ ds)) := .cons rfl (r.append hd)
  have hl : (Value.ref (s.heap.objs.size + 1) :: us ++ ds).length = ps.length := by
    have e := r2.length
    rw [F.len _ _ _ _ hq] at e
    exact e.symm
  refine wpAny_call (make_map (f := f) I.kIn M.makes M.init (beq_iff_eq.mp M.fn) (codeAny_mono (F.run _ X.stack _ _ ⟨Value.ref (s.heap.objs.size + 1) :: us, []⟩ (Value.ref (s.heap.objs.size + 1) :: (us ++ ds)) _ _ E (hr.make C us [])
    (I2.env0.make C us []) (hb _ (Value.ref (s.heap.objs.size + 1) :: us) I2.kIn hl) r2 hq) fun r s' hq' => ?_))
  cases r with
  | error e => exact hx pins σ _ _ e s' I2 hq'
  | ok fl =>
    cases fl with
    | ret u =>
      obtain ⟨v, H', I3, rv, ev, q3⟩ := I2.after hq'
      subst ev
      exact ⟨rv, ⟨V.ref (s.heap.objs.size + 1), H', I3, rfl, q3⟩⟩
    | next => exact False.elim hq'
    | brk => exact False.elim hq'
    | cont => exact False.elim hq'
theorem pe_make0 (M : Mk X.K C f) (F : FnOk X.prog X.w X.K X.mg X.base CX k f fd ps sp) (hr : Room (k + 1) X.A) (hg : Gl X x) (hm : X.mg x = some (.ref C)) (hb : Binds X.K fd ps ds) (hd : Vals dvs ds) (hx : Passes CX X E)
    (hdb : (x == ("__debug__" : Str)) = false := by decide) : PE X (.Call (.Name x p) [] [] pos) (tMake C sp dvs E tNil) := by
  intro pins s σ H Q I h
  refine wpAny_Call_Name_kw (ld_glob I hg hm ?_ hdb)
  exact PySem.W.callWith_K0 I.kIn M.kp (run_make (us := []) M F hr hb hd hx I .nil h)
end

section
variable {X : Cx} {CX : CXT} {k : Nat} {f C : Addr} {fd : FuncData} {ps ks : List Str} {sp : Sp} {E : XK} {x m : Str} {p pos apos kpos : Pos} {e o : Expr} {es : List Expr} {kws : List Keyword} {te ta : TE} {t tk : TA} {nm : Option Str}
variable {g : List Value → List Value → List Value} {gV : List V → List V → List V}
end

structure FnScope (N P : List Str) (sc : Scope) : Prop where
  kind : sc.kind = .function
  co : sc.isCoroutine = false
  gen : sc.isGenerator = false
  nd : N.Nodup
  pre : N.take P.length = P
  par : ∀ x ∈ P, sc.names.lookup x = some .local ∨ sc.names.lookup x = some .cell
  nofree : ∀ y ∈ sc.names, y.2 ≠ .free

theorem bindL_out {kindOf : Str → Option NameKind} {x : Str} : ∀ {binds : List (Str × Value)} {m : Str → Option Value}, (∀ v, (x, v) ∉ binds) → bindL kindOf binds m x = m x
  | [], _, _ => rfl
  | (n, v) :: r, m, h => by
    unfold bindL
    rw [bindL_out fun w hw => h w (List.mem_cons_of_mem _ hw)]
    split
    · have : x ≠ n := by rintro rfl; exact h v List.mem_cons_self
      simp [this]
    · rfl
theorem bindC_out {kindOf : Str → Option NameKind} {x : Str} : ∀ {binds : List (Str × Value)} {m : Str → Option Value}, (∀ v, (x, v) ∉ binds) → bindC kindOf binds m x = m x
  | [], _, _ => rfl
  | (n, v) :: r, m, h => by
    unfold bindC
    rw [bindC_out fun w hw => h w (List.mem_cons_of_mem _ hw)]
    split
    · rfl
    · have : x ≠ n := by rintro rfl; exact h v List.mem_cons_self
      simp [this]
theorem bindL_get {kindOf : Str → Option NameKind} {x : Str} {v : Value} : ∀ {P : List Str} {vs : List Value} {i : Nat} {m : Str → Option Value}, P.Nodup → P[i]? = some x → vs[i]? = some v → kindOf x = some .local →
    bindL kindOf (P.zip vs) m x = some v
  | [], _, _, _, _, h, _, _ => by simp at h
  | _ :: _, [], _, _, _, _, h, _ => by simp at h
  | p :: P, w :: vs, 0, m, nd, h1, h2, hk => by
    simp at h1 h2; subst h1; subst h2
    show bindL kindOf ((p, w) :: P.zip vs) m p = _
    unfold bindL
    rw [bindL_out fun v hv => (List.nodup_cons.mp nd).1 (List.of_mem_zip hv).1, if_pos hk]
    simp
  | p :: P, w :: vs, i + 1, m, nd, h1, h2, hk => by
    show bindL kindOf ((p, w) :: P.zip vs) m x = _
    unfold bindL
    exact bindL_get (i := i) (List.nodup_cons.mp nd).2 (by simpa using h1) (by simpa using h2) hk
theorem bindC_get {kindOf : Str → Option NameKind} {x : Str} {v : Value} : ∀ {P : List Str} {vs : List Value} {i : Nat} {m : Str → Option Value}, P.Nodup → P[i]? = some x → vs[i]? = some v → kindOf x ≠ some .local →
    bindC kindOf (P.zip vs) m x = some v
  | [], _, _, _, _, h, _, _ => by simp at h
  | _ :: _, [], _, _, _, _, h, _ => by simp at h
  | p :: P, w :: vs, 0, m, nd, h1, h2, hk => by
    simp at h1 h2; subst h1; subst h2
    show bindC kindOf ((p, w) :: P.zip vs) m p = _
    unfold bindC
    rw [bindC_out fun v hv => (List.nodup_cons.mp nd).1 (List.of_mem_zip hv).1, if_neg hk]
    simp
  | p :: P, w :: vs, i + 1, m, nd, h1, h2, hk => by
    show bindC kindOf ((p, w) :: P.zip vs) m x = _
    unfold bindC
    exact bindC_get (i := i) (List.nodup_cons.mp nd).2 (by simpa using h1) (by simpa using h2) hk

def start (N : List Str) (vs : List V) : St := vs.map some ++ List.replicate (N.length - vs.length) none

def cxOf (CX : CXT) (P : Program) (w : World) (K : PySem.W.Frag) (mg : Str → Option Value) (base : Heap) (N : List Str) (qual : Str) (scope : Scope) (f : Addr) (cd : Value) (A : Around) (outer : List Env) (s : Shared) (H : Hp) (E : XK) : Cx where
  prog := P
  w := w
  K := K
  mg := mg
  base := base
  A := A.deeper (envOfC qual scope s.heap.objs.size f cd)
  N := N
  s₀ := s
  H₀ := H
  env := envOfC qual scope s.heap.objs.size f cd
  outer := outer
  stack := envOfC qual scope s.heap.objs.size f cd :: outer
  ex := []
  calm := true
  fn := fun _ => true
  pn := []
  xe := fun e s' => wpAny (model P w) (A.deeper (envOfC qual scope s.heap.objs.size f cd)) (leaving (envOfC qual scope s.heap.objs.size f cd) e) (fun _ s'' => CX outer H s E e s'') (fun e' s'' => CX outer H s E e' s'') s'

theorem cell_has {sc : Scope} {n : Nat} {x : Str} (h : sc.names.lookup x = some .cell) : ∃ c, (cellsFrom n sc.names []).lookup x = some c := by
  have q := PySem.W.cellsFrom_some sc.names n [] (.inl h)
  exact Option.isSome_iff_exists.mp q

theorem inv_start {CX : CXT} {P : Program} {w : World} {K : PySem.W.Frag} {mg : Str → Option Value} {base : Heap} {N ps : List Str} {qual : Str} {scope : Scope} {f : Addr} {cd : Value} {A : Around} {outer : List Env} {s s1 : Shared} {H : Hp} {E : XK} {us : List Value} {vs : List V}
    (S : FnScope N ps scope) (hd : A.handled = none) (e0 : Env0 P w K mg base A outer s H) (hl : vs.length = ps.length) (r : Vals vs us)
    (x : InCallC s s.heap.objs.size (bindL (envOfC qual scope s.heap.objs.size f cd).kindOf (ps.zip us) fun _ => none) (cellsFrom (s.heap.objs.size + 1) scope.names []) (bindC (envOfC qual scope s.heap.objs.size f cd).kindOf (ps.zip us) fun _ => none) s1) :
    Inv (cxOf CX P w K mg base N qual scope f cd A outer s H E) [] (start N vs) H s1 := by
  have hpl : ps.length ≤ N.length := by have := congrArg List.length S.pre; rw [List.length_take] at this; omega
  obtain ⟨h1, tk, rfl, hk⟩ := x.done
  have noA : ∀ b : Addr, b ∉ (cxOf CX P w K mg base N qual scope f cd A outer s H E).ex := fun b z => absurd (show b ∈ ([] : List Addr) from z) (by simp)
  refine ⟨⟨e0.mod, S.kind, rfl, rfl, Nat.le_refl _, fun y z c h1 h2 => ?_, fun y hy => ?_, fun y c _ h => ?_, fun _ => hd, Around.frames_deeper e0.frames, .inr ⟨rfl, rfl⟩, fun b z => absurd z (noA b), e0.bs, e0.bsz, fun b _ _ => noA b, fun b z => absurd z (noA b), e0.funs, e0.frf⟩,
    rfl, e0.bare, Un.kept hk, ⟨_, x.toInCall.ns, fun i y v h1 h2 h3 => ?_⟩, fun y c h => ⟨_, x.cell y c h⟩, e0.hok.fresh (Nat.le_refl _), fun y c h => ?_, fun p hp => absurd (show p ∈ ([] : List (Addr × Obj)) from hp) (by simp), e0.hok.kept hk, ?_⟩
  · exact name_of_addr x.apart (PySem.mem_of_lookup h1) (PySem.mem_of_lookup h2)
  · have hy : scope.names.lookup y = some .cell ∨ scope.names.lookup y = some .free := hy
    rcases hy with hy | hy
    · exact cell_has hy
    · exact absurd rfl (S.nofree _ (PySem.mem_of_lookup hy))
  · exact Nat.le_of_lt (x.above y c (PySem.mem_of_lookup h))
  · have hi : i < vs.length := by
      unfold start at h2
      by_cases hi : i < vs.length
      · exact hi
      · rw [List.getElem?_append_right (by simpa using hi)] at h2
        rw [List.getElem?_replicate] at h2
        split at h2 <;> cases h2
    have ha : vs[i]? = some v := by
      unfold start at h2
      rw [List.getElem?_append_left (by simpa using hi), List.getElem?_map] at h2
      cases e : vs[i]? with
      | none => rw [e] at h2; cases h2
      | some a => rw [e] at h2; cases h2; rfl
    obtain ⟨u, hu, rv⟩ := r.get ha
    have hp : ps[i]? = some y := by
      rw [← S.pre, List.getElem?_take_of_lt (by omega)]; exact h1
    have ndP : ps.Nodup := by rw [← S.pre]; exact S.nd.sublist (List.take_sublist _ _)
    refine ⟨u, rv, ?_⟩
    rcases S.par y (List.mem_of_getElem? hp) with k | k
    · exact .inl ⟨k, bindL_get ndP hp hu k⟩
    · obtain ⟨c, e⟩ := cell_has (n := s.heap.objs.size + 1) k
      refine .inr ⟨.inl k, c, e, ?_⟩
      have q := x.cell y c e
      rw [bindC_get ndP hp hu (by show scope.names.lookup y ≠ _; rw [k]; decide)] at q
      exact q
  · exact e0.hok.fresh (Nat.le_of_lt (x.above y c (PySem.mem_of_lookup h)))
  · unfold start
    show _ = N.length
    rw [List.length_append, List.length_map, List.length_replicate]
    omega

theorem fn_of {CX : CXT} {P : Program} {w : World} {K : PySem.W.Frag} {mg : Str → Option Value} {base : Heap} {k : Nat} {f : Addr} {name qual : Str} {params : Arguments} {body : List Stmt} {scope : Scope} {dV kV doc pm cdv ct oc : Value} {an od : Option Addr}
    {osl : Array (Option Value)} {N ps : List Str} {sp : Sp} (lk : K.lookup f = some ⟨oc, od, .func (PySem.W.fnOf name qual params body scope dV kV doc pm an cdv ct), osl⟩) (hcd : PySem.W.codeIn K cdv qual = true) (S : FnScope N ps scope)
    (len : ∀ vs H Q E, sp vs H Q E → vs.length = ps.length)
    (hbody : ∀ (A : Around) (outer : List Env) (s : Shared) (H : Hp) (vs : List V) (Q : VK) (E : XK), Room k (A.deeper (envOfC qual scope s.heap.objs.size f cdv)) → sp vs H Q E →
      ∃ t, PSs (cxOf CX P w K mg base N qual scope f cdv A outer s H E) body t ∧ t { nx := fun _ H' => Q .non H', rt := Q } (start N vs) H) :
    FnOk P w K mg base CX (k + 1) f (PySem.W.fnOf name qual params body scope dV kV doc pm an cdv ct) ps sp := by
  refine ⟨len, fun A outer s H args us vs Q E hr e0 hb r hsp => ?_⟩
  have hl := len _ _ _ _ hsp
  have KX : K.In s.heap := e0.mod.kin.keeps fun b o e => (e0.bs b o e).1
  have lim : s.heap.NoLimit := e0.mod.nolimit.keeps fun b o e => (e0.bs b o e).1
  have hkind : ∀ y ∈ ps.zip us, scope.names.lookup y.1 = some .local ∨ (scope.names.lookup y.1 = some .cell ∧ ((cellsFrom (s.heap.objs.size + 1) scope.names []).lookup y.1).isSome = true) := fun ⟨n, v⟩ hy => by
    rcases S.par n (List.of_mem_zip hy).1 with q | q
    · exact .inl q
    · exact .inr ⟨q, PySem.W.cellsFrom_some _ _ _ (.inl q)⟩
  refine codeAny_call_function hr.depth (KX _ _ lk) rfl S.co S.gen rfl (PySem.W.codeRec_of KX hcd) (hb _ _ _ _ ?_)
  refine wpAny_newFunctionEnv_cells S.kind hkind fun env he s1 x => ?_
  subst he
  refine ⟨lim.keeps x.toInCall.keep, codeAny_func ?_⟩
  obtain ⟨t, ht, hq⟩ := hbody A outer s H vs Q E (hr.deeper _) hsp
  have I : Inv (cxOf CX P w K mg base N qual scope f cdv A outer s H E) [] (start N vs) H s1 := inv_start S hr.hd e0 hl r x
  refine wpAny_mono (ht [] s1 (start N vs) H _ I hq) (fun fl s' hs => ?_) fun e s' hs => hs
  have fin : ∀ {σ' : St} {H' : Hp} {v : V} {u : Value}, Inv (cxOf CX P w K mg base N qual scope f cdv A outer s H E) [] σ' H' s' → RelV v u → Q v H' → CE outer P w H s Q u s' :=
    fun {σ' H' v u} J rv q => ⟨v, H', J.os, J.bare, J.base, J.hok, rv, q⟩
  cases fl with
  | ret u =>
    obtain ⟨v, σ', H', J, rv, q⟩ := hs
    exact fin J rv q
  | next =>
    obtain ⟨σ', H', J, q⟩ := hs
    exact fin (v := V.non) (u := Value.none) J rfl q
  | brk =>
    obtain ⟨_, _, _, q⟩ := hs
    exact False.elim q
  | cont =>
    obtain ⟨_, _, _, q⟩ := hs
    exact False.elim q
end L2

namespace L2
open PySem PySem.Spec PyProof.Rows
section
variable {X : Cx} {x : Str} {p pos : Pos} {e : Expr} {es : List Expr} {t : TA} {id T : String} {r : List V → Hp → VK → Prop}

def tCB (r : List V → Hp → VK → Prop) (t : TA) : TE := fun σ H Q => t σ H fun vs H1 => r vs H1 Q
theorem pe_callB (hc : CallR X (.builtin id) r) (hg : Gl X x) (hm : X.mg x = none) (hv : bootBuiltins x = some (.builtin id)) (ha : PA X (e :: es) t) (hn : x ≠ "__name__" := by decide) (hdb : (x == ("__debug__" : Str)) = false := by decide)
    (he : starEach (e :: es) X.env = (false, eval e X.env) :: starEach es X.env := by rfl) (hpl : (backTo pos (starEach es X.env)).any (·.1) = false := by rfl) : PE X (.Call (.Name x p) (e :: es) [] pos) (tCB r t) := by
  intro pins s σ H Q I h
  refine wpAny_Call_Name_kw (ld_blt I hg hm hv ?_ hn hdb)
  exact PyProof.Rows.callWith_builtin1 (thn (ha pos pins s σ H _ I h) fun us s1 ⟨vs, H1, I1, r1, q1⟩ => hc pins s1 σ H1 vs us Q I1 r1 q1) he hpl
theorem pe_callTy (hc : CallR X (.type T) r) (hg : Gl X x) (hm : X.mg x = none) (hv : bootBuiltins x = some (.type T)) (ha : PA X (e :: es) t) (hn : x ≠ "__name__" := by decide) (hdb : (x == ("__debug__" : Str)) = false := by decide)
    (he : starEach (e :: es) X.env = (false, eval e X.env) :: starEach es X.env := by rfl) (hpl : (backTo pos (starEach es X.env)).any (·.1) = false := by rfl) : PE X (.Call (.Name x p) (e :: es) [] pos) (tCB r t) := by
  intro pins s σ H Q I h
  refine wpAny_Call_Name_kw (ld_blt I hg hm hv ?_ hn hdb)
  exact PyProof.Rows.callWith_type1 (thn (ha pos pins s σ H _ I h) fun us s1 ⟨vs, H1, I1, r1, q1⟩ => hc pins s1 σ H1 vs us Q I1 r1 q1) he hpl
end
end L2

namespace HT
open PySem PyProof.Rows

section
open PySem.SeqAt
open PySem.AutoSeq1 (wpAny_loadPart')
open PySem.MeetsSeq PySem.MeetsSeq2 PySem.MeetsSeq3

end

section
variable {prog : Program} {w : World} {A : Around} {E : Value → Shared → Prop} {s : Shared}

theorem cat_tup {t b : Addr} {vs ws : List Value} {Q : Value → Shared → Prop} (ht : IsTup s.heap t vs.toArray) (hb : IsTup s.heap b ws.toArray) (hv : vs ≠ [])
    (h1 : ws = [] → Q (.ref t) s) (h2 : ws ≠ [] → Q (.ref s.heap.objs.size) { s with heap := s.heap.push { cls := .type "tuple", data := .seq (vs ++ ws).toArray } })
    (hsz : vs.length + ws.length ≤ sizeLine) : wpAny (model prog w) A (binaryOp .Add (.ref t) (.ref b)) Q E s := by
  obtain ⟨⟨cls, dd, data, sl⟩, ho, hc, n, hd⟩ := id ht
  obtain ⟨⟨cls2, dd2, data2, sl2⟩, ho2, hc2, n2, hd2⟩ := id hb
  simp only at hc hd hc2 hd2
  subst hc hd hc2 hd2
  have e : vs.toArray ++ ws.toArray = (vs ++ ws).toArray := by simp
  by_cases hw : ws = []
  · exact concat_meets ⟨_, ho, rfl⟩ ⟨_, ho2, rfl⟩ noFill_tuple_add seq_tuple_add PySem.F.slot_tuple_add PySem.F.entry_tuple_add (PySem.F.args_tuple_add_2 _ _)
      (tuple_addW1 t b vs.toArray ws.toArray n n2 dd dd2 sl sl2 (by simpa using hv) (by simp [hw])) ⟨ho, ho2, h1 hw⟩
  · refine concat_meets ⟨_, ho, rfl⟩ ⟨_, ho2, rfl⟩ noFill_tuple_add seq_tuple_add PySem.F.slot_tuple_add PySem.F.entry_tuple_add (PySem.F.args_tuple_add_2 _ _)
      (tuple_addW2 t b vs.toArray ws.toArray n n2 dd dd2 sl sl2 (by simpa using hv) (by simpa using hw) (by rw [List.size_toArray, List.size_toArray]; exact hsz)) ⟨ho, ho2, ?_⟩
    rw [e]
    exact h2 hw

def sIx (n d : Nat) : Option Int → Nat
  | none => d
  | some v => if v < 0 then (v + (n : Int)).toNat else min v.toNat n
theorem sIx_none (n d : Nat) : sIx n d none = d := rfl
theorem sIx_nat (n d k : Nat) : sIx n d (some (k : Int)) = min k n := by
  show (if (k : Int) < 0 then ((k : Int) + (n : Int)).toNat else min (k : Int).toNat n) = min k n
  rw [if_neg (by omega), Int.toNat_natCast]
end
end HT

namespace L2
open PySem PySem.Spec PyProof.Rows

abbrev TO := St → Hp → (Option Int → Hp → Prop) → Prop
def PO (X : Cx) (e : Option Expr) (t : TO) : Prop :=
  ∀ (pins : List (Addr × Obj)) (s : Shared) (σ : St) (H : Hp) (Q : Option Int → Hp → Prop), Inv X pins σ H s → t σ H Q →
    wpAny (model X.prog X.w) X.A (evalPart e X.env) (fun u s' => ∃ o H', Inv X pins σ H' s' ∧ IsPart u o ∧ Q o H') X.xe s
def tNoPart : TO := fun _ H Q => Q none H
def tPart (t : TE) : TO := fun σ H Q => t σ H fun x H1 => ∃ i, x = .int i ∧ Q (some i) H1

theorem intsAre_of {ns : List Int} : ∀ {us : List Value}, Vals (ns.map V.int) us → IntsAre us ns := by
  induction ns with
  | nil => intro us r; rw [List.map_nil] at r; cases r; exact .nil
  | cons n ns ih =>
    intro us r
    rw [List.map_cons] at r
    cases r with
    | cons r1 r2 =>
      obtain ⟨t, e⟩ := r1
      subst e
      exact .cons n t (ih r2)

section
variable {X : Cx} {e : Expr} {te : TE} {lo hi : Option Expr} {tl th : TO} {pos p2 : Pos}

theorem po_none : PO X none tNoPart := by
  intro pins s σ H Q I h
  rw [evalPart_none]
  exact wpAny_pure ⟨none, H, I, .none, h⟩
theorem po_some (h : PE X e te) : PO X (some e) (tPart te) := by
  intro pins s σ H Q I hw
  rw [evalPart_some]
  refine thn (h pins s σ H _ I hw) fun u s1 ⟨x, H1, I1, r1, q1⟩ => ?_
  obtain ⟨i, rfl, q⟩ := q1
  obtain ⟨t, rfl⟩ := r1
  exact ⟨some i, H1, I1, .int i t, q⟩

def SlR (X : Cx) (r : V → Option Int → Option Int → Hp → VK → Prop) : Prop :=
  ∀ (pins : List (Addr × Obj)) (s : Shared) (σ : St) (H : Hp) (x : V) (v vl vu : Value) (lo hi : Option Int) (sl : Addr) (Q : VK), Inv X pins σ H s → RelV x v → s.heap.IsSliceOf sl vl vu .none → IsPart vl lo → IsPart vu hi → r x lo hi H Q →
    ∃ T id, typeLookup (.type T) "__getitem__" = pure (some (.builtin id)) ∧ s.TypeIs v T ∧ wpAny (model X.prog X.w) X.A (getItem v (.ref sl)) (EP X pins σ Q) X.xe s
def tSl (r : V → Option Int → Option Int → Hp → VK → Prop) (te : TE) (tl th : TO) : TE := fun σ H Q => te σ H fun x H1 => tl σ H1 fun l H2 => th σ H2 fun u H3 => r x l u H3 Q
theorem pe_slice {r : V → Option Int → Option Int → Hp → VK → Prop} (hr : SlR X r) (he : PE X e te) (hl : PO X lo tl) (hu : PO X hi th) : PE X (.Subscript e (.Slice lo hi none p2) pos) (tSl r te tl th) := by
  intro pins s σ H Q I h
  refine Subscript_ (thn (he pins s σ H _ I h) fun v s1 ⟨x, H1, I1, r1, q1⟩ => ?_)
  refine wpAny_Slice (thn (hl pins s1 σ H1 _ I1 q1) fun vl s2 ⟨l, H2, I2, pl, q2⟩ => thn (hu pins s2 σ H2 _ I2 q2) fun vu s3 ⟨u, H3, I3, pu, q3⟩ => ?_)
  rw [evalPart_none]
  refine wpAny_pure ?_
  have I4 : Inv X pins σ H3 { s3 with heap := s3.heap.push { cls := .type "slice", data := .fields #[vl, vu, .none] } } := I3.kept (t' := s3.toks) fun b ob q => Heap.get?_push_of_some _ q
  obtain ⟨T, id, hT, ht, hg⟩ := hr pins { s3 with heap := s3.heap.push { cls := .type "slice", data := .fields #[vl, vu, .none] } } σ H3 x v vl vu l u s3.heap.objs.size Q I4 r1 (Heap.IsSliceOf.new ..) pl pu q3
  show wpAny (model X.prog X.w) X.A (subscriptTail e (.Slice lo hi none p2) v (.ref s3.heap.objs.size)) (EP X pins σ Q) X.xe { s3 with heap := s3.heap.push { cls := .type "slice", data := .fields #[vl, vu, .none] } }
  exact tail_any (ops := [.ref s3.heap.objs.size, v]) ht hT hg (by with_unfolding_all rfl)

def cutV (xs : List V) (lo hi : Option Int) : List V := (xs.drop (HT.sIx xs.length 0 lo)).take (HT.sIx xs.length xs.length hi - HT.sIx xs.length 0 lo)
theorem cutV_length (xs : List V) (lo hi : Option Int) : (cutV xs lo hi).length ≤ xs.length := by
  unfold cutV
  rw [List.length_take, List.length_drop]
  omega
def rCatT (K : PySem.W.Frag) : R2 := fun x y H Q => ∃ a b xs ys, x = .ref a ∧ y = .ref b ∧ SqT K H a xs ∧ SqT K H b ys ∧ xs ≠ [] ∧ xs.length + ys.length ≤ sizeLine ∧
  (ys = [] → Q (.ref a) H) ∧ (ys ≠ [] → ∀ p, H p = none → Q (.ref p) (upd H p (.tup (xs ++ ys))))
theorem Vals.nil_iff {xs : List V} {us : List Value} (r : Vals xs us) : us = [] ↔ xs = [] := by
  cases r with
  | nil => simp
  | cons _ _ => simp
theorem op_catT : OpR X (binaryOp .Add) (rCatT X.K) := by
  intro pins s σ H x y v u Q I rx ry h
  obtain ⟨a, b, xs, ys, rfl, rfl, ha, hb, hx, hz, q1, q2⟩ := h
  cases rx
  cases ry
  obtain ⟨its, r1, p1, _⟩ := I.tuple ha
  obtain ⟨its2, r2, p2, _⟩ := I.tuple hb
  refine HT.cat_tup p1 p2 (fun z => hx (r1.nil_iff.mp z)) (fun z => ⟨.ref a, H, I, rfl, q1 (r2.nil_iff.mp z)⟩) (fun z => ?_) (by rw [← r1.length, ← r2.length]; exact hz)
  refine ⟨.ref s.heap.objs.size, _, I.laid (t' := s.toks) (o := .tup (xs ++ ys)) (fun b ob q => Heap.get?_push_of_some _ q) (Nat.le_refl _) ?_, rfl, q2 (fun w => z (r2.nil_iff.mpr w)) _ (I.hok.fresh (Nat.le_refl _))⟩
  exact ⟨by rw [List.length_append]; exact hz, _, r1.append r2, IsTup.new _ _⟩
end
end L2

namespace L2
open PySem PySem.Spec PyProof.Rows

def ixN (n : Nat) (i : Int) : Option Nat := if 0 ≤ i then (if i < n then some i.toNat else none) else if -(n : Int) ≤ i then some (i + n).toNat else none
def atI {α : Type} (xs : List α) (i : Int) : Option α := (ixN xs.length i).bind fun j => xs[j]?
theorem ixN_seq {n : Nat} {i : Int} {j : Nat} (h : ixN n i = some j) : seqIndex? i n = some j ∧ j < n ∧ -(n : Int) ≤ i ∧ i < n := by
  unfold ixN at h
  by_cases h0 : 0 ≤ i
  · rw [if_pos h0] at h
    by_cases h1 : i < n
    · rw [if_pos h1] at h
      have e : i.toNat = j := Option.some.inj h
      exact ⟨by rw [seqIndex_of h0 h1, e], by omega, by omega, h1⟩
    · rw [if_neg h1] at h; cases h
  · rw [if_neg h0] at h
    by_cases h1 : -(n : Int) ≤ i
    · rw [if_pos h1] at h
      have e : (i + n).toNat = j := Option.some.inj h
      exact ⟨by rw [seqIndex_neg (by omega) h1, e], by omega, h1, by omega⟩
    · rw [if_neg h1] at h; cases h
theorem atI_get {α : Type} {xs : List α} {i : Int} {v : α} (h : atI xs i = some v) : ∃ j, seqIndex? i xs.length = some j ∧ xs[j]? = some v ∧ j < xs.length ∧ -(xs.length : Int) ≤ i ∧ i < xs.length := by
  unfold atI at h
  cases e : ixN xs.length i with
  | none => rw [e] at h; cases h
  | some j =>
    rw [e] at h
    obtain ⟨h1, h2, h3, h4⟩ := ixN_seq e
    exact ⟨j, h1, h, h2, h3, h4⟩
theorem atI_nat {α : Type} {xs : List α} {j : Nat} {v : α} (h : xs[j]? = some v) : atI xs (j : Int) = some v := by
  have hj : j < xs.length := (List.getElem?_eq_some_iff.mp h).1
  have e : ixN xs.length (j : Int) = some j := by
    unfold ixN
    rw [if_pos (by omega), if_pos (by omega)]; simp
  unfold atI; rw [e]; exact h
def PlainIx (b : Expr) : Prop := ∀ o i, subscripted b false o i = operate [o, i] (getItem o i)
def IxR (X : Cx) (r : R2) : Prop :=
  ∀ (value slice : Expr) (pins : List (Addr × Obj)) (s : Shared) (σ : St) (H : Hp) (x y : V) (v u : Value) (Q : VK), Inv X pins σ H s → RelV x v → RelV y u → r x y H Q →
    subscripted slice false v u = operate [v, u] (getItem v u) → wpAny (model X.prog X.w) X.A (subscriptTail value slice v u) (EP X pins σ Q) X.xe s
def MtR (X : Cx) (id : String) (r : V → List V → Hp → VK → Prop) : Prop :=
  ∀ (pins : List (Addr × Obj)) (s : Shared) (σ : St) (H : Hp) (x : V) (xs : List V) (v : Value) (us : List Value) (Q : VK), Inv X pins σ H s → RelV x v → Vals xs us → r x xs H Q →
    wpAny (model X.prog X.w) X.A (call (.builtin id) (v :: us)) (EP X pins σ Q) X.xe s
section
variable {X : Cx} {a b : Expr} {ta tb : TE} {pos : Pos}
theorem pe_ix {r : R2} (hr : IxR X r) (ha : PE X a ta) (hb : PE X b tb) (hs : PlainIx b) : PE X (.Subscript a b pos) (tOp r ta tb) := by
  intro pins s σ H Q I h
  exact Subscript_ (binT ha hb I h fun v u s2 x y H2 I2 rx ry q => hr a b pins s2 σ H2 x y v u Q I2 rx ry q (hs _ _))

def rIxL (K : PySem.W.Frag) : R2 := fun x y H Q => ∃ p xs i v, x = .ref p ∧ y = .int i ∧ SqL K H p xs ∧ atI xs i = some v ∧ Q v H
def rIxT (K : PySem.W.Frag) : R2 := fun x y H Q => ∃ p xs i v, x = .ref p ∧ y = .int i ∧ SqT K H p xs ∧ atI xs i = some v ∧ Q v H
def rIxS : R2 := fun x y H Q => ∃ z i c, x = .str z ∧ y = .int i ∧ z.length ≤ sizeLine ∧ atI z.cps.toList i = some c ∧ Q (.str ⟨#[c]⟩) H
theorem ix_list : IxR X (rIxL X.K) := by
  intro value slice pins s σ H x y v u Q I rx ry h hs
  obtain ⟨p, xs, i, z, rfl, rfl, hq, he, q⟩ := h
  cases rx
  obtain ⟨t, rfl⟩ := ry
  obtain ⟨its, r, pl, hz⟩ := I.list hq
  obtain ⟨j, h1, h2, h3, h4, h5⟩ := atI_get he
  obtain ⟨w, ew, rw'⟩ := r.get h2
  have hl := r.length
  have hn := line63
  have fin : EP X pins σ Q w s := ⟨z, H, I, rw', q⟩
  by_cases h0 : 0 ≤ i
  · have hj : i.toNat = j := by
      rw [seqIndex_of h0 h5] at h1
      exact Option.some.inj h1
    exact item_listR pl.isList h0 (by omega) (by rw [hj]; simpa using ew) fin hs
  · have hj : (i + (its.toArray.size : Int)).toNat = j := by
      rw [seqIndex_neg (by omega) h4] at h1
      rw [List.size_toArray, ← hl]
      exact Option.some.inj h1
    exact subscriptTail_builtinR (x := w) pl.isList.typeIs slot_list_getitem.lookup
      (wpAny_getItem_list_neg (Q := fun r s' => r = w ∧ EP X pins σ Q r s') pl.isList (by omega) (by rw [List.size_toArray] <;> omega) (by omega) (by rw [hj]; simpa using ew) ⟨rfl, fin⟩) hs
theorem ix_tup : IxR X (rIxT X.K) := by
  intro value slice pins s σ H x y v u Q I rx ry h hs
  obtain ⟨p, xs, i, z, rfl, rfl, hq, he, q⟩ := h
  cases rx
  obtain ⟨t, rfl⟩ := ry
  obtain ⟨its, r, pl, hz⟩ := I.tuple hq
  obtain ⟨j, h1, h2, h3, h4, h5⟩ := atI_get he
  obtain ⟨w, ew, rw'⟩ := r.get h2
  have hl := r.length
  have hn := line63
  have fin : EP X pins σ Q w s := ⟨z, H, I, rw', q⟩
  exact subscriptTail_builtinR (x := w) pl.typeIs slot_tuple_getitem.lookup
    (getItem_tuple (j := j) (Q := fun r s' => r = w ∧ EP X pins σ Q r s') pl (by omega) (by omega) (by rw [List.size_toArray, ← hl]; exact h1) (by simpa using ew) ⟨rfl, fin⟩) hs
theorem ix_str : IxR X rIxS := by
  intro value slice pins s σ H x y v u Q I rx ry h hs
  obtain ⟨z, i, c, rfl, rfl, hz, he, q⟩ := h
  obtain ⟨t, rfl⟩ := rx
  obtain ⟨t', rfl⟩ := ry
  obtain ⟨j, h1, h2, h3, h4, h5⟩ := atI_get he
  have hl : z.cps.toList.length = z.length := by simp [Str.length]
  rw [hl] at h1 h4 h5
  have hn := line63
  exact tail_any (typeIs_str s z t) slot_str_getitem.lookup (getItem_str (c := c) (by
    have e1 : decide (i < -(2 ^ 63 : Int)) = false := decide_eq_false (by omega)
    have e2 : decide (i ≥ 2 ^ 63) = false := decide_eq_false (by omega)
    rw [e1, e2, Bool.or_false]) (by rw [h1]; simpa using h2) ⟨.str ⟨#[c]⟩, H, I.tok _, ⟨_, rfl⟩, q⟩) hs
theorem mapSeq_set (its : List Value) (n j : Nat) (u : Value) : Obj.mapSeq (·.setIfInBounds j u) { cls := .type "list", data := .seq its.toArray n } = { cls := .type "list", data := .seq (its.set j u).toArray n } := by
  simp [Obj.mapSeq]
theorem Inv.lst {pins : List (Addr × Obj)} {σ : St} {H : Hp} {s : Shared} {p : Addr} {xs : List V} (I : Inv X pins σ H s) (h : H p = some (.lst xs)) :
    ∃ (its : List Value) (n : Nat), Vals xs its ∧ s.heap.get? p = some { cls := .type "list", data := .seq its.toArray n } ∧ xs.length ≤ sizeLine := by
  obtain ⟨z, its, n, r, e⟩ := I.hok p _ h
  exact ⟨its, n, r, e, z⟩
theorem Inv.lstUpd {pins : List (Addr × Obj)} {σ : St} {H : Hp} {s : Shared} {p : Addr} {xs ys : List V} {its its' : List Value} {n n' : Nat} {f : Obj → Obj} (I : Inv X pins σ H s) (h : H p = some (.lst xs))
    (ho : s.heap.get? p = some { cls := .type "list", data := .seq its.toArray n }) (hf : f { cls := .type "list", data := .seq its.toArray n } = { cls := .type "list", data := .seq its'.toArray n' }) (r : Vals ys its') (hz : ys.length ≤ sizeLine) (t : Nat) :
    Inv X pins σ (upd H p (.lst ys)) { s with heap := s.heap.update p f, toks := t } := by
  have e : (s.heap.update p f).get? p = some { cls := .type "list", data := .seq its'.toArray n' } := by
    rw [Heap.get?_update_self f ho (by rw [hf] <;> rfl), hf]
  refine I.write (x := p) (e := p) (by rw [h]; trivial) (.inl rfl) (fun b u hb q => (Heap.get?_update_other _ _ (Ne.symm hb)).trans q) ⟨_, e⟩ ?_
  exact ⟨hz, its', n', r, e⟩
def rSetL : V → V → V → Hp → (Hp → Prop) → Prop := fun o i v H Q => ∃ p xs k j, o = .ref p ∧ i = .int k ∧ H p = some (.lst xs) ∧ ixN xs.length k = some j ∧ Q (upd H p (.lst (xs.set j v)))
theorem set_list : PSet X rSetL := by
  intro pins s σ H o i v ov iv u Q I ro ri rv h
  obtain ⟨p, xs, k, j, rfl, rfl, hp, hj, q⟩ := h
  cases ro
  obtain ⟨t, rfl⟩ := ri
  obtain ⟨its, n, r, ho, hz⟩ := I.lst hp
  obtain ⟨h1, h2, h3, h4⟩ := ixN_seq hj
  have hl := r.length
  have hn := line63
  have I' : Inv X pins σ (upd H p (.lst (xs.set j v))) { s with heap := s.heap.update p (Obj.mapSeq (·.setIfInBounds j u)) } :=
    I.lstUpd hp ho (mapSeq_set its n j u) (r.set rv j) (by rw [List.length_set]; exact hz) s.toks
  by_cases h0 : 0 ≤ k
  · have hk : k.toNat = j := by
      rw [seqIndex_of h0 h4] at h1
      exact Option.some.inj h1
    exact PySem.W.ki_setAt ho h0 (by omega) (by rw [List.size_toArray, ← hl]; exact h4) (by rw [hk]; exact ⟨_, I', q⟩)
  · have hk : (k + (its.toArray.size : Int)).toNat = j := by
      rw [seqIndex_neg (by omega) h3] at h1
      rw [List.size_toArray, ← hl]
      exact Option.some.inj h1
    exact PySem.W.ki_setBack ho (by omega) (by rw [List.size_toArray, ← hl]; exact h3) (by omega) (by rw [hk]; exact ⟨_, I', q⟩)

theorem slice_bounds (lo hi : Option Int) (n : Nat) : (sliceBounds lo hi none n).1 = ((HT.sIx n 0 lo : Nat) : Int) ∧ (sliceBounds lo hi none n).2.1 = ((HT.sIx n n hi : Nat) : Int) ∧ (sliceBounds lo hi none n).2.2 = 1 := by
  refine ⟨?_, ?_, rfl⟩
  · cases lo with
    | none => simp [sliceBounds, HT.sIx]
    | some i =>
      simp only [sliceBounds, HT.sIx, Option.getD_none, show (1 : Int) > 0 by decide, if_true]
      by_cases h : i < 0
      · simp only [h, if_true] <;> omega
      · simp only [h, if_false] <;> omega
  · cases hi with
    | none => simp [sliceBounds, HT.sIx]
    | some i =>
      simp only [sliceBounds, HT.sIx, Option.getD_none, show (1 : Int) > 0 by decide, if_true]
      by_cases h : i < 0
      · simp only [h, if_true] <;> omega
      · simp only [h, if_false] <;> omega
theorem slicePick_cut (its : List Value) (lo hi : Option Int) : slicePick its.toArray lo hi none = ((its.drop (HT.sIx its.length 0 lo)).take (HT.sIx its.length its.length hi - HT.sIx its.length 0 lo)).toArray := by
  obtain ⟨h1, h2, h3⟩ := slice_bounds lo hi its.toArray.size
  unfold slicePick
  rw [h1, h2, h3]
  simp only [sliceRange_one, pick_run, List.size_toArray] <;> rfl
def rSlL (K : PySem.W.Frag) : V → Option Int → Option Int → Hp → VK → Prop := fun x lo hi H Q => ∃ a xs, x = .ref a ∧ SqL K H a xs ∧ ∀ p, H p = none → Q (.ref p) (upd H p (.lst (cutV xs lo hi)))
theorem sl_list : SlR X (rSlL X.K) := by
  intro pins s σ H x v vl vu lo hi sl Q I rx hs pl pu h
  obtain ⟨a, xs, rfl, hx, q⟩ := h
  cases rx
  obtain ⟨its, r, ht, hz⟩ := I.list hx
  have hlen := r.length
  refine ⟨"list", _, slot_list_getitem.lookup, ht.isList.typeIs, ?_⟩
  refine wpAny_getItem_list_slice ht.isList hs pl pu .none (by simp) ?_ (by rw [List.size_toArray] <;> omega)
  rw [slicePick_cut, ← hlen]
  refine ⟨.ref s.heap.objs.size, _, I.laid (t' := s.toks) (o := .lst (cutV xs lo hi)) (fun b ob q => Heap.get?_push_of_some _ q) (Nat.le_refl _) ?_, rfl, q _ (I.hok.fresh (Nat.le_refl _))⟩
  exact ⟨Nat.le_trans (cutV_length xs lo hi) hz, _, 0, (r.drop (HT.sIx xs.length 0 lo)).take (HT.sIx xs.length xs.length hi - HT.sIx xs.length 0 lo), Heap.get?_push_size _ rfl⟩

def flatV : V → Bool
  | .non => true
  | .bl _ => true
  | .int _ => true
  | .str _ => true
  | _ => false
def eqV : V → V → Bool
  | .non, .non => true
  | .bl a, .bl b => a == b
  | .bl a, .int b => (if a then 1 else 0) == b
  | .int a, .bl b => a == (if b then 1 else 0)
  | .int a, .int b => a == b
  | .str a, .str b => a == b
  | _, _ => false
theorem eqAt_V {A : Around} {s : Shared} {y x : V} {u v : Value} (ry : RelV y u) (rx : RelV x v) (fy : flatV y = true) (fx : flatV x = true) : SeqAt.EqAt A s u v (eqV y x) := by
  cases y with
  | non =>
    cases ry
    cases x with
    | non => cases rx; exact SeqAt.EqAt.same _
    | bl b => cases rx; exact SeqAt.EqAt.none_bool b
    | int b => obtain ⟨t, rfl⟩ := rx; exact SeqAt.EqAt.none_int b t
    | str b => obtain ⟨t, rfl⟩ := rx; exact SeqAt.EqAt.none_str b t
    | _ => exact absurd (show false = true from fx) Bool.false_ne_true
  | bl a =>
    cases ry
    cases x with
    | non => cases rx; exact SeqAt.EqAt.bool_none a
    | bl b => cases rx; exact SeqAt.EqAt.bool_bool a b
    | int b => obtain ⟨t, rfl⟩ := rx; exact SeqAt.EqAt.bool_int a b t
    | str b => obtain ⟨t, rfl⟩ := rx; exact SeqAt.EqAt.bool_str a b t
    | _ => exact absurd (show false = true from fx) Bool.false_ne_true
  | int a =>
    obtain ⟨t', rfl⟩ := ry
    cases x with
    | non => cases rx; exact SeqAt.EqAt.int_none a t'
    | bl b => cases rx; exact SeqAt.EqAt.int_bool a t' b
    | int b => obtain ⟨t, rfl⟩ := rx; exact SeqAt.EqAt.int_int a t' b t
    | str b => obtain ⟨t, rfl⟩ := rx; exact SeqAt.EqAt.int_str a t' b t
    | _ => exact absurd (show false = true from fx) Bool.false_ne_true
  | str a =>
    obtain ⟨t', rfl⟩ := ry
    cases x with
    | non => cases rx; exact SeqAt.EqAt.str_none a t'
    | bl b => cases rx; exact SeqAt.EqAt.str_bool a t' b
    | int b => obtain ⟨t, rfl⟩ := rx; exact SeqAt.EqAt.str_int a t' b t
    | str b => obtain ⟨t, rfl⟩ := rx; exact SeqAt.EqAt.str_str a t' b t
    | _ => exact absurd (show false = true from fx) Bool.false_ne_true
  | _ => exact absurd (show false = true from fy) Bool.false_ne_true
theorem call_len_seq : CallR X (.builtin "len") (fun xs H Q => ∃ p ys, xs = [.ref p] ∧ (SqL X.K H p ys ∨ SqT X.K H p ys) ∧ Q (.int ys.length) H) := by
  intro pins s σ H xs us Q I r h
  obtain ⟨p, ys, rfl, hq, q⟩ := h
  obtain ⟨u, rfl, rx⟩ := vals1 r
  cases rx
  have hn := line63
  rcases hq with hq | hq
  · obtain ⟨its, r', pl, hz⟩ := I.list hq
    have hlen := r'.length
    exact Calls.call_len_list pl.isList (by simp only [List.size_toArray] <;> omega) ⟨.int ys.length, H, I.tok _, ⟨s.toks + 1, by rw [List.size_toArray, hlen]⟩, q⟩
  · obtain ⟨its, r', pl, hz⟩ := I.tuple hq
    have hlen := r'.length
    exact len_tuple pl (by simp only [List.size_toArray] <;> omega) ⟨.int ys.length, H, I.tok _, ⟨s.toks + 1, by rw [List.size_toArray, hlen]⟩, q⟩
theorem call_len_str : CallR X (.builtin "len") (fun xs H Q => ∃ z, xs = [.str z] ∧ z.length ≤ sizeLine ∧ Q (.int z.length) H) := by
  intro pins s σ H xs us Q I r h
  obtain ⟨z, rfl, hz, q⟩ := h
  obtain ⟨u, rfl, t, rfl⟩ := vals1 r
  have hn := line63
  exact len_str (by omega) ⟨.int z.length, H, I.tok _, ⟨_, rfl⟩, q⟩
theorem CallR.or {f : Value} {r r' : List V → Hp → VK → Prop} (h : CallR X f r) (h' : CallR X f r') : CallR X f (fun xs H Q => r xs H Q ∨ r' xs H Q) := by
  intro pins s σ H xs us Q I rs q
  rcases q with q | q
  · exact h pins s σ H xs us Q I rs q
  · exact h' pins s σ H xs us Q I rs q
theorem call_tuple_of : CallR X (.type "tuple") (fun xs H Q => ∃ p ys, xs = [.ref p] ∧ ((SqL X.K H p ys ∧ ∀ l, H l = none → Q (.ref l) (upd H l (.tup ys))) ∨ (SqT X.K H p ys ∧ Q (.ref p) H))) := by
  intro pins s σ H xs us Q I r h
  obtain ⟨p, ys, rfl, h⟩ := h
  obtain ⟨u, rfl, rx⟩ := vals1 r
  cases rx
  rcases h with ⟨hq, q⟩ | ⟨hq, q⟩
  · obtain ⟨its, r', pl, hz⟩ := I.list hq
    have hlen := r'.length
    refine call_tuple_list pl.isList (fun h' kp => ?_) (by simp only [List.size_toArray] <;> omega)
    have I1 : Inv X pins σ H { s with heap := h' } := I.kept (t' := s.toks) kp
    have I2 : Inv X pins σ (upd H h'.objs.size (.tup ys)) { s with heap := h'.push { cls := .type "tuple", data := .seq its.toArray } } :=
      I1.laid (t' := s.toks) (fun b o e => Heap.get?_push_of_some _ e) (Nat.le_refl _) (show ObjOk X.prog X.w _ _ _ (.tup ys) from ⟨hz, its, r', IsTup.new _ _⟩)
    exact ⟨.ref h'.objs.size, _, I2, rfl, q _ (I1.hok.fresh (Nat.le_refl _))⟩
  · obtain ⟨its, r', pl, hz⟩ := I.tuple hq
    exact call_tuple_same pl ⟨.ref p, H, I, rfl, q⟩

def tyV (K : PySem.W.Frag) (T : String) (x : V) (H : Hp) : Prop := match x with
  | .str _ => T = "str"
  | .int _ => T = "int"
  | .ref p => (T = "list" ∧ ∃ xs, SqL K H p xs) ∨ (T = "tuple" ∧ ∃ o, K.lookup p = some o ∧ o.cls = .type "tuple" ∧ o.dict = none) ∨
      (T = "dict" ∧ ((∃ kvs, H p = some (.dK kvs)) ∨ ∃ kvs, H p = some (.dT kvs))) ∨ (T = "set" ∧ ∃ S n, H p = some (.set S n))
  | _ => False
theorem tyV_is {pins : List (Addr × Obj)} {σ : St} {H : Hp} {s : Shared} {T : String} {x : V} {v : Value} (I : Inv X pins σ H s) (r : RelV x v) (ty : tyV X.K T x H) :
    s.TypeIs v T ∧ ∀ a, v = .ref a → ∃ ob, s.heap.get? a = some ob ∧ ob.dict = none := by
  cases x with
  | str z =>
    obtain ⟨t, rfl⟩ := r
    cases (show T = "str" from ty)
    exact ⟨typeIs_str s z t, fun _ e => nomatch e⟩
  | int i =>
    obtain ⟨t, rfl⟩ := r
    cases (show T = "int" from ty)
    exact ⟨typeIs_int s i t, fun _ e => nomatch e⟩
  | ref p =>
    cases r
    rcases ty with ⟨rfl, xs, hq⟩ | ⟨rfl, o, hk, hc, hd⟩ | ⟨rfl, hk⟩ | ⟨rfl, S, n, hk⟩
    · obtain ⟨its, _, pl, _⟩ := I.list hq
      refine ⟨pl.isList.typeIs, fun a e => ?_⟩
      cases e
      obtain ⟨o, n, e, c, hd, _⟩ := pl
      exact ⟨o, e, hd⟩
    · refine ⟨⟨o, I.kIn p o hk, hc⟩, fun a e => ?_⟩
      cases e
      exact ⟨o, I.kIn _ o hk, hd⟩
    · have z : ∃ o, s.heap.get? p = some o ∧ o.ExactDict := by
        rcases hk with ⟨kvs, hk⟩ | ⟨kvs, hk⟩
        · obtain ⟨_, _, _, _, o, _, _, e, ex, _⟩ := I.hok p _ hk
          exact ⟨o, e, ex⟩
        · obtain ⟨_, _, _, _, o, _, _, e, ex, _⟩ := I.hok p _ hk
          exact ⟨o, e, ex⟩
      obtain ⟨o, e, ex⟩ := z
      refine ⟨⟨o, e, ex.1⟩, fun a e2 => ?_⟩
      cases e2
      exact ⟨o, e, ex.2.1⟩
    · obtain ⟨o, _, _, _, e, ex, _⟩ := I.hok p _ hk
      refine ⟨⟨o, e, ex.1⟩, fun a e2 => ?_⟩
      cases e2
      exact ⟨o, e, ex.2.1⟩
  | _ => exact False.elim ty
def tBM0 (K : PySem.W.Frag) (T : String) (r : V → List V → Hp → VK → Prop) (to : TE) : TE := fun σ H Q => to σ H fun x H1 => tyV K T x H1 ∧ r x [] H1 Q
def tBM (K : PySem.W.Frag) (T : String) (r : V → List V → Hp → VK → Prop) (to : TE) (t : TA) : TE := fun σ H Q => to σ H fun x H1 => tyV K T x H1 ∧ t σ H1 fun xs H2 => r x xs H2 Q
variable {o e : Expr} {es : List Expr} {to : TE} {t : TA} {name : Str} {apos cpos : Pos} {T id : String} {r : V → List V → Hp → VK → Prop}
theorem pe_bm0 (pa : PlainAttrs T) (slot : Slot T name id) (hty : typeOf (.builtin id) = pure (.type "method_descriptor")) (hm : MtR X id r) (ho : PE X o to)
    (hbase : attributeBase o name X.env (eval o X.env) = eval o X.env := by rfl) (hline : (apos.endLine == cpos.line) = true := by rfl) : PE X (.Call (.Attribute o name apos) [] [] cpos) (tBM0 X.K T r to) := by
  intro pins s σ H Q I h
  refine wpAny_Call_method0_late hbase hline (thn (ho pins s σ H _ I h) fun v s1 ⟨x, H1, I1, r1, ty, q1⟩ => ?_)
  obtain ⟨h1, h2⟩ := tyV_is I1 r1 ty
  exact ⟨T, id, pa, slot, hty, h1, h2, Calls.callWith_builtin rfl (PySem.evalArgs_none (hm pins s1 σ H1 x [] v [] Q I1 r1 .nil q1))⟩
theorem pe_bm (pa : PlainAttrs T) (slot : Slot T name id) (hty : typeOf (.builtin id) = pure (.type "method_descriptor")) (hm : MtR X id r) (ho : PE X o to) (ha : PA X (e :: es) t)
    (hbase : attributeBase o name X.env (eval o X.env) = eval o X.env := by rfl)
    (hfew : ((backTo cpos (starEach (e :: es) X.env)).all (fun x => !x.1) && (backToKw cpos (keywordEach [] X.env)).all (fun x => x.1.isSome)
      && decide ((e :: es).length + ([] : List Keyword).length + (if ([] : List Keyword).isEmpty then 0 else 1) < 30)) = true := by rfl)
    (hline : (apos.endLine == cpos.line) = true := by rfl) (hs : starEach (e :: es) X.env = (false, eval e X.env) :: starEach es X.env := by rfl) (hplain : (backTo cpos (starEach es X.env)).any (·.1) = false := by rfl) :
    PE X (.Call (.Attribute o name apos) (e :: es) [] cpos) (tBM X.K T r to t) := by
  intro pins s σ H Q I h
  refine wpAny_Call_method_late hbase hfew hline rfl (thn (ho pins s σ H _ I h) fun v s1 ⟨x, H1, I1, r1, ty, q1⟩ => ?_)
  obtain ⟨h1, h2⟩ := tyV_is I1 r1 ty
  refine ⟨T, id, pa, slot, hty, h1, h2, ?_⟩
  have hA := ha cpos pins s1 σ H1 _ I1 q1
  rw [hs] at hA ⊢
  refine Calls.callWith_builtin (by show (false || (backTo cpos (starEach es X.env)).any (·.1)) = false; rw [hplain] <;> rfl) (Calls.evalArgs_plain ?_)
  exact thn hA fun us s2 ⟨vs, H2, I2, r2, q2⟩ => hm pins s2 σ H2 x vs v us Q I2 r1 r2 q2
end
end L2

namespace L2
open PySem PySem.Spec PyProof.Rows

def MtM (X : Cx) (id : String) (r : V → List V → Hp → VK → Prop) : Prop :=
  ∀ (pins : List (Addr × Obj)) (s : Shared) (σ : St) (H : Hp) (x : V) (xs : List V) (v : Value) (us : List Value) (Q : VK), Inv X pins σ H s → RelV x v → Vals xs us → r x xs H Q →
    wpAny (model X.prog X.w) X.A (call (.builtin id) (v :: us)) (EP X pins σ Q) X.xe s

theorem Vals.one : ∀ {x : V} {us : List Value}, Vals [x] us → ∃ u, us = [u] ∧ RelV x u
  | _, _, .cons r .nil => ⟨_, rfl, r⟩
theorem Vals.zero : ∀ {us : List Value}, Vals [] us → us = []
  | _, .nil => rfl
theorem Vals.dropLast {xs : List V} {us : List Value} (h : Vals xs us) : Vals xs.dropLast us.dropLast := by
  induction h with
  | nil => exact .nil
  | cons r t ih =>
    cases t with
    | nil => exact .nil
    | cons q t' => exact .cons r ih
theorem Vals.reverse {xs : List V} {us : List Value} (h : Vals xs us) : Vals xs.reverse us.reverse := by
  induction h with
  | nil => exact .nil
  | cons r t ih => rw [List.reverse_cons, List.reverse_cons]; exact Vals.append ih (.cons r .nil)
theorem Vals.rep {xs : List V} {us : List Value} (h : Vals xs us) : ∀ k : Nat, Vals (List.replicate k xs).flatten (List.replicate k us).flatten
  | 0 => .nil
  | k + 1 => by
    rw [List.replicate_succ, List.replicate_succ, List.flatten_cons, List.flatten_cons]
    exact Vals.append h (Vals.rep h k)
theorem erase_last {α : Type} (l : List α) : l.eraseIdx (l.length - 1) = l.dropLast := by
  induction l with
  | nil => rfl
  | cons a r ih =>
    cases r with
    | nil => rfl
    | cons b r =>
      have e : (a :: b :: r).length - 1 = ((b :: r).length - 1) + 1 := by
        have h1 : (a :: b :: r).length = r.length + 2 := rfl
        have h2 : (b :: r).length = r.length + 1 := rfl
        omega
      rw [e, List.eraseIdx_cons_succ, ih]
      all_goals rfl
theorem foldl_rep (its : List Value) : ∀ (k : Nat) (acc : List Value),
    List.foldl (fun x1 x2 => x1 ++ x2) acc.toArray (List.replicate k its.toArray) = (acc ++ (List.replicate k its).flatten).toArray
  | 0, acc => by simp
  | k + 1, acc => by
    have e : acc.toArray ++ its.toArray = (acc ++ its).toArray := by simp
    have e2 : (acc ++ its) ++ (List.replicate k its).flatten = acc ++ (List.replicate (k + 1) its).flatten := by
      rw [List.replicate_succ, List.flatten_cons, List.append_assoc]
    rw [← e2, ← foldl_rep its k (acc ++ its), ← e, List.replicate_succ, List.foldl_cons]

section
variable {X : Cx} {pins : List (Addr × Obj)} {σ : St} {H : Hp} {s : Shared} {l b : Addr} {xs ys zs : List V}

theorem Inv.lset {its its' : List Value} {n : Nat} {f : Array Value → Array Value} {t' : Nat} (I : Inv X pins σ H s) (hH : H l = some (.lst xs))
    (e : s.heap.get? l = some { cls := .type "list", data := .seq its.toArray n }) (hf : f its.toArray = its'.toArray) (hv : Vals ys its') (hz : ys.length ≤ sizeLine) :
    Inv X pins σ (upd H l (.lst ys)) { s with heap := s.heap.update l (Obj.mapSeq f), toks := t' } := by
  have q := PySem.IsL.update e f
  rw [hf] at q
  refine I.write (x := l) (e := l) (by rw [hH]; exact trivial) (.inl rfl) (fun b' u hb hu => (Heap.get?_update_other s.heap (Obj.mapSeq f) (Ne.symm hb)).trans hu) ⟨_, q⟩ ?_
  exact ⟨hz, its', _, hv, q⟩
theorem Inv.lnew {its : List Value} {t' : Nat} (I : Inv X pins σ H s) (hv : Vals ys its) (hz : ys.length ≤ sizeLine) :
    Inv X pins σ (upd H s.heap.objs.size (.lst ys)) { s with heap := s.heap.push { cls := .type "list", data := .seq its.toArray }, toks := t' } :=
  I.laid (fun _ _ q => Heap.get?_push_of_some _ q) (Nat.le_refl _) ⟨hz, its, 0, hv, Heap.get?_push_size _ rfl⟩
theorem Inv.fresh (I : Inv X pins σ H s) : H s.heap.objs.size = none := I.hok.fresh (Nat.le_refl _)
theorem Inv.lstM (I : Inv X pins σ H s) (hH : H l = some (.lst xs)) : xs.length ≤ sizeLine ∧ ∃ (its : List Value) (n : Nat), Vals xs its ∧ xs.length = its.length ∧ s.heap.get? l = some { cls := .type "list", data := .seq its.toArray n } := by
  obtain ⟨z, its, n, r, e⟩ := I.hok l _ hH
  exact ⟨z, its, n, r, r.length, e⟩

theorem notLongL {n : Nat} (h : n ≤ sizeLine) : Builtin.List.listTooLong n = false := by
  unfold Builtin.List.listTooLong
  exact decide_eq_false (by omega)
end

section
variable {X : Cx}

def rAppend : V → List V → Hp → VK → Prop := fun x vs H Q => ∃ l xs y, x = .ref l ∧ vs = [y] ∧ H l = some (.lst xs) ∧ xs.length < sizeLine ∧ Q .non (upd H l (.lst (xs ++ [y])))
theorem mt_append : MtM X "list.append" rAppend := by
  intro pins s σ H x vs v us Q I rx rv h
  obtain ⟨l, xs, y, rfl, rfl, hH, hz, q⟩ := h
  cases rx
  obtain ⟨u, rfl, ru⟩ := rv.one
  obtain ⟨z, its, n, r, hl, e⟩ := I.lstM hH
  refine call_meets F.slot_list_append ⟨_, e, rfl⟩ F.entry_list_append (F.args_list_append_2 _ _) (PySem.list_append l its.toArray n u (by rw [List.size_toArray]; omega)) ⟨e, ?_⟩
  refine ⟨.non, _, I.lset (its' := its ++ [u]) hH e (by simp) (r.append (.cons ru .nil)) ?_, rfl, q⟩
  rw [List.length_append, List.length_singleton]
  omega

def rPop : V → List V → Hp → VK → Prop := fun x vs H Q => ∃ l xs y, x = .ref l ∧ vs = [] ∧ H l = some (.lst xs) ∧ xs[xs.length - 1]? = some y ∧ Q y (upd H l (.lst xs.dropLast))
theorem mt_pop : MtM X "list.pop" rPop := by
  intro pins s σ H x vs v us Q I rx rv h
  obtain ⟨l, xs, y, rfl, rfl, hH, hy, q⟩ := h
  cases rx
  have hus := rv.zero
  subst hus
  obtain ⟨z, its, n, r, hl, e⟩ := I.lstM hH
  obtain ⟨u, hu, ru⟩ := r.get hy
  have hy' : its.toArray[its.toArray.size - 1]? = some u := by
    show its.toArray[its.length - 1]? = some u
    rw [← Array.getElem?_toList, ← hl]
    exact hu
  refine call_meets F.slot_list_pop ⟨_, e, rfl⟩ F.entry_list_pop (F.args_list_pop_1 _) (MeetsSeq.list_pop_last l its.toArray n u hy' (by rw [List.size_toArray]; omega)) ⟨e, ?_⟩
  refine ⟨y, _, I.lset (its' := its.dropLast) hH e ?_ r.dropLast ?_, ru, q⟩
  · show its.toArray.eraseIdxIfInBounds (its.toArray.size - 1) = its.dropLast.toArray
    rw [List.size_toArray, List.eraseIdxIfInBounds_toArray, erase_last]
  · rw [List.length_dropLast]
    omega

def rRep : R2 := fun x y H Q => ∃ l k xs, x = .ref l ∧ y = .int k ∧ H l = some (.lst xs) ∧ -(2 ^ 63) ≤ k ∧ k < 2 ^ 63 ∧ xs.length * k.toNat ≤ sizeLine ∧
  ∀ p, H p = none → Q (.ref p) (upd H p (.lst (List.replicate k.toNat xs).flatten))
theorem len_rep {α : Type} (xs : List α) (k : Nat) : (List.replicate k xs).flatten.length = k * xs.length := by
  induction k with
  | zero => simp
  | succ k ih => rw [List.replicate_succ, List.flatten_cons, List.length_append, ih, Nat.succ_mul, Nat.add_comm]
theorem op_rep : OpR X (binaryOp .Mult) rRep := by
  intro pins s σ H x y v u Q I rx ry h
  obtain ⟨l, k, xs, rfl, rfl, hH, h1, h2, hz, q⟩ := h
  cases rx
  obtain ⟨t, rfl⟩ := ry
  obtain ⟨z, its, n, r, hl, e⟩ := I.lstM hH
  have hlen : its.toArray.size * k.toNat ≤ sizeLine := by rw [List.size_toArray, ← hl]; exact hz
  have hcap : ¬ its.toArray.size * k.toNat > (2 ^ 63 - 1) / 8 := by
    have : (sizeLine : Nat) ≤ (2 ^ 63 - 1) / 8 := by decide
    omega
  have hfit : ¬ (!Builtin.List.listFitsIndex k) = true := by
    rw [fitsIndex_both h1 h2]
    exact Bool.false_ne_true
  have hlong : ¬ Builtin.List.listTooLong (its.toArray.size * k.toNat) = true := by
    rw [notLongL hlen]
    exact Bool.false_ne_true
  have hnew : List.foldl (fun x1 x2 => x1 ++ x2) #[] (List.replicate (if its.toArray.isEmpty = true then 0 else k.toNat) its.toArray) = (List.replicate k.toNat its).flatten.toArray := by
    have f0 : ∀ m : Nat, List.foldl (fun x1 x2 => x1 ++ x2) #[] (List.replicate m its.toArray) = (List.replicate m its).flatten.toArray := fun m => by
      have := foldl_rep its m []
      rw [List.nil_append] at this
      exact this
    rw [f0]
    cases its with
    | nil => simp
    | cons a r' => rw [if_neg (by simp)]
  refine wpAny_binaryOp_repeat_ref (T := "list") (U := "int") (by decide) ⟨_, e, rfl⟩ (fun s' => typeIs_int s' k t) noFill_list_mul F.fills_int_mul F.slot_int_rmul repeat_list F.slot_int_index.lookup
    (call_meets F.slot_int_rmul (typeIs_int s k t) F.entry_int_rmul (F.args_int_rmul_2 _ _) (int___rmul___int_list k t l its.toArray n)
      ⟨e, rfl, ⟨_, e, rfl⟩, call_meets F.slot_list_mul ⟨_, e, rfl⟩ F.entry_list_mul (F.args_list_mul_2 _ _) (AutoListH.list___mul___list_int_3 l its.toArray n k t hfit hcap hlong) ⟨e, ?_⟩⟩)
  rw [hnew]
  exact ⟨.ref _, _, I.lnew (t' := s.toks) (r.rep k.toNat) (by rw [len_rep, Nat.mul_comm]; exact hz), rfl, q _ I.fresh⟩

end

section
variable {prog : Program} {w : World} {A : Around} {E : Value → Shared → Prop} {s : Shared}
end

section
variable {X : Cx}
end
end L2

namespace Att
open PySem PySem.W PySem.Calls PyProof.Rows

theorem ints_of_wellAll {P : Params} {h : Heap} : ∀ (ns : List Int) (vs : List Value), WellAll P h vs (ns.map WData.int) → IntsAre vs ns := by
  intro ns
  induction ns with
  | nil =>
    intro vs w
    rw [List.map_nil] at w
    cases w
    exact .nil
  | cons n ns ih =>
    intro vs w
    rw [List.map_cons] at w
    cases w with
    | cons a b =>
      cases a
      exact .cons _ _ (ih _ b)

theorem script_of {l : OpenLaw} {n : Nat} (hn : l.most = some n) {P : Params} {h : Heap} {args : List WData} {vals : List Value}
    (hpre : l.row.toRowW.claim.pre args = true) (hwl : WellAll P h vals args) :
    ∃ a vs ns, vals = [Value.ref a] ∧ args = [WData.list (ns.map WData.int)] ∧ h.get? a = some { cls := .type "list", data := .seq vs.toArray } ∧ IntsAre vs ns ∧ ns.length ≤ n := by
  have hsh : WShape.hasAll [] args [.list .int] = true := (pre_splitW hpre).1
  have hc : l.pre.holds [] { args := args } = true := (pre_splitW hpre).2
  obtain ⟨d, r, rfl, h1, h2⟩ := hasAllW_cons hsh
  obtain rfl := hasAllW_nil h2
  obtain ⟨xs, rfl, h3⟩ := hasW_list h1
  obtain ⟨ns, rfl⟩ := items_int h3
  have hlen : ns.length ≤ n := by
    unfold OpenLaw.pre at hc
    have h4 : (WTm.not (.lt (.lit (.int (n : Int))) (.len (.arg 0)))).holds [] { args := [.list (ns.map .int)] } = true := by
      have h4 := (holds_andW hc).1
      rw [hn] at h4
      exact h4
    have h5 := condW_of h4 (w_not (w_lt w_lit (w_len_list (w_arg rfl))))
    rw [List.length_map] at h5
    refine Nat.le_of_not_lt fun q => ?_
    have q' : (n : Int) < ((ns.length : Nat) : Int) := by omega
    first
      | (rw [decide_eq_true q'] at h5; exact absurd h5 (by decide))
      | (simp at h5; omega)
  cases hwl with
  | cons w1 w2 =>
    cases w2
    cases w1 with
    | list ho hall => exact ⟨_, _, ns, rfl, rfl, ho, ints_of_wellAll ns _ hall, hlen⟩

theorem post_true (l : OpenLaw) (args : List WData) : l.row.toRowW.claim.post args (.bool true) args = true :=
  postW_of (r := l.row.toRowW) (X := (true == true))
    (show WShape.has [] (.bool true) .bool = true by first | rfl | decide | simp [WShape.has, WShape.arms, WShape.armsAll])
    (show (WTm.eq .res (.lit (.bool true))).value [] { args := args, res := some (.bool true), after := args } = some (.bool (true == true)) from w_eq_bool (w_res rfl) w_lit) rfl

theorem attach_call {l : OpenLaw} {n : Nat} {q : Program} {loose : List Str} {XP : (Str → Option Value) → Heap → Prop} {YP : World → Heap → Prop} {d : DefRec}
    (hn : l.most = some n) (hdf : d.params.defaults = [])
    (call : ∀ (w : World) (s₀ s₁ : Shared) (mg mb : Str → Option Value) (fa : Addr) (o : Obj) (pm cd doc : Value) (a : Addr) (vs : List Value) (ns : List Int),
      Ground q loose [] XP w s₀ mg mb s₁.heap → YP w s₁.heap →
      s₁.heap.get? fa = some o → o.data = .func (docDef d.name d.params d.body d.scope pm cd doc) → s₁.heap.CodeRec cd d.name → mg d.name = some (.ref fa) →
      s₁.heap.get? a = some { cls := .type "list", data := .seq vs.toArray } → IntsAre vs ns → ns.length ≤ n → s₁.gens = #[] →
      codeAny (model l.prog w) callerA (.call (.ref fa) ⟨[.ref a], []⟩) (fun r s' => r = .ok (.ret (.bool true)) ∧ OldK s₁.heap s'.heap ∧ s'.os = s₁.os ∧ AllBare s'.gens) s₁) :
    WalkO q loose XP YP l.row.toRowW d [] (fun f vs => PySem.call f vs) := by
  intro w s₀ s₁ mg mb G Y fa o pm cd doc dV kV ho hd hcd hD hmg hg args vals as hpre hlay hrd hwl hlo
  obtain rfl : dV = .none := Dflts.none hD hdf
  obtain rfl : kV = .none := Dflts.noKw hD
  obtain ⟨a, vs, ns, rfl, rfl, hobj, hints, hlen⟩ := script_of hn hpre hwl
  refine enter_call (codeAny_mono (call w s₀ s₁ mg mb fa o pm cd doc a vs ns G Y ho (fd_plain hd) hcd hmg hobj hints hlen hg) fun r s' hq => ?_)
  obtain ⟨rfl, h2, h3, h4⟩ := hq
  exact ⟨.inl ⟨.bool true, .bool true, [], rfl, fun _ => rfl, .bool true, post_true l _, fun _ => ⟨List.Pairwise.nil, fun _ hm => (nomatch hm)⟩⟩, h2, h3, h4⟩

section
variable {prog : Program} {w : World} {A : Around} {E : Value → Shared → Prop} {s : Shared} {K : Frag}

end
end Att

namespace L2
open PySem PySem.Spec PyProof.Rows

theorem vals_ints : ∀ {vs : List Value} {ns : List Int}, IntsAre vs ns → Vals (ns.map V.int) vs
  | _, _, .nil => .nil
  | _, _, .cons n t h => .cons ⟨t, rfl⟩ (vals_ints h)

def Only (H : Hp) : Prop := ∀ b, H b = none ∨ ∃ o xs, H b = some (.frz o (.lst xs))

theorem law_call {P : Program} {w : World} {K : PySem.W.Frag} {mg mb : Str → Option Value} {CX : CXT} {k : Nat} {fa a : Addr} {fd : FuncData} {x : Str} {sp : Sp} {s₁ : Shared} {vs : List Value} {ns : List Int}
    (KX : K.In s₁.heap) (hns : s₁.heap.Ns mainGlobals mg) (hb : s₁.heap.Ns builtinsNs mb) (hbb : ∀ x : Str, x ≠ "__name__" → mb x = bootBuiltins x) (hlim : s₁.heap.NoLimit) (hg : s₁.gens = #[])
    (ha : s₁.heap.get? a = some { cls := .type "list", data := .seq vs.toArray }) (hi : IntsAre vs ns) (hl : ns.length ≤ sizeLine) (hr : Room k callerA)
    (F : ∀ base : Heap, K.In base → base.Ns mainGlobals mg → FnOk P w K mg base CX k fa fd [x] sp) (hbind : ∀ (s : Shared) (u : Value), BindsTo s fd ⟨[u], []⟩ [(x, u)])
    (hsp : ∀ H : Hp, Only H → SqL K H a (ns.map V.int) → sp [.ref a] H (fun v _ => v = .bl true) fun _ _ _ => False)
    (hCX : ∀ H e s', CX [] H s₁ (fun _ _ _ => False) e s' → False) :
    codeAny (model P w) callerA (.call (.ref fa) ⟨[.ref a], []⟩) (fun r s' => r = .ok (.ret (.bool true)) ∧ OldK s₁.heap s'.heap ∧ s'.os = s₁.os ∧ AllBare s'.gens) s₁ := by
  have rv := vals_ints hi
  have lenV := hi.length
  -- from an abstract heap in which nothing but the script may be tracked
  have core : ∀ H : Hp, Only H → SqL K H a (ns.map V.int) → HOk P w H s₁.heap → (∀ b, H b ≠ none → b = a) → (H a ≠ none → K.lookup a = none) →
      codeAny (model P w) callerA (.call (.ref fa) ⟨[.ref a], []⟩) (fun r s' => r = .ok (.ret (.bool true)) ∧ OldK s₁.heap s'.heap ∧ s'.os = s₁.os ∧ AllBare s'.gens) s₁ := by
    intro H hO hS hok hA hK
    have base_of : ∀ {b : Addr} {o : Obj}, s₁.heap.get? b = some o → H b = none → (hidT s₁.heap H).get? b = some o := fun e n => hidT_get e n
    have noA : ∀ {b : Addr} {o : Obj} {es : Array DictEntry} {ep : Nat}, s₁.heap.get? b = some o → o.data = .dict es ep → H b = none := fun {b o es ep} e d => by
      cases q : H b with
      | none => rfl
      | some u =>
        have e' : b = a := hA b (by rw [q]; simp)
        subst e'
        rw [ha] at e; cases e
        have d' : Data.seq vs.toArray _ = Data.dict es ep := d
        cases d'
    have nsK : ∀ {b : Addr} {m : Str → Option Value}, s₁.heap.Ns b m → (hidT s₁.heap H).Ns b m := fun {b m} ⟨o, es, ep, e, d, r⟩ => ⟨o, es, ep, base_of e (noA e d), d, r⟩
    have hKb : K.In (hidT s₁.heap H) := fun b o e => base_of (KX b o e) (by
      cases q : H b with
      | none => rfl
      | some u =>
        have e' : b = a := hA b (by rw [q]; simp)
        subst e'
        rw [hK (by rw [q]; simp)] at e; cases e)
    have hM : Mod K mg (hidT s₁.heap H) := ⟨hKb, nsK hns, ⟨mb, nsK hb, hbb⟩, let ⟨mc, h1, h2⟩ := hlim; ⟨mc, nsK h1, h2⟩⟩
    have e0 : Env0 P w K mg (hidT s₁.heap H) callerA [] s₁ H := ⟨rfl, hM, fun b o e => of_hidT e, Nat.le_of_eq (hidT_size _ _), trivial, fun b hb => absurd (show b ∈ ([] : List Addr) from hb) (by simp), hok, .of_eq hg⟩
    refine codeAny_mono ((F _ hKb (nsK hns)).run callerA [] s₁ H ⟨[.ref a], []⟩ [.ref a] [.ref a] _ _ hr e0 (hbind s₁ (.ref a)) (.cons rfl .nil) (hsp H hO hS)) fun r s' h => ?_
    cases r with
    | error e => exact (hCX H e s' h).elim
    | ok fl =>
      cases fl with
      | next => exact False.elim h
      | brk => exact False.elim h
      | cont => exact False.elim h
      | ret u =>
        obtain ⟨v, H', os, bare, un, hok', r', q⟩ := h
        have q' : v = .bl true := q
        subst q'
        obtain rfl : u = Value.bool true := r'
        refine ⟨rfl, OldK.of_keep fun b o e => ?_, os, bare⟩
        cases q : H b with
        | none => exact un.keep b o e q (by intro z; exact absurd (show b ∈ ([] : List Addr) from z) (by simp)) (by simp)
        | some u =>
          rcases hO b with z | ⟨ob, xs, z⟩
          · rw [q] at z; cases z
          · have z2 := un.frzs b ob _ z
            obtain ⟨e1, _⟩ := hok b _ z
            obtain ⟨e2, _⟩ := hok' b _ z2
            rw [e] at e1; cases e1
            exact e2
  cases hk : K.lookup a with
  | some o =>
    -- the script is one of the module's own objects
    have e := KX a o hk
    rw [ha] at e
    cases e
    refine core (fun _ => none) (fun _ => .inl rfl) (.inr ⟨_, vs.toArray, _, hk, rfl, rfl, rfl, by rw [List.size_toArray, lenV]; exact hl, by simpa using rv⟩) (fun b u z => by have z' : (none : Option HO) = some u := z; cases z') (fun b z => absurd rfl z) fun z => absurd rfl z
  | none =>
    refine core (fun b => if b = a then some (.frz { cls := .type "list", data := .seq vs.toArray } (.lst (ns.map V.int))) else none) (fun b => ?_) (.inl (.inr ⟨{ cls := .type "list", data := .seq vs.toArray }, if_pos rfl⟩)) (fun b u z => ?_) (fun b z => ?_) fun _ => hk
    · by_cases hb : b = a
      · exact .inr ⟨_, _, if_pos hb⟩
      · exact .inl (if_neg hb)
    · by_cases hb : b = a
      · have z' := (if_pos hb).symm.trans z
        cases z'
        subst hb
        exact ⟨ha, by rw [List.length_map]; exact hl, vs, _, rv, ha⟩
      · have z' := (if_neg hb).symm.trans z
        cases z'
    · by_cases hb : b = a
      · exact hb
      · exact absurd (if_neg hb) z
end L2

namespace L2
open PySem PySem.Spec PyProof.Rows

abbrev KOf {K : PySem.W.Frag} {h : Heap} (_ : K.In h) : PySem.W.Frag := K

theorem walk_of {l : PySem.W.OpenLaw} {n k : Nat} {q : Program} {loose : List Str} {XP : (Str → Option Value) → Heap → Prop} {YP : World → Heap → Prop} {d : DefRec} {K : Params → PySem.W.Frag} {CX : World → CXT} {sp : World → Sp} {x : Str}
    (hn : l.most = some n) (hn2 : n ≤ sizeLine) (hdf : d.params.defaults = []) (hr : Room k callerA)
    (hY : ∀ (w : World) (h : Heap), YP w h → (K w.params).In h)
    (F : ∀ (w : World) (mg : Str → Option Value) (fa : Addr) (h : Heap), (K w.params).In h → h.Ns mainGlobals mg → mg d.name = some (.ref fa) →
      ∃ fd : FuncData, (∀ (s : Shared) (u : Value), BindsTo s fd ⟨[u], []⟩ [(x, u)]) ∧
        ∀ base : Heap, (K w.params).In base → base.Ns mainGlobals mg → FnOk l.prog w (K w.params) mg base (CX w) k fa fd [x] (sp w))
    (hsp : ∀ (w : World) (H : Hp) (a : Addr) (ns : List Int), ns.length ≤ n → Only H → SqL (K w.params) H a (ns.map V.int) → sp w [.ref a] H (fun v _ => v = .bl true) fun _ _ _ => False)
    (hCX : ∀ (w : World) (H : Hp) (s : Shared) (e : Value) (s' : Shared), CX w [] H s (fun _ _ _ => False) e s' → False) :
    PySem.W.WalkO q loose XP YP l.row.toRowW d [] (fun f vs => PySem.call f vs) := by
  refine Att.attach_call hn hdf fun w s₀ s₁ mg mb fa o pm cd doc a vs ns G Y ho hd hcd hmg hobj hints hlen hg => ?_
  have KX := hY w _ Y
  obtain ⟨fd, hb, hF⟩ := F w mg fa _ KX G.T.g hmg
  exact law_call KX G.T.g G.T.b G.T.builtins G.T.nolimit hg hobj hints (Nat.le_trans hlen hn2) hr hF hb (fun H hO hS => hsp w H a ns hlen hO hS) fun H e s' => hCX w H s₁ e s'
theorem walk_ofK {l : PySem.W.OpenLaw} {n k : Nat} {q : Program} {loose : List Str} {XP : (Str → Option Value) → Heap → Prop} {YP : World → Heap → Prop} {d : DefRec} {K : Params → PySem.W.Frag} {CX : CXT} {sp : PySem.W.Frag → Sp} {x : Str}
    (hn : l.most = some n) (hn2 : n ≤ sizeLine) (hdf : d.params.defaults = []) (hr : Room k callerA)
    (hY : ∀ (w : World) (h : Heap), YP w h → (K w.params).In h)
    (F : ∀ (w : World) (mg : Str → Option Value) (fa : Addr) (h : Heap), (K w.params).In h → h.Ns mainGlobals mg → mg d.name = some (.ref fa) →
      ∃ fd : FuncData, (∀ (s : Shared) (u : Value), BindsTo s fd ⟨[u], []⟩ [(x, u)]) ∧
        ∀ base : Heap, (K w.params).In base → base.Ns mainGlobals mg → FnOk l.prog w (K w.params) mg base CX k fa fd [x] (sp (K w.params)))
    (hsp : ∀ (K : PySem.W.Frag) (H : Hp) (a : Addr) (ns : List Int), ns.length ≤ n → Only H → SqL K H a (ns.map V.int) → sp K [.ref a] H (fun v _ => v = .bl true) fun _ _ _ => False)
    (hCX : ∀ (H : Hp) (s : Shared) (e : Value) (s' : Shared), CX [] H s (fun _ _ _ => False) e s' → False) :
    PySem.W.WalkO q loose XP YP l.row.toRowW d [] (fun f vs => PySem.call f vs) :=
  walk_of (K := K) (CX := fun _ => CX) (sp := fun w => sp (K w.params)) hn hn2 hdf hr hY F (fun w H a ns h1 h2 h3 => hsp (K w.params) H a ns h1 h2 h3) fun _ H s e s' => hCX H s e s'
end L2

namespace L2
open PySem PySem.Spec PyProof.Rows

def inClass (s : Stmt) (j : Nat) : Stmt := match s with
  | .ClassDef _ _ _ body _ _ _ _ _ _ _ => body.getD j (.Pass ⟨0, 0, 0, 0⟩)
  | _ => .Pass ⟨0, 0, 0, 0⟩
def defArgs (s : Stmt) : Arguments := match s with
  | .FunctionDef _ a _ _ _ _ _ _ _ _ => a
  | _ => { posonlyargs := [], args := [], vararg := none, kwonlyargs := [], kw_defaults := [], kwarg := none, defaults := [] }
def defBody (s : Stmt) : List Stmt := match s with
  | .FunctionDef _ _ b _ _ _ _ _ _ _ => b
  | _ => []
def defScope (s : Stmt) : Scope := match s with
  | .FunctionDef _ _ _ _ _ _ sc _ _ _ => sc
  | _ => { kind := .function, names := [], isGenerator := false, isCoroutine := false }

abbrev CX0 : CXT := fun _ _ _ _ _ _ => False
abbrev E0 : XK := fun _ _ _ => False
theorem pass0 {X : Cx} : Passes CX0 X E0 := fun _ _ _ _ _ _ _ h => h.elim

structure Fun (K : PySem.W.Frag) (x qual : Str) (st : Stmt) (f : Addr) (fd : FuncData) : Prop where
  ex : ∃ (oc : Value) (od : Option Addr) (kV doc pm : Value) (an : Option Addr) (cdv ct : Value) (osl : Array (Option Value)),
    fd = PySem.W.fnOf x qual (defArgs st) (defBody st) (defScope st) .none kV doc pm an cdv ct ∧ K.lookup f = some ⟨oc, od, .func fd, osl⟩ ∧ PySem.W.codeIn K cdv qual = true
  kp : PySem.W.keepIn K (.ref f) = true
section
variable {P : Program} {w : World} {K : PySem.W.Frag} {mg : Str → Option Value} {base : Heap}
theorem Fun.ok {x qual : Str} {st : Stmt} {f : Addr} {fd : FuncData} {N ps : List Str} {k : Nat} {sp : Sp} (F : Fun K x qual st f fd) (S : FnScope N ps (defScope st)) (len : ∀ vs H Q E, sp vs H Q E → vs.length = ps.length)
    (hbody : ∀ (cdv : Value) (A : Around) (outer : List Env) (s : Shared) (H : Hp) (vs : List V) (Q : VK) (E : XK), Room k (A.deeper (envOfC qual (defScope st) s.heap.objs.size f cdv)) → sp vs H Q E →
      ∃ t, PSs (cxOf CX0 P w K mg base N qual (defScope st) f cdv A outer s H E).nox (defBody st) t ∧ t { nx := fun _ H' => Q .non H', rt := Q } (start N vs) H) : FnOk P w K mg base CX0 (k + 1) f fd ps sp := by
  obtain ⟨oc, od, kV, doc, pm, an, cdv, ct, osl, rfl, lk, hcd⟩ := F.ex
  refine fn_of lk hcd S len fun A outer s H vs Q E hr hsp => ?_
  obtain ⟨t, h, q⟩ := hbody cdv A outer s H vs Q E hr hsp
  exact ⟨t, h.nox, q⟩
theorem Fun.binds {x qual : Str} {st : Stmt} {f : Addr} {fd : FuncData} {ps : List Str} (F : Fun K x qual st f fd)
    (h : ∀ (kV doc pm : Value) (an : Option Addr) (cdv ct : Value) (us : List Value), us.length = ps.length → bindArgs (PySem.W.fnOf x qual (defArgs st) (defBody st) (defScope st) .none kV doc pm an cdv ct) ⟨us, []⟩ = pure (ps.zip us)) : Binds K fd ps [] := by
  obtain ⟨oc, od, kV, doc, pm, an, cdv, ct, osl, rfl, lk, hcd⟩ := F.ex
  exact .all (h kV doc pm an cdv ct)
theorem fun_mk {x qual : Str} {st : Stmt} {f : Addr} {oc : Value} {od an : Option Addr} {osl : Array (Option Value)} {kV doc pm cdv ct : Value} (l : K.lookup f = some ⟨oc, od, .func (PySem.W.fnOf x qual (defArgs st) (defBody st) (defScope st) .none kV doc pm an cdv ct), osl⟩)
    (c : PySem.W.codeIn K cdv qual = true) (k : PySem.W.keepIn K (.ref f) = true) : Fun K x qual st f (PySem.W.fnOf x qual (defArgs st) (defBody st) (defScope st) .none kV doc pm an cdv ct) := ⟨⟨oc, od, kV, doc, pm, an, cdv, ct, osl, rfl, l, c⟩, k⟩
end
theorem hu_of {A : Around} {k : Nat} (hr : Room k A) : A.units + 1 < cLine := Nat.lt_of_le_of_lt (Nat.add_le_add_left (by decide : 1 ≤ 64) _) hr.units
section
variable {X : Cx}
theorem pv (i : Nat) {x : Str} {pos : Pos} (hN : X.N[i]? = some x := by rfl) (hv : Vis X.env.scope x := by first | exact Or.inl rfl | exact Or.inr (Or.inl rfl) | exact Or.inr (Or.inr rfl)) (hd : (x == ("__debug__" : Str)) = false := by decide)
    (hcd : (x == ("__classdict__" : Str)) = false := by decide) : PE X (.Name x pos) (tVar i) := pe_var hN hv hd hcd
end

theorem iteF {A B : Prop} (h : B) : if false = true then A else B := by
  rw [if_neg Bool.false_ne_true]
  exact h
theorem iteT {A B : Prop} (h : A) : if true = true then A else B := by
  rw [if_pos rfl]
  exact h
theorem iteNS {c A B : Prop} [Decidable c] (hc : c) (h : B) : if (!decide c) = true then A else B := by
  rw [decide_eq_true hc]
  exact iteF h

def Same (H H' : Hp) : Prop := ∀ b o, H b = some o → H' b = some o
theorem Same.refl (H : Hp) : Same H H := fun _ _ h => h
theorem Same.trans {H H1 H2 : Hp} (a : Same H H1) (b : Same H1 H2) : Same H H2 := fun c o h => b c o (a c o h)
theorem Same.free {H H' : Hp} (e : Same H H') {l : Addr} (h : H' l = Option.none) : H l = Option.none := by
  cases q : H l with
  | none => rfl
  | some o =>
    rw [e l o q] at h
    cases h
theorem Same.seq {K : PySem.W.Frag} {H H' : Hp} {a : Addr} {xs : List V} (e : Same H H') (h : SqL K H a xs) : SqL K H' a xs := by
  rcases h with (h | ⟨o, h⟩) | h
  · exact .inl (.inl (e _ _ h))
  · exact .inl (.inr ⟨o, e _ _ h⟩)
  · exact .inr h

end L2
set_option Elab.async false
set_option linter.all false
set_option maxRecDepth 100000
set_option maxHeartbeats 4000000
namespace L2
open PySem PySem.Spec PyProof.Rows

inductive Da where
  | fl (v : V)
  | tup (ds : List Da)
  | lst (ds : List Da)
mutual
def Isd (K : PySem.W.Frag) (H : Hp) : Da → V → Prop
  | .fl x, v => v = x ∧ flatV x = true
  | .tup ds, v => ∃ a xs, v = .ref a ∧ SqT K H a xs ∧ Isds K H ds xs
  | .lst ds, v => ∃ a xs, v = .ref a ∧ SqL K H a xs ∧ Isds K H ds xs
def Isds (K : PySem.W.Frag) (H : Hp) : List Da → List V → Prop
  | [], xs => xs = []
  | d :: ds, xs => ∃ v vs, xs = v :: vs ∧ Isd K H d v ∧ Isds K H ds vs
end
mutual
def eqD : Da → Da → Bool
  | .fl x, .fl y => eqV x y
  | .tup a, .tup b => eqDs a b
  | .lst a, .lst b => eqDs a b
  | _, _ => false
def eqDs : List Da → List Da → Bool
  | [], [] => true
  | a :: r, b :: t => eqD a b && eqDs r t
  | _, _ => false
end
mutual
def depD : Da → Nat
  | .fl _ => 0
  | .tup ds => depDs ds + 1
  | .lst ds => depDs ds + 1
def depDs : List Da → Nat
  | [] => 0
  | d :: ds => max (depD d) (depDs ds)
end
theorem Isds.len {K : PySem.W.Frag} {H : Hp} : ∀ {ds : List Da} {xs : List V}, Isds K H ds xs → ds.length = xs.length
  | [], xs, h => by unfold Isds at h; subst h; rfl
  | d :: ds, xs, h => by
    unfold Isds at h
    obtain ⟨v, vs, rfl, _, t⟩ := h
    rw [List.length_cons, List.length_cons, Isds.len t]
theorem Isds.get {K : PySem.W.Frag} {H : Hp} : ∀ {ds : List Da} {xs : List V} {i : Nat} {d : Da} {v : V}, Isds K H ds xs → ds[i]? = some d → xs[i]? = some v → Isd K H d v
  | [], _, _, _, _, _, e, _ => by simp at e
  | d :: ds, xs, 0, _, _, h, e, q => by
    unfold Isds at h
    obtain ⟨v, vs, rfl, hd, t⟩ := h
    simp at e q
    subst e q
    exact hd
  | d :: ds, xs, i + 1, _, _, h, e, q => by
    unfold Isds at h
    obtain ⟨v, vs, rfl, hd, t⟩ := h
    exact Isds.get t (by simpa using e) (by simpa using q)
theorem eqV_refl {x : V} (h : flatV x = true) : eqV x x = true := by
  cases x with
  | non => rfl
  | bl b => show (b == b) = true; simp
  | int i => show (i == i) = true; simp
  | str z => show (z == z) = true; simp
  | _ => exact absurd (show false = true from h) Bool.false_ne_true
section
variable {X : Cx} {pins : List (Addr × Obj)} {σ : St} {H : Hp} {s : Shared}
theorem Inv.lst_tup (I : Inv X pins σ H s) {a : Addr} {xs ys : List V} (h : SqL X.K H a xs) (h' : SqT X.K H a ys) : False := by
  obtain ⟨its, _, ⟨o1, n1, e1, c1, _⟩, _⟩ := I.list h
  obtain ⟨its2, _, ⟨o, e2, c2, _⟩, _⟩ := I.tuple h'
  rw [e1] at e2
  cases e2
  rw [c1] at c2
  exact absurd (Value.type.inj c2) (by decide)
theorem Isd.flat_ref {K : PySem.W.Frag} {a : Addr} {x : V} (h : Isd K H (.fl x) (.ref a)) : False := by
  unfold Isd at h
  obtain ⟨e, f⟩ := h
  subst e
  exact absurd (show false = true from f) Bool.false_ne_true
mutual
theorem Isd.inj (I : Inv X pins σ H s) : ∀ (d e : Da) {v : V}, Isd X.K H d v → Isd X.K H e v → d = e
  | .fl x, .fl y, v, h, q => by
    unfold Isd at h q
    rw [← h.1, ← q.1]
  | .fl x, .tup ys, v, h, q => by
    unfold Isd at q
    obtain ⟨a, zs, e, _⟩ := q
    subst e
    exact h.flat_ref.elim
  | .fl x, .lst ys, v, h, q => by
    unfold Isd at q
    obtain ⟨a, zs, e, _⟩ := q
    subst e
    exact h.flat_ref.elim
  | .tup xs, .fl y, v, h, q => by
    unfold Isd at h
    obtain ⟨a, zs, e, _⟩ := h
    subst e
    exact q.flat_ref.elim
  | .lst xs, .fl y, v, h, q => by
    unfold Isd at h
    obtain ⟨a, zs, e, _⟩ := h
    subst e
    exact q.flat_ref.elim
  | .tup xs, .tup ys, v, h, q => by
    unfold Isd at h q
    obtain ⟨a, us, e, ha, hs⟩ := h
    obtain ⟨b, ws, e', hb, qs⟩ := q
    subst e
    cases e'
    rw [I.tuple_inj ha hb] at hs
    rw [Isds.inj I xs ys hs qs]
  | .lst xs, .lst ys, v, h, q => by
    unfold Isd at h q
    obtain ⟨a, us, e, ha, hs⟩ := h
    obtain ⟨b, ws, e', hb, qs⟩ := q
    subst e
    cases e'
    rw [I.list_inj ha hb] at hs
    rw [Isds.inj I xs ys hs qs]
  | .tup xs, .lst ys, v, h, q => by
    unfold Isd at h q
    obtain ⟨a, us, e, ha, hs⟩ := h
    obtain ⟨b, ws, e', hb, qs⟩ := q
    subst e
    cases e'
    exact (I.lst_tup hb ha).elim
  | .lst xs, .tup ys, v, h, q => by
    unfold Isd at h q
    obtain ⟨a, us, e, ha, hs⟩ := h
    obtain ⟨b, ws, e', hb, qs⟩ := q
    subst e
    cases e'
    exact (I.lst_tup ha hb).elim
theorem Isds.inj (I : Inv X pins σ H s) : ∀ (ds es : List Da) {vs : List V}, Isds X.K H ds vs → Isds X.K H es vs → ds = es
  | [], [], _, _, _ => rfl
  | [], e :: es, vs, h, q => by
    unfold Isds at h q
    obtain ⟨v, r, e1, _⟩ := q
    rw [h] at e1; cases e1
  | d :: ds, [], vs, h, q => by
    unfold Isds at h q
    obtain ⟨v, r, e1, _⟩ := h
    rw [q] at e1; cases e1
  | d :: ds, e :: es, vs, h, q => by
    unfold Isds at h q
    obtain ⟨v, r, e1, h1, h2⟩ := h
    obtain ⟨v', r', e2, q1, q2⟩ := q
    subst e1
    cases e2
    rw [Isd.inj I d e h1 q1, Isds.inj I ds es h2 q2]
end
mutual
theorem eqD_refl {K : PySem.W.Frag} : ∀ (d : Da) {v : V}, Isd K H d v → eqD d d = true
  | .fl x, v, h => by
    unfold Isd at h
    unfold eqD
    exact eqV_refl h.2
  | .tup ds, v, h => by
    unfold Isd at h
    obtain ⟨_, _, _, _, hs⟩ := h
    unfold eqD
    exact eqDs_refl ds hs
  | .lst ds, v, h => by
    unfold Isd at h
    obtain ⟨_, _, _, _, hs⟩ := h
    unfold eqD
    exact eqDs_refl ds hs
theorem eqDs_refl {K : PySem.W.Frag} : ∀ (ds : List Da) {vs : List V}, Isds K H ds vs → eqDs ds ds = true
  | [], _, _ => by unfold eqDs; rfl
  | d :: ds, vs, h => by
    unfold Isds at h
    obtain ⟨_, _, _, h1, h2⟩ := h
    unfold eqDs
    rw [eqD_refl d h1, eqDs_refl ds h2]
    rfl
end
theorem eqDs_all : ∀ (ds es : List Da), ds.length = es.length → (List.range ds.length).all (fun j => match ds[j]?, es[j]? with | some a, some b => eqD a b | _, _ => false) = eqDs ds es
  | [], [], _ => by unfold eqDs; rfl
  | [], _ :: _, h => by simp at h
  | _ :: _, [], h => by simp at h
  | d :: ds, e :: es, h => by
    have ih := eqDs_all ds es (by simpa using h)
    unfold eqDs
    rw [← ih, List.length_cons, List.range_succ_eq_map, List.all_cons, List.all_map]
    simp only [List.getElem?_cons_zero, Function.comp_def, List.getElem?_cons_succ]
theorem eqDs_len : ∀ (ds es : List Da), ds.length ≠ es.length → eqDs ds es = false
  | [], [], h => by simp at h
  | [], _ :: _, _ => by unfold eqDs; rfl
  | _ :: _, [], _ => by unfold eqDs; rfl
  | d :: ds, e :: es, h => by
    unfold eqDs
    rw [eqDs_len ds es (by simpa using h), Bool.and_false]
theorem depD_mem : ∀ {ds : List Da} {d : Da} {j : Nat}, ds[j]? = some d → depD d ≤ depDs ds
  | [], _, _, h => by simp at h
  | d :: ds, _, 0, h => by
    simp at h
    subst h
    unfold depDs
    omega
  | d :: ds, e, j + 1, h => by
    have := depD_mem (ds := ds) (d := e) (j := j) (by simpa using h)
    unfold depDs
    omega
def atE (ds es : List Da) (j : Nat) : Bool := match ds[j]?, es[j]? with
  | some a, some b => eqD a b
  | _, _ => false
theorem items_D {K : PySem.W.Frag} {n : Nat} {A : Around} (hE : ∀ (d e : Da) (v x : V) (u w : Value), depD d ≤ n → Isd K H d v → Isd K H e x → RelV v u → RelV x w → SeqAt.EqAt A s u w (eqD d e)) {ds es : List Da} {xs ys : List V} {us ws : List Value} (hdp : depDs ds ≤ n)
    (h1 : Isds K H ds xs) (h2 : Isds K H es ys) (r1 : Vals xs us) (r2 : Vals ys ws) (j : Nat) (l1 : j < us.toArray.size) (l2 : j < ws.toArray.size) : SeqAt.EqAt A s us.toArray[j] ws.toArray[j] (atE ds es j) := by
  have l1' : j < us.length := by simpa using l1
  have l2' : j < ws.length := by simpa using l2
  have q1 := h1.len
  have q2 := h2.len
  have q3 := r1.length
  have q4 := r2.length
  have a1 : ds[j]? = some ds[j] := List.getElem?_eq_getElem (by omega)
  have a2 : es[j]? = some es[j] := List.getElem?_eq_getElem (by omega)
  have a3 : xs[j]? = some xs[j] := List.getElem?_eq_getElem (by omega)
  have a4 : ys[j]? = some ys[j] := List.getElem?_eq_getElem (by omega)
  obtain ⟨u1, b1, c1⟩ := r1.get a3
  obtain ⟨w1, b2, c2⟩ := r2.get a4
  have e1 : us.toArray[j] = u1 := by
    have : us[j] = u1 := by rw [List.getElem?_eq_getElem l1'] at b1; exact Option.some.inj b1
    simpa using this
  have e2 : ws.toArray[j] = w1 := by
    have : ws[j] = w1 := by rw [List.getElem?_eq_getElem l2'] at b2; exact Option.some.inj b2
    simpa using this
  rw [e1, e2]
  unfold atE
  rw [a1, a2]
  exact hE ds[j] es[j] _ _ _ _ (Nat.le_trans (depD_mem a1) hdp) (h1.get a1 a3) (h2.get a2 a4) c1 c2
theorem eqAt_D (I : Inv X pins σ H s) : ∀ (n : Nat) (d e : Da) {A : Around} {v x : V} {u w : Value}, depD d ≤ n → Isd X.K H d v → Isd X.K H e x → RelV v u → RelV x w → A.units + n < cLine → SeqAt.EqAt A s u w (eqD d e) := by
  intro n
  induction n with
  | zero =>
    intro d e A v x u w hn hd he ru rw' hu
    cases d with
    | tup ds => unfold depD at hn; omega
    | lst ds => unfold depD at hn; omega
    | fl y =>
      unfold Isd at hd
      obtain ⟨rfl, fy⟩ := hd
      cases e with
      | fl z =>
        unfold Isd at he
        obtain ⟨rfl, fz⟩ := he
        unfold eqD
        exact eqAt_V ru rw' fy fz
      | tup es =>
        unfold Isd at he
        obtain ⟨a, xs, rfl, ha, _⟩ := he
        obtain ⟨its, _, p, _⟩ := I.tuple ha
        cases rw'
        have p' : s.heap.IsTuple a its.toArray := p
        cases v with
        | non => cases ru; exact SeqAt.EqAt.none_tuple p' (by omega)
        | bl b => cases ru; exact SeqAt.EqAt.bool_tuple b p' (by omega)
        | int i => obtain ⟨t, rfl⟩ := ru; exact SeqAt.EqAt.int_tuple i t p' (by omega)
        | str z => obtain ⟨t, rfl⟩ := ru; exact SeqAt.EqAt.str_tuple z t p' (by omega)
        | _ => exact absurd (show false = true from fy) Bool.false_ne_true
      | lst es =>
        unfold Isd at he
        obtain ⟨a, xs, rfl, ha, _⟩ := he
        obtain ⟨its, _, p, _⟩ := I.list ha
        cases rw'
        have p' := p.isList
        cases v with
        | non => cases ru; exact SeqAt.EqAt.none_list p' (by omega)
        | bl b => cases ru; exact SeqAt.EqAt.bool_list b p' (by omega)
        | int i => obtain ⟨t, rfl⟩ := ru; exact SeqAt.EqAt.int_list i t p' (by omega)
        | str z => obtain ⟨t, rfl⟩ := ru; exact SeqAt.EqAt.str_list z t p' (by omega)
        | _ => exact absurd (show false = true from fy) Bool.false_ne_true
  | succ n ih =>
    intro d e A v x u w hn hd he ru rw' hu
    have items : ∀ {ds es : List Da} {xs ys : List V} {us ws : List Value}, depDs ds ≤ n → Isds X.K H ds xs → Isds X.K H es ys → Vals xs us → Vals ys ws →
        ∀ j (h1 : j < us.toArray.size) (h2 : j < ws.toArray.size), SeqAt.EqAt A.in1 s us.toArray[j] ws.toArray[j] (atE ds es j) :=
      items_D (n := n) fun d e v x u w h1 h2 h3 h4 h5 => ih d e h1 h2 h3 h4 h5 (by show A.units + 1 + n < cLine; omega)
    cases d with
    | fl y =>
      exact ih (.fl y) e (by unfold depD; omega) hd he ru rw' (by omega)
    | tup ds =>
      cases e with
      | fl z =>
        unfold Isd at hd he
        obtain ⟨a, xs, rfl, ha, _⟩ := hd
        obtain ⟨rfl, fz⟩ := he
        obtain ⟨its, _, p, _⟩ := I.tuple ha
        cases ru
        have p' : s.heap.IsTuple a its.toArray := p
        cases x with
        | non => cases rw'; exact SeqAt.EqAt.tuple_none p' (by omega)
        | bl b => cases rw'; exact SeqAt.EqAt.tuple_bool b p' (by omega)
        | int i => obtain ⟨t, rfl⟩ := rw'; exact SeqAt.EqAt.tuple_int i t p' (by omega)
        | str z => obtain ⟨t, rfl⟩ := rw'; exact SeqAt.EqAt.tuple_str z t p' (by omega)
        | _ => exact absurd (show false = true from fz) Bool.false_ne_true
      | tup es =>
        have hd0 := hd
        have he0 := he
        unfold Isd at hd he
        obtain ⟨a, xs, rfl, ha, hs⟩ := hd
        obtain ⟨b, ys, rfl, hb, qs⟩ := he
        cases ru
        cases rw'
        by_cases hab : a = b
        · subst hab
          rw [← Isd.inj I (.tup ds) (.tup es) hd0 he0, eqD_refl _ hd0]
          exact SeqAt.EqAt.same _
        · obtain ⟨us, r1, p1, _⟩ := I.tuple ha
          obtain ⟨ws, r2, p2, _⟩ := I.tuple hb
          have hdp : depDs ds ≤ n := by unfold depD at hn; omega
          have key := SeqAt.RcAt.tuples (A := A) (e := atE ds es) (show s.heap.IsTuple a us.toArray from p1) (show s.heap.IsTuple b ws.toArray from p2) (by omega) (items hdp hs qs r1 r2)
          have ev : ((List.range (min us.toArray.size ws.toArray.size)).all (atE ds es) && us.toArray.size == ws.toArray.size) = eqD (.tup ds) (.tup es) := by
            have q1 := hs.len
            have q2 := qs.len
            have q3 := r1.length
            have q4 := r2.length
            have z1 : us.toArray.size = ds.length := by simp; omega
            have z2 : ws.toArray.size = es.length := by simp; omega
            unfold eqD
            rw [z1, z2]
            by_cases hl : ds.length = es.length
            · rw [← eqDs_all ds es hl, hl, Nat.min_self, beq_self_eq_true, Bool.and_true]
              rfl
            · rw [eqDs_len ds es hl, beq_eq_false_iff_ne.mpr hl, Bool.and_false]
          rw [ev] at key
          exact SeqAt.EqAt.of_refs hab key
      | lst es =>
        unfold Isd at hd he
        obtain ⟨a, xs, rfl, ha, hs⟩ := hd
        obtain ⟨b, ys, rfl, hb, qs⟩ := he
        cases ru
        cases rw'
        obtain ⟨us, r1, p1, _⟩ := I.tuple ha
        obtain ⟨ws, r2, p2, _⟩ := I.list hb
        unfold eqD
        exact SeqAt.EqAt.tuple_list (show s.heap.IsTuple a us.toArray from p1) p2.isList (by omega)
    | lst ds =>
      cases e with
      | fl z =>
        unfold Isd at hd he
        obtain ⟨a, xs, rfl, ha, _⟩ := hd
        obtain ⟨rfl, fz⟩ := he
        obtain ⟨its, _, p, _⟩ := I.list ha
        cases ru
        have p' := p.isList
        cases x with
        | non => cases rw'; exact SeqAt.EqAt.list_none p' (by omega)
        | bl b => cases rw'; exact SeqAt.EqAt.list_bool b p' (by omega)
        | int i => obtain ⟨t, rfl⟩ := rw'; exact SeqAt.EqAt.list_int i t p' (by omega)
        | str z => obtain ⟨t, rfl⟩ := rw'; exact SeqAt.EqAt.list_str z t p' (by omega)
        | _ => exact absurd (show false = true from fz) Bool.false_ne_true
      | tup es =>
        unfold Isd at hd he
        obtain ⟨a, xs, rfl, ha, hs⟩ := hd
        obtain ⟨b, ys, rfl, hb, qs⟩ := he
        cases ru
        cases rw'
        obtain ⟨us, r1, p1, _⟩ := I.list ha
        obtain ⟨ws, r2, p2, _⟩ := I.tuple hb
        unfold eqD
        exact SeqAt.EqAt.list_tuple p1.isList (show s.heap.IsTuple b ws.toArray from p2) (by omega)
      | lst es =>
        have hd0 := hd
        have he0 := he
        unfold Isd at hd he
        obtain ⟨a, xs, rfl, ha, hs⟩ := hd
        obtain ⟨b, ys, rfl, hb, qs⟩ := he
        cases ru
        cases rw'
        by_cases hab : a = b
        · subst hab
          rw [← Isd.inj I (.lst ds) (.lst es) hd0 he0, eqD_refl _ hd0]
          exact SeqAt.EqAt.same _
        · obtain ⟨us, r1, p1, _⟩ := I.list ha
          obtain ⟨ws, r2, p2, _⟩ := I.list hb
          have hdp : depDs ds ≤ n := by unfold depD at hn; omega
          have q1 := hs.len
          have q2 := qs.len
          have q3 := r1.length
          have q4 := r2.length
          have z1 : us.toArray.size = ds.length := by simp; omega
          have z2 : ws.toArray.size = es.length := by simp; omega
          by_cases hl : ds.length = es.length
          · have key := SeqAt.RcAt.lists (A := A) (e := atE ds es) p1.isList p2.isList (by rw [z1, z2]; exact hl) (by omega) (items hdp hs qs r1 r2)
            have ev : (List.range us.toArray.size).all (atE ds es) = eqD (.lst ds) (.lst es) := by
              unfold eqD
              rw [z1, ← eqDs_all ds es hl]
              rfl
            rw [ev] at key
            exact SeqAt.EqAt.of_refs hab key
          · have key := SeqAt.RcAt.lists_lengths (A := A) p1.isList p2.isList (by rw [z1, z2]; exact bne_iff_ne.mpr hl) (by omega)
            have ev : false = eqD (.lst ds) (.lst es) := by
              unfold eqD
              rw [eqDs_len ds es hl]
            rw [ev] at key
            exact SeqAt.EqAt.of_refs hab key
theorem all_T {ds es : List Da} {us ws : List Value} (q1 : ds.length = us.length) (q2 : es.length = ws.length) : ((List.range (min us.toArray.size ws.toArray.size)).all (atE ds es) && us.toArray.size == ws.toArray.size) = eqDs ds es := by
  have z1 : us.toArray.size = ds.length := by simp; omega
  have z2 : ws.toArray.size = es.length := by simp; omega
  rw [z1, z2]
  by_cases hl : ds.length = es.length
  · rw [← eqDs_all ds es hl, hl, Nat.min_self, beq_self_eq_true, Bool.and_true]
    rfl
  · rw [eqDs_len ds es hl, beq_eq_false_iff_ne.mpr hl, Bool.and_false]
def rCmpD (K : PySem.W.Frag) (f : Bool → Bool) : R2 := fun x y H Q => ∃ a b xs ys ds es, x = .ref a ∧ y = .ref b ∧ ((SqT K H a xs ∧ SqT K H b ys) ∨ (SqL K H a xs ∧ SqL K H b ys)) ∧ Isds K H ds xs ∧ Isds K H es ys ∧ depDs ds ≤ 50 ∧ Q (.bl (f (eqDs ds es))) H
theorem op_eqD (hu : X.A.units + 64 < cLine) : OpR X (compareOp .Eq) (rCmpD X.K id) := by
  intro pins s σ H x y v u Q I rx ry h
  obtain ⟨a, b, xs, ys, ds, es, rfl, rfl, hq, hs, qs, hd, q⟩ := h
  cases rx
  cases ry
  have items := fun {us ws : List Value} (r1 : Vals xs us) (r2 : Vals ys ws) => items_D (s := s) (H := H) (n := 50) (A := X.A.in1) (fun d e v x u w h1 h2 h3 h4 h5 => eqAt_D I 50 d e h1 h2 h3 h4 h5 (by show X.A.units + 1 + 50 < cLine; omega)) hd hs qs r1 r2
  rcases hq with ⟨ha, hb⟩ | ⟨ha, hb⟩
  · obtain ⟨us, r1, p1, _⟩ := I.tuple ha
    obtain ⟨ws, r2, p2, _⟩ := I.tuple hb
    refine SeqAt.eq_tupleAt (e := atE ds es) (show s.heap.IsTuple a us.toArray from p1) (show s.heap.IsTuple b ws.toArray from p2) (by omega) (items r1 r2) ?_
    rw [all_T (hs.len.trans r1.length) (qs.len.trans r2.length)]
    exact ⟨.bl _, H, I, rfl, q⟩
  · obtain ⟨us, r1, p1, _⟩ := I.list ha
    obtain ⟨ws, r2, p2, _⟩ := I.list hb
    have z1 : us.toArray.size = ds.length := by have q1 := hs.len; have q3 := r1.length; simp; omega
    have z2 : ws.toArray.size = es.length := by have q1 := qs.len; have q3 := r2.length; simp; omega
    by_cases hl : ds.length = es.length
    · refine SeqAt.eq_listAt (e := atE ds es) p1.isList p2.isList (by rw [z1, z2]; exact hl) (by omega) (items r1 r2) ?_
      have ev : (List.range us.toArray.size).all (atE ds es) = eqDs ds es := by
        rw [z1, ← eqDs_all ds es hl]
        rfl
      rw [ev]
      exact ⟨.bl _, H, I, rfl, q⟩
    · refine SeqAt.eq_list_lengthsAt p1.isList p2.isList (by rw [z1, z2]; exact bne_iff_ne.mpr hl) (by omega) ?_
      have ev : false = eqDs ds es := (eqDs_len ds es hl).symm
      rw [ev]
      exact ⟨.bl _, H, I, rfl, q⟩
end
end L2
set_option Elab.async false
set_option linter.all false
set_option maxRecDepth 100000
set_option maxHeartbeats 4000000
namespace L2
open PySem PySem.Spec PyProof.Rows

theorem clos_loop (env : Env) : ∀ (names : List (Str × NameKind)) (cs : List (Str × Addr)), (∀ x, (x, NameKind.free) ∈ names → ∃ c, env.cells.lookup x = some c) →
    (∀ x c, cs.lookup x = some c → env.cells.lookup x = some c) →
    ∃ cl : List (Str × Addr), (forIn names cs fun (x : Str × NameKind) (r : List (Str × Addr)) => if (x.snd == NameKind.free) = true then do let a ← cellOf env x.fst; pure (ForInStep.yield ((x.fst, a) :: r)) else (pure (ForInStep.yield r) : Sem _)) = (pure cl : Sem _) ∧
      (∀ x c, cl.lookup x = some c → env.cells.lookup x = some c) ∧ ∀ x, ((x, NameKind.free) ∈ names ∨ ∃ c, cs.lookup x = some c) → ∃ c, cl.lookup x = some c
  | [], cs, _, h2 => ⟨cs, rfl, h2, fun x hx => hx.elim (fun z => nomatch z) fun z => z⟩
  | (n, k) :: r, cs, h1, h2 => by
    cases hk : (k == NameKind.free) with
    | true =>
      have ek : k = .free := by simpa using hk
      subst ek
      obtain ⟨c, hc⟩ := h1 n List.mem_cons_self
      obtain ⟨cl, e, a, b⟩ := clos_loop env r ((n, c) :: cs) (fun x hx => h1 x (List.mem_cons_of_mem _ hx)) (fun x d hd => by
        rw [List.lookup_cons] at hd
        cases hx : x == n with
        | true =>
          rw [hx] at hd
          have : x = n := by simpa using hx
          subst this
          cases hd
          exact hc
        | false => rw [hx] at hd; exact h2 x d hd)
      refine ⟨cl, ?_, a, fun x hx => b x ?_⟩
      · rw [← e, List.forIn_cons]
        have hcell : cellOf env n = pure c := by unfold cellOf; rw [hc]
        simp only [hk, if_true]
        rw [hcell]
        rfl
      · rcases hx with hx | ⟨d, hd⟩
        · rcases List.mem_cons.mp hx with q | q
          · cases q
            exact .inr ⟨c, by rw [List.lookup_cons]; simp⟩
          · exact .inl q
        · refine .inr ?_
          rw [List.lookup_cons]
          cases hx : x == n with
          | true => exact ⟨c, rfl⟩
          | false => exact ⟨d, hd⟩
    | false =>
      obtain ⟨cl, e, a, b⟩ := clos_loop env r cs (fun x hx => h1 x (List.mem_cons_of_mem _ hx)) h2
      refine ⟨cl, ?_, a, fun x hx => b x ?_⟩
      · rw [← e, List.forIn_cons]
        simp only [hk, Bool.false_eq_true, if_false]
        rfl
      · rcases hx with hx | hx
        · rcases List.mem_cons.mp hx with q | q
          · cases q
            simp at hk
          · exact .inl q
        · exact .inr hx
theorem clos_ok {scope : Scope} {env : Env} (h1 : ∀ x, (x, NameKind.free) ∈ scope.names → ∃ c, env.cells.lookup x = some c) :
    ∃ cl : List (Str × Addr), closureFor scope env = pure cl ∧ (∀ x c, cl.lookup x = some c → env.cells.lookup x = some c) ∧ ∀ x, (x, NameKind.free) ∈ scope.names → ∃ c, cl.lookup x = some c := by
  obtain ⟨cl, e, a, b⟩ := clos_loop env scope.names [] h1 (fun x c h => by simp at h)
  refine ⟨cl, ?_, a, fun x hx => b x (.inl hx)⟩
  simp only [closureFor]
  rw [e]
  rfl

def Cx.comp (X : Cx) (sc : Scope) (cl : List (Str × Addr)) (C : Addr) (N : List Str) (s : Shared) (H : Hp) (fp : List Addr) : Cx :=
  { X with N := N, s₀ := s, H₀ := H, env := compEnvC sc cl C X.env, outer := X.stack, ex := fp, fn := fun _ => false, pn := [], xe := fun _ _ => False }
def compChk (N : List Str) (osc sc : Scope) (t : Str) (ys : List Str) (js : List Nat) : Bool :=
  sc.kind == .function && sc.names.all (fun y => y.2 != .cell) && sc.names.all (fun y => y.2 != .local || sc.names.lookup y.1 == some .local) &&
  sc.names.all (fun y => y.2 != .free || osc.names.lookup y.1 == some .cell) && (ys.map some == js.map fun j => N[j]?) &&
  ys.all (fun y => sc.names.lookup y == some .free) && sc.names.lookup t == some .local && decide ((t :: ys).Nodup)
structure CompOk (N : List Str) (osc sc : Scope) (t : Str) (ys : List Str) (js : List Nat) : Prop where
  kind : sc.kind = .function
  ncell : ∀ y ∈ sc.names, y.2 ≠ .cell
  loc : ∀ y ∈ sc.names, y.2 = .local → sc.names.lookup y.1 = some .local
  fre : ∀ y ∈ sc.names, y.2 = .free → osc.names.lookup y.1 = some .cell
  ysj : ys.map some = js.map fun j => N[j]?
  ysf : ∀ y ∈ ys, sc.names.lookup y = some .free
  tl : sc.names.lookup t = some .local
  nd : (t :: ys).Nodup
theorem compOk_of {N : List Str} {osc sc : Scope} {t : Str} {ys : List Str} {js : List Nat} (h : compChk N osc sc t ys js = true) : CompOk N osc sc t ys js := by
  unfold compChk at h
  simp only [Bool.and_eq_true, List.all_eq_true, decide_eq_true_eq, Bool.or_eq_true, bne_iff_ne, beq_iff_eq] at h
  obtain ⟨⟨⟨⟨⟨⟨⟨a, b⟩, c⟩, d⟩, e⟩, f⟩, g⟩, i⟩ := h
  exact ⟨a, fun y hy => b y hy, fun y hy z => (c y hy).resolve_left fun q => q z, fun y hy z => (d y hy).resolve_left fun q => q z, e, f, g, i⟩
def compS (js : List Nat) (σ : St) : St := js.map fun j => (σ[j]?).join

theorem relabel_inv {env : Env} {x : Str} : ∀ {names : List (Str × NameKind)} {k : NameKind}, (names.map fun (n, k) => if (k == NameKind.free && env.scope.kind == .function && env.kindOf n == some .cell) then (n, NameKind.cell) else (n, k)).lookup x = some k →
    names.lookup x = some k ∨ (k = .cell ∧ names.lookup x = some .free)
  | [], _, h => by simp at h
  | (n, q) :: r, k, h => by
    have ih := @relabel_inv env x r k
    have h' : List.lookup x ((if (q == NameKind.free && env.scope.kind == .function && env.kindOf n == some .cell) = true then (n, NameKind.cell) else (n, q)) :: _) = some k := h
    cases hx : x == n with
    | true =>
      by_cases hc : (q == NameKind.free && env.scope.kind == .function && env.kindOf n == some .cell) = true
      · rw [if_pos hc] at h'
        simp only [List.lookup_cons, hx] at h' ⊢
        have eq : q = .free := by simp only [Bool.and_eq_true, beq_iff_eq] at hc; exact hc.1.1
        cases h'
        exact .inr ⟨rfl, by rw [eq]⟩
      · rw [if_neg hc] at h'
        simp only [List.lookup_cons, hx] at h' ⊢
        exact .inl h'
    | false =>
      by_cases hc : (q == NameKind.free && env.scope.kind == .function && env.kindOf n == some .cell) = true
      · rw [if_pos hc] at h'
        simp only [List.lookup_cons, hx] at h' ⊢
        exact ih h'
      · rw [if_neg hc] at h'
        simp only [List.lookup_cons, hx] at h' ⊢
        exact ih h'
theorem relabel_free {env : Env} {x : Str} : ∀ {names : List (Str × NameKind)}, names.lookup x = some .free →
    (names.map fun (n, k) => if (k == NameKind.free && env.scope.kind == .function && env.kindOf n == some .cell) then (n, NameKind.cell) else (n, k)).lookup x = some .cell ∨
    (names.map fun (n, k) => if (k == NameKind.free && env.scope.kind == .function && env.kindOf n == some .cell) then (n, NameKind.cell) else (n, k)).lookup x = some .free
  | [], h => by simp at h
  | (n, q) :: r, h => by
    have ih := @relabel_free env x r
    show List.lookup x ((if (q == NameKind.free && env.scope.kind == .function && env.kindOf n == some .cell) = true then (n, NameKind.cell) else (n, q)) :: _) = some .cell ∨ List.lookup x ((if (q == NameKind.free && env.scope.kind == .function && env.kindOf n == some .cell) = true then (n, NameKind.cell) else (n, q)) :: _) = some .free
    cases hx : x == n with
    | true =>
      simp only [List.lookup_cons, hx] at h
      cases h
      by_cases hc : (NameKind.free == NameKind.free && env.scope.kind == .function && env.kindOf n == some .cell) = true
      · rw [if_pos hc]; exact .inl (by simp only [List.lookup_cons, hx])
      · rw [if_neg hc]; exact .inr (by simp only [List.lookup_cons, hx])
    | false =>
      simp only [List.lookup_cons, hx] at h
      by_cases hc : (q == NameKind.free && env.scope.kind == .function && env.kindOf n == some .cell) = true
      · rw [if_pos hc]; simp only [List.lookup_cons, hx]; exact ih h
      · rw [if_neg hc]; simp only [List.lookup_cons, hx]; exact ih h

def PIf (X : Cx) (ifs : List Expr) (t : TT) : Prop :=
  ∀ (pins : List (Addr × Obj)) (s : Shared) (σ : St) (H : Hp) (Q : Bool → Hp → Prop), Inv X pins σ H s → t σ H Q →
    wpAny (model X.prog X.w) X.A (forIn ifs true fun c r => if r = true then do let ok ← isTrue c X.env (eval c X.env); pure (ForInStep.yield ok) else pure (ForInStep.yield r)) (TP X pins σ Q) X.xe s
def tYes : TT := fun _ H Q => Q true H
theorem pif_nil {X : Cx} : PIf X [] tYes := fun _ _ _ H _ I h => wpAny_tests_nil ⟨H, I, h⟩
theorem pif_one {X : Cx} {c : Expr} {t : TT} (h : PT X c t) : PIf X [c] t := fun pins s σ H Q I q => wpAny_tests_one (h pins s σ H Q I q)

theorem comp_turns {prog : Program} {w : World} {A : Around} {R : Result → Shared → Prop} {s : Shared} {elt target iter : Expr} {ifs : List Expr} {scope : Scope} {pos : Pos} {it acc : Value} {env : Env} (J : Nat → Shared → Prop)
    (turn : ∀ n s0, J n s0 → wpAny (model prog w) A (pyNext it) (fun r s1 => match r with
      | none => R (.ok .next) s1
      | some v => wpAny (model prog w) A (letOwnedTupleGo target it v) (fun _ s2 => wpAny (model prog w) A (assign target env v) (fun _ s3 =>
          wpAny (model prog w) A (forIn ifs true fun c r => if r = true then do let ok ← isTrue c env (eval c env); pure (ForInStep.yield ok) else pure (ForInStep.yield r)) (fun ok s4 =>
            if ok = true then wpAny (model prog w) A (eval elt env) (fun x s5 =>
              wpAny (model prog w) A (call (.builtin "list.append") [acc, x]) (fun _ s6 => ∃ m, m < n ∧ J m s6) (fun _ _ => False) s5) (fun _ _ => False) s4
            else ∃ m, m < n ∧ J m s4) (fun _ _ => False) s3) (fun _ _ => False) s2) (fun _ _ => False) s1) (fun _ _ => False) s0)
    (n : Nat) (h : J n s) : codeAny (model prog w) A (.compLoop (.ListComp elt [⟨target, iter, ifs, 0⟩] scope pos) 0 it acc env) R s := by
  have up : ∀ {α : Type} {t : Sem α} {Q Q' : α → Shared → Prop} {E : Value → Shared → Prop} {s0 : Shared}, wpAny (model prog w) A t Q (fun _ _ => False) s0 → (∀ a s', Q a s' → Q' a s') → wpAny (model prog w) A t Q' E s0 :=
    fun h0 hq => wpAny_mono h0 hq fun _ _ z => z.elim
  refine codeAny_loop rfl J ?_ n h
  intro k s0 hJ
  show wpAny _ A ((compTurn (.ListComp elt [⟨target, iter, ifs, 0⟩] scope pos) 0 it acc env).onRaise (fun x => do noteFrame x env; theTreesLotGoes x)) _ _ s0
  refine wpAny_noted ?_
  rw [compTurn_list]
  refine wpAny_bind (wpAny_standAt (wpAny_bind (up (turn k s0 hJ) fun r s1 h1 => ?_)))
  cases r with
  | none => exact wpAny_pure h1
  | some v =>
    refine wpAny_bind (up h1 fun _ s2 h2 => wpAny_bind (up h2 fun _ s3 h3 => wpAny_bind (up h3 fun ok s4 h4 => ?_)))
    cases ok with
    | false => exact wpAny_pure ⟨rfl, h4⟩
    | true => exact wpAny_bind (wpAny_bind (up h4 fun x s5 h5 => wpAny_bind (up h5 fun _ s6 h6 => wpAny_pure (wpAny_pure ⟨rfl, h6⟩))))

def CompW (J : It) (js : List Nat) (tc : TT) (te : TE) (σ : St) (Q : VK) (D : Addr) (H1 : Hp) : Prop := ∃ W : Nat → Nat → List V → Hp → Prop, (∃ m, W 0 m [] (upd H1 D (.lst []))) ∧
  ∀ i m acc H, W i m acc H → H D = some (.lst acc) ∧ acc.length < sizeLine ∧ ((J.stop i H ∧ Q (.ref D) H) ∨ (J.go i H ∧ ∀ x H', J.yld i H x H' → tc (some x :: compS js σ) H' fun c H3 =>
    if c = true then te (some x :: compS js σ) H3 fun y H4 => H4 D = some (.lst acc) ∧ ∃ m', m' < m ∧ W (i + 1) m' (acc ++ [y]) (upd H4 D (.lst (acc ++ [y]))) else ∃ m', m' < m ∧ W (i + 1) m' acc H3))
def tComp (wi : TI) (js : List Nat) (tc : TT) (te : TE) : TE := fun σ H Q => wi σ H fun J H1 => ∀ D, H1 D = none → CompW J js tc te σ Q D H1

theorem pe_comp {X : Cx} {elt iter : Expr} {ifs : List Expr} {sc : Scope} {pos px : Pos} {t : Str} {ys : List Str} {js : List Nat} {wi : TI} {tc : TT} {te : TE} (hc : X.calm = true) (hck : compChk X.N X.env.scope sc t ys js = true)
    (hi : PI X (.Name t px) iter wi) (hf : ∀ cl C s H fp, PIf (X.comp sc cl C (t :: ys) s H fp) ifs tc) (he : ∀ cl C s H fp, PE (X.comp sc cl C (t :: ys) s H fp) elt te)
    (hs : ∀ x, foldedSetIterable iter X.env x = pure x := by intro _; rfl) : PE X (.ListComp elt [⟨.Name t px, iter, ifs, 0⟩] sc pos) (tComp wi js tc te) := by
  have ck := compOk_of hck
  intro pins s σ H Q I h
  have hfr : ∀ x, (x, NameKind.free) ∈ sc.names → ∃ c, X.env.cells.lookup x = some c := fun x hx => I.ok.has x (.inl (ck.fre _ hx rfl))
  obtain ⟨cl, hcl, cl1, cl2⟩ := clos_ok hfr
  rw [eval_ListComp]
  refine wpAny_comprehension_free (use := none) rfl hs hcl ck.kind ck.loc (thn (hi pins s σ H _ I h) fun v s1 h1 => thn h1 fun itv s2 h2 => ?_)
  obtain ⟨it, fp, tn, J, H2, e, I2, T, st2, f2, hR⟩ := h2
  subst e
  refine wpAny_newObj_type (wpAny_newFunctionEnv ck.ncell (by intro y hy; simp at hy) (fun h1 hns hsb => ?_) ck.kind)
  dsimp only at hns hsb ⊢
  generalize hp : s2.heap.push { cls := .type "list", dict := none, data := .seq ([] : List Value).toArray } = hh at hns hsb ⊢
  have hC : hh.objs.size = s2.heap.objs.size + 1 := by rw [← hp, Heap.size_push]
  have neD : ∀ {b : Addr}, b < s2.heap.objs.size → b ≠ s2.heap.objs.size := fun hb => Nat.ne_of_lt hb
  have neC : ∀ {b : Addr}, b < s2.heap.objs.size → b ≠ hh.objs.size := fun hb => by rw [hC]; exact Nat.ne_of_lt (Nat.lt_succ_of_lt hb)
  have hDC : s2.heap.objs.size ≠ hh.objs.size := by rw [hC]; exact Nat.ne_of_lt (Nat.lt_succ_self _)
  have hCle : s2.heap.objs.size ≤ hh.objs.size := by rw [hC]; exact Nat.le_succ _
  have old : ∀ b o, s2.heap.get? b = some o → h1.get? b = some o := fun b o e => hsb.extBut b o (neC (Heap.lt_size e)) (Heap.get?_push_of_some _ (hp ▸ Heap.get?_push_of_some _ e))
  have hnew : h1.get? s2.heap.objs.size = some { cls := .type "list", dict := none, data := .seq ([] : List Value).toArray } := hsb.extBut _ _ hDC (Heap.get?_push_of_some _ (hp ▸ Heap.get?_push_size _ rfl))
  have fpH : ∀ b ∈ fp, ∃ o, s2.heap.get? b = some o := fun b hb => let ⟨o, e, _⟩ := T.obj 0 _ st2 b hb; ⟨o, e⟩
  have fpD : ∀ b ∈ fp, b ≠ s2.heap.objs.size := fun b hb => by obtain ⟨o, e⟩ := fpH b hb; exact neD (Heap.lt_size e)
  have fpC : ∀ b ∈ fp, b ≠ hh.objs.size := fun b hb => by obtain ⟨o, e⟩ := fpH b hb; exact neC (Heap.lt_size e)
  have fpS : ∀ b ∈ fp, b ∉ frs X.stack := fun b hb z => (List.mem_cons.mp (I2.stkSub b z)).elim (f2 b hb).2.1 (f2 b hb).2.2.1
  have hok' : (X.comp sc cl hh.objs.size (t :: ys) s2 H2 fp).Ok := by
    refine ⟨I2.ok.mod, ck.kind, I2.ok.glob, I2.ok.blt, hCle, fun x y c a b => I2.ok.inj x y c (cl1 x c a) (cl1 y c b), fun x hx => ?_, (fun x c z => nomatch z), I2.ok.hd, I2.ok.frames, .inl rfl, fun b hb => ⟨fpC b hb, fun x c a => (f2 b hb).2.2.2.2.1 x c (cl1 x c a)⟩,
      I2.bs, Nat.le_trans I2.ok.bsz I2.sz, fun b o e hb => ?_, fun b hb => fpS b hb, I2.stack, I2.stkFree⟩
    · have hx' : (sc.names.map fun (n, k) => if (k == NameKind.free && X.env.scope.kind == .function && X.env.kindOf n == some .cell) then (n, NameKind.cell) else (n, k)).lookup x = some .cell ∨ (sc.names.map fun (n, k) => if (k == NameKind.free && X.env.scope.kind == .function && X.env.kindOf n == some .cell) then (n, NameKind.cell) else (n, k)).lookup x = some .free := hx
      rcases hx' with z | z
      · rcases relabel_inv z with q | ⟨_, q⟩
        · exact absurd rfl (ck.ncell _ (PySem.mem_of_lookup q))
        · exact cl2 x (PySem.mem_of_lookup q)
      · rcases relabel_inv z with q | ⟨q, _⟩
        · exact cl2 x (PySem.mem_of_lookup q)
        · cases q
    · rcases (f2 b hb).2.2.2.1 with z | z
      · exact I2.ok.noex b o e z
      · exact absurd (Nat.lt_of_lt_of_le (Heap.lt_size e) (Nat.le_trans I2.ok.bsz z)) (Nat.lt_irrefl _)
  have Iin : ∀ tk : Nat, Inv (X.comp sc cl hh.objs.size (t :: ys) s2 H2 fp) [] (none :: compS js σ) (upd H2 s2.heap.objs.size (.lst [])) { s2 with heap := h1, toks := tk } := fun tk => by
    refine ⟨hok', rfl, I2.bare, Un.laid old (Nat.le_refl _) I2.fresh, ⟨_, hns, fun i x v e1 e2 e3 => ?_⟩, fun x c e => ?_, ?_, fun x c e => ?_, fun p hp => absurd (show p ∈ ([] : List (Addr × Obj)) from hp) (by simp), I2.hok.laid old (Nat.le_refl _) ⟨Nat.zero_le _, [], 0, .nil, hnew⟩, ?_⟩
    · cases i with
      | zero => simp at e2
      | succ k =>
        have e1' : ys[k]? = some x := e1
        have e2' : (compS js σ)[k]? = some (some v) := by simpa using e2
        unfold compS at e2'
        rw [List.getElem?_map] at e2'
        have q := congrArg (fun l => l[k]?) ck.ysj
        simp only [List.getElem?_map, e1', Option.map_some] at q
        cases hj : js[k]? with
        | none => rw [hj] at q; cases q
        | some j =>
          rw [hj] at q e2'
          have q1 : X.N[j]? = some x := (Option.some.inj q).symm
          have q2 : σ[j]? = some (some v) := by
            have z : (σ[j]?).join = some v := Option.some.inj e2'
            cases hz : σ[j]? with
            | none => rw [hz] at z; cases z
            | some y => rw [hz] at z; exact congrArg some z
          have hf' := ck.ysf x (List.mem_of_getElem? e1')
          have hcell := ck.fre _ (PySem.mem_of_lookup hf') rfl
          obtain ⟨m2, hn2, hl2⟩ := I2.loc
          obtain ⟨u, ru, lk⟩ := hl2 j x v q1 q2 (.inr (.inl hcell))
          refine ⟨u, ru, ?_⟩
          rcases lk with ⟨kk, _⟩ | ⟨_, c, ec, ic⟩
          · have kk' : X.env.scope.names.lookup x = some .local := kk
            have hcell' : X.env.scope.names.lookup x = some .cell := hcell
            rw [hcell'] at kk'; cases kk'
          · obtain ⟨c', ec'⟩ := cl2 x (PySem.mem_of_lookup hf')
            have : c' = c := Option.some.inj ((cl1 x c' ec').symm.trans ec)
            subst this
            refine .inr ⟨relabel_free hf', c', ec', ?_⟩
            obtain ⟨o, ho, hd⟩ := ic
            exact ⟨o, old _ o ho, hd⟩
    · obtain ⟨v, o, ho, hd⟩ := I2.cell x c (cl1 x c e)
      exact ⟨v, o, old _ o ho, hd⟩
    · show upd H2 s2.heap.objs.size _ hh.objs.size = none
      rw [upd_ne (Ne.symm hDC)]
      exact I2.hok.fresh hCle
    · obtain ⟨v, o, ho, hd⟩ := I2.cell x c (cl1 x c e)
      rw [upd_ne (neD (Heap.lt_size ho))]
      exact I2.freeC x c (cl1 x c e)
    · show (none :: compS js σ).length = (t :: ys).length
      have q := congrArg List.length ck.ysj
      simp only [List.length_map] at q
      unfold compS
      simp only [List.length_cons, List.length_map]
      omega
  have st1 : tn 0 h1 := T.keep _ _ _ st2 fun b hb o e => old b o e
  obtain ⟨W, ⟨m0, w0⟩, turn⟩ := hR s2.heap.objs.size I2.fresh
  have fpok : ∀ {H' : Hp}, (∀ b ∈ fp, H' b = none) → ∀ b ∈ fp, FpOk (X.comp sc cl hh.objs.size (t :: ys) s2 H2 fp) [] H' b := fun hn b hb =>
    ⟨hn b hb, fpC b hb, fpS b hb, .inl hb, fun x c a => (f2 b hb).2.2.2.2.1 x c (cl1 x c a), fun p hp => absurd (show p ∈ ([] : List (Addr × Obj)) from hp) (by simp)⟩
  have ndN : (t :: ys).Nodup := ck.nd
  have loop : ∀ s3 : Shared, s3 = { s2 with heap := h1, toks := s2.toks + ([] : List (Str × Value)).length } →
      codeAny (model X.prog X.w) X.A (.compLoop (.ListComp elt [⟨.Name t px, iter, ifs, 0⟩] sc pos) 0 (.ref it) (.ref s2.heap.objs.size) (compEnvC sc cl hh.objs.size X.env))
        (compPost (model X.prog X.w) X.A X.xe none (EP X pins σ Q) (.ref s2.heap.objs.size) hh.objs.size) s3 := by
    rintro s3 rfl
    refine comp_turns (fun n s' => ∃ i acc H', Inv (X.comp sc cl hh.objs.size (t :: ys) s2 H2 fp) [] (none :: compS js σ) H' s' ∧ tn i s'.heap ∧ (∀ b ∈ fp, H' b = none) ∧ W i n acc H') ?_ m0
      ⟨0, [], _, Iin _, st1, fun b hb => by rw [upd_ne (fpD b hb)]; exact (f2 b hb).1, w0⟩
    rintro n s3 ⟨i, acc, H3, I3, st3, fr3, w3⟩
    obtain ⟨hD, hz, alt⟩ := turn i n acc H3 w3
    rcases alt with ⟨stop, q⟩ | ⟨go, step⟩
    · refine thn (T.done (X.comp sc cl hh.objs.size (t :: ys) s2 H2 fp) rfl rfl rfl hc i [] s3 _ H3 _ I3 (fpok fr3) st3 stop) fun r s4 ⟨hr, I4⟩ => ?_
      subst hr
      obtain ⟨m, hn, _⟩ := id I4.loc
      refine ⟨m, hn, fun h' sb => ⟨.ref s2.heap.objs.size, H3, ?_, rfl, q⟩⟩
      have ltC : ∀ b o, s2.heap.get? b = some o → b ≠ hh.objs.size := fun b o e => neC (Heap.lt_size e)
      have b4 : Un (frs X.stack) fp H2 H3 s2.heap s4.heap := I4.base
      refine I2.call' (s' := { s4 with heap := h' }) (ch := fp) I4.os ⟨fun b o e n1 n2 n3 => (sb.2 b (ltC b o e)).trans (b4.keep b o e n1 n2 n3), fun b o e n1 n2 n3 => ?_, b4.free, fun b o e n1 => ?_, b4.tups, b4.frzs, b4.tbls⟩ (fun b ob e => ?_) I4.bare
        (fun b hb => ⟨(f2 b hb).2.2.2.1, (f2 b hb).2.1, (f2 b hb).2.2.2.2.1, (f2 b hb).2.2.2.2.2⟩)
      · obtain ⟨sl, e1⟩ := b4.slot b o e n1 n2 n3
        exact ⟨sl, (sb.2 b (ltC b o e)).trans e1⟩
      · obtain ⟨o', e1⟩ := b4.there b o e n1
        exact ⟨o', (sb.2 b (ltC b o e)).trans e1⟩
      · have hfree : H3 hh.objs.size = none := I4.free
        refine (I4.hok b ob e).stay (fun c w' hc' q' => (sb.2 c ?_).trans q') (fun _ q' => q') fun _ _ q' => q'
        rintro rfl
        rcases hc' with rfl | hc'
        · rw [hfree] at e; cases e
        · rw [hfree] at hc'; cases hc'
    · refine thn (T.item (X.comp sc cl hh.objs.size (t :: ys) s2 H2 fp) rfl rfl rfl hc i [] s3 _ H3 _ I3 (fpok fr3) st3 go) fun r s4 ⟨u, hr, h4⟩ => ?_
      subst hr
      refine thn h4 fun _ s5 ⟨x, H5, I5, r5, y5, st5, fr5⟩ => ?_
      have I5' := I5.pinned (fpok fr5) (T.obj _ _ st5)
      refine wpAny_assign_Name (store_ok (i := 0) I5' ndN rfl (.inl (lookup_relabel_local ck.tl)) r5 (fun s6 I6 => ?_) (.inr (lookup_relabel_local ck.tl)))
      have again : ∀ {H7 : Hp} {s7 : Shared} {m' : Nat} {acc' : List V}, Inv (X.comp sc cl hh.objs.size (t :: ys) s2 H2 fp) ([] ++ pinsAt fp s5.heap) (some x :: compS js σ) H7 s7 → m' < n → W (i + 1) m' acc' H7 →
          ∃ m, m < n ∧ ∃ i acc H', Inv (X.comp sc cl hh.objs.size (t :: ys) s2 H2 fp) [] (none :: compS js σ) H' s7 ∧ tn i s7.heap ∧ (∀ b ∈ fp, H' b = none) ∧ W i m acc H' := fun {H7 s7 m' acc'} I7 hm w7 => by
        refine ⟨m', hm, i + 1, acc', H7, (I7.unpinned).weak rfl (fun k v e => ?_), T.keep _ _ _ st5 fun b hb o e => (I7.pin (b, o) (List.mem_append_right _ (List.mem_append_right _ (mem_pinsAt hb e)))).1, fun b hb => ?_, w7⟩
        · cases k with
          | zero => simp at e
          | succ k => simpa using e
        · obtain ⟨o, e, d⟩ := T.obj _ _ st5 b hb
          exact (I7.pin (b, o) (List.mem_append_right _ (List.mem_append_right _ (mem_pinsAt hb e)))).2.1
      refine thn (hf _ _ _ _ _ _ s6 _ H5 _ I6 (step x H5 y5)) fun ok s7 ⟨H7, I7, q7⟩ => ?_
      cases ok with
      | false =>
        obtain ⟨m', hm, w7⟩ := q7
        exact again I7 hm w7
      | true =>
        refine thn (he _ _ _ _ _ _ s7 _ H7 _ I7 q7) fun uy s8 ⟨y, H8, I8, r8, hD8, m', hm, w8⟩ => ?_
        refine thn (mt_append (X := X.comp sc cl hh.objs.size (t :: ys) s2 H2 fp) _ s8 _ H8 (.ref s2.heap.objs.size) [y] (.ref s2.heap.objs.size) [uy] (fun _ H9 => W (i + 1) m' (acc ++ [y]) H9) I8 rfl (.cons r8 .nil) ⟨_, acc, y, rfl, rfl, hD8, hz, w8⟩) fun _ s9 ⟨_, H9, I9, _, q9⟩ => ?_
        exact again I9 hm q9
  exact codeAny_compStart_list (loop _ rfl) (T.self _ 0 _ _ _ st1 (loop _ rfl))
theorem cstep {n i m : Nat} {A B : Prop} (hi : i < n) (hm : m = n - i) (a : A) (b : B) : A ∧ ∃ m', m' < m ∧ (m' = n - (i + 1) ∧ i + 1 ≤ n ∧ B) := ⟨a, n - (i + 1), by omega, rfl, hi, b⟩
theorem comp_lst {K : PySem.W.Frag} {a : Addr} {xs : List V} {js : List Nat} {te : TE} {σ : St} {Q : VK} {D : Addr} {H1 : Hp} (Pv : Nat → List V → Hp → Prop) (hz : xs.length < sizeLine) (h0 : Pv 0 [] (upd H1 D (.lst [])))
    (hl : ∀ i acc H, Pv i acc H → H D = some (.lst acc) ∧ acc.length = i ∧ SqL K H a xs)
    (hs : ∀ i m x acc H, xs[i]? = some x → Pv i acc H → m = xs.length - i → te (some x :: compS js σ) H fun y H4 => H4 D = some (.lst acc) ∧ ∃ m', m' < m ∧ (m' = xs.length - (i + 1) ∧ i + 1 ≤ xs.length ∧ Pv (i + 1) (acc ++ [y]) (upd H4 D (.lst (acc ++ [y])))))
    (hd : ∀ acc H, Pv xs.length acc H → Q (.ref D) H) : CompW (Itl K a) js tYes te σ Q D H1 := by
  refine ⟨fun i m acc H => m = xs.length - i ∧ i ≤ xs.length ∧ Pv i acc H, ⟨xs.length, by simp, Nat.zero_le _, h0⟩, ?_⟩
  rintro i m acc H ⟨hm, hi, p⟩
  obtain ⟨hD, hlen, hq⟩ := hl i acc H p
  refine ⟨hD, by omega, ?_⟩
  by_cases hlt : i < xs.length
  · refine .inr ⟨⟨xs, xs[i], hq, by simp [hlt]⟩, fun x H' y => ?_⟩
    obtain ⟨e, y⟩ := y
    subst e
    unfold tYes
    dsimp only
    rw [if_pos rfl]
    exact hs i m x acc _ (y xs hq) p hm
  · have e : i = xs.length := by omega
    subst e
    exact .inl ⟨⟨xs, hq, Nat.le_refl _⟩, hd acc H p⟩
theorem comp_tpl {K : PySem.W.Frag} {a : Addr} {xs : List V} {js : List Nat} {te : TE} {σ : St} {Q : VK} {D : Addr} {H1 : Hp} (Pv : Nat → List V → Hp → Prop) (hz : xs.length < sizeLine) (h0 : Pv 0 [] (upd H1 D (.lst [])))
    (hl : ∀ i acc H, Pv i acc H → H D = some (.lst acc) ∧ acc.length = i ∧ SqT K H a xs)
    (hs : ∀ i m x acc H, xs[i]? = some x → Pv i acc H → m = xs.length - i → te (some x :: compS js σ) H fun y H4 => H4 D = some (.lst acc) ∧ ∃ m', m' < m ∧ (m' = xs.length - (i + 1) ∧ i + 1 ≤ xs.length ∧ Pv (i + 1) (acc ++ [y]) (upd H4 D (.lst (acc ++ [y])))))
    (hd : ∀ acc H, Pv xs.length acc H → Q (.ref D) H) : CompW (Itt K a) js tYes te σ Q D H1 := by
  refine ⟨fun i m acc H => m = xs.length - i ∧ i ≤ xs.length ∧ Pv i acc H, ⟨xs.length, by simp, Nat.zero_le _, h0⟩, ?_⟩
  rintro i m acc H ⟨hm, hi, p⟩
  obtain ⟨hD, hlen, hq⟩ := hl i acc H p
  refine ⟨hD, by omega, ?_⟩
  by_cases hlt : i < xs.length
  · refine .inr ⟨⟨xs, xs[i], hq, by simp [hlt]⟩, fun x H' y => ?_⟩
    obtain ⟨e, y⟩ := y
    subst e
    unfold tYes
    dsimp only
    rw [if_pos rfl]
    exact hs i m x acc _ (y xs hq) p hm
  · have e : i = xs.length := by omega
    subst e
    exact .inl ⟨⟨xs, hq, Nat.le_refl _⟩, hd acc H p⟩
end L2
set_option Elab.async false
set_option linter.all false
set_option maxRecDepth 100000
set_option maxHeartbeats 4000000
namespace L2
open PySem PySem.Spec PyProof.Rows
section
variable {X : Cx}
def rSlS : V → Option Int → Option Int → Hp → VK → Prop := fun x lo hi H Q => ∃ z, x = .str z ∧ z.length ≤ sizeLine ∧ Q (.str (Txt.slice z lo hi)) H
theorem sl_str : SlR X rSlS := by
  intro pins s σ H x v vl vu lo hi sl Q I rx hs pl pu h
  obtain ⟨z, rfl, hz, q⟩ := h
  obtain ⟨t, rfl⟩ := rx
  have fin : ∀ (c : Prop) [Decidable c] (y w : Str), (if c then y else w) = Txt.slice z lo hi → (if c then Made.val (.str y t) else Made.str w).post (EP X pins σ Q) s := fun c _ y w e =>
    post_val_or_str ⟨by rw [e]; exact Nat.le_trans (Txt.slice_le z _ _) hz, fun t' k => by rw [e]; exact ⟨.str _, H, I.tok k, ⟨t', rfl⟩, q⟩⟩
  refine ⟨"str", _, F.slot_str_getitem.lookup, typeIs_str _ _ _, ?_⟩
  cases pl with
  | none =>
    cases pu with
    | none => exact wpAny_getItem_str_slice (l := none) (u := none) (st := none) hs rfl (fin _ _ _ rfl)
    | int j tj => exact wpAny_getItem_str_slice (l := none) (u := some (j, tj)) (st := none) hs rfl (fin _ _ _ rfl)
  | int i ti =>
    cases pu with
    | none => exact wpAny_getItem_str_slice (l := some (i, ti)) (u := none) (st := none) hs rfl (fin _ _ _ rfl)
    | int j tj => exact wpAny_getItem_str_slice (l := some (i, ti)) (u := some (j, tj)) (st := none) hs rfl (fin _ _ _ rfl)
theorem strsAre_of : ∀ {ys : List Str} {us : List Value}, Vals (ys.map V.str) us → StrsAre us ys := by
  intro ys
  induction ys with
  | nil => intro us r; rw [List.map_nil] at r; cases r; exact .nil
  | cons n ns ih =>
    intro us r
    rw [List.map_cons] at r
    cases r with
    | cons r1 r2 =>
      obtain ⟨t, e⟩ := r1
      subst e
      exact .cons n t (ih r2)
def rJoin (K : PySem.W.Frag) : V → List V → Hp → VK → Prop := fun x vs H Q => ∃ z l ys, x = .str z ∧ vs = [.ref l] ∧ SqL K H l (ys.map V.str) ∧ (ys.map (·.length)).sum + ys.length * z.length ≤ 16777216 ∧ Q (.str (Txt.join z ys)) H
theorem mt_join : MtR X "str.join" (rJoin X.K) := by
  intro pins s σ H x vs v us Q I rx rv h
  obtain ⟨z, l, ys, rfl, rfl, hq, hz, q⟩ := h
  obtain ⟨t, rfl⟩ := rx
  obtain ⟨u, rfl, ru⟩ := rv.one
  cases ru
  obtain ⟨its, r, p, _⟩ := I.list hq
  exact join_list p.isList (strsAre_of (by simpa using r)) hz fun t' k => ⟨.str _, H, I.tok k, ⟨t', rfl⟩, q⟩
theorem same_new {H : Hp} {p : Addr} (h : H p = none) (o : HO) : Same H (upd H p o) := fun b u q => by rw [upd_ne (ne_of_none q h)]; exact q
theorem Same.tupS {K : PySem.W.Frag} {H H' : Hp} {a : Addr} {xs : List V} (e : Same H H') (h : SqT K H a xs) : SqT K H' a xs := by
  rcases h with (h | ⟨o, h⟩) | h
  · exact .inl (.inl (e _ _ h))
  · exact .inl (.inr ⟨o, e _ _ h⟩)
  · exact .inr h
def rCatA : R2 := fun x y H Q => ∃ a b xs ys, x = .ref a ∧ y = .ref b ∧ H a = some (.tup xs) ∧ H b = some (.tup ys) ∧ xs.length + ys.length ≤ sizeLine ∧
  ∀ p H', Same H H' → H' p = some (.tup (xs ++ ys)) → Q (.ref p) H'
theorem cat_tup0 {prog : Program} {w : World} {A : Around} {E : Value → Shared → Prop} {s : Shared} {t b : Addr} {vs ws : List Value} {Q : Value → Shared → Prop} (ht : IsTup s.heap t vs.toArray) (hb : IsTup s.heap b ws.toArray) (hv : vs = []) (h : Q (.ref b) s) :
    wpAny (model prog w) A (binaryOp .Add (.ref t) (.ref b)) Q E s := by
  obtain ⟨⟨cls, dd, data, sl⟩, ho, hc, n, hd⟩ := id ht
  obtain ⟨⟨cls2, dd2, data2, sl2⟩, ho2, hc2, n2, hd2⟩ := id hb
  simp only at hc hd hc2 hd2
  subst hc hd hc2 hd2
  refine concat_meets ⟨_, ho, rfl⟩ ⟨_, ho2, rfl⟩ noFill_tuple_add seq_tuple_add PySem.F.slot_tuple_add PySem.F.entry_tuple_add (PySem.F.args_tuple_add_2 _ _) (tuple_addW0 t b vs.toArray ws.toArray n n2 dd dd2 sl sl2 (by simp [hv])) ⟨ho, ho2, h⟩
theorem op_catA : OpR X (binaryOp .Add) rCatA := by
  intro pins s σ H x y v u Q I rx ry h
  obtain ⟨a, b, xs, ys, e1, e2, ha, hb, hz, q⟩ := h
  by_cases hx : xs = []
  · subst e1 e2 hx
    cases rx
    cases ry
    obtain ⟨its, r1, p1, _⟩ := I.tuple (.of ha)
    obtain ⟨its2, r2, p2, _⟩ := I.tuple (.of hb)
    exact cat_tup0 p1 p2 (by cases r1; rfl) ⟨.ref b, H, I, rfl, q b H (Same.refl H) hb⟩
  · refine op_catT pins s σ H x y v u Q I rx ry ⟨a, b, xs, ys, e1, e2, .of ha, .of hb, hx, hz, fun hy => q a H (Same.refl H) (by rw [hy, List.append_nil]; exact ha), fun _ p hp => q p _ (same_new hp _) upd_same⟩
end
end L2
set_option Elab.async false
set_option linter.all false
set_option maxRecDepth 100000
set_option maxHeartbeats 4000000
namespace L2
open PySem PySem.Spec PyProof.Rows
section
variable {X : Cx}
theorem call_isinst : CallR X (.builtin "isinstance") (fun xs H Q => ∃ x T t b, xs = [x, .ty T] ∧ TyOf X.K H x t ∧ PySem.W.kitOne X.K t (.type T) = some b ∧ Q (.bl b) H) := by
  intro pins s σ H xs us Q I r h
  obtain ⟨x, T, t, b, rfl, ty, e, q⟩ := h
  obtain ⟨u, w, rfl, ru, rw'⟩ := vals2 r
  cases rw'
  exact isinst_ok I ru ty e fun tk => ⟨.bl b, H, I.tok tk, rfl, q⟩
end
end L2
set_option Elab.async false
set_option linter.all false
namespace L2
open PySem PySem.Spec PyProof.Rows
section
variable {X : Cx} {es : List Expr} {te : TE} {t : TA} {env : Env}
theorem starT {a : List Expr} {k : Nat} {p : Pos} : starEach (.Tuple a k p :: es) env = (false, eval (.Tuple a k p) env) :: starEach es env := by first | rfl | (rw [starEach]; intro _ _ z; cases z)
theorem paT {a : List Expr} {k : Nat} {p : Pos} (ha : PE X (.Tuple a k p) te) (hr : PA X es t) : PA X (.Tuple a k p :: es) (tCons te t) := pa_cons ha hr starT
theorem starL {a : List Expr} {p : Pos} : starEach (.List a p :: es) env = (false, eval (.List a p) env) :: starEach es env := by first | rfl | (rw [starEach]; intro _ _ z; cases z)
theorem paL {a : List Expr} {p : Pos} (ha : PE X (.List a p) te) (hr : PA X es t) : PA X (.List a p :: es) (tCons te t) := pa_cons ha hr starL
theorem starC {c : Const} {k : Nat} {p : Pos} : starEach (.Constant c k p :: es) env = (false, eval (.Constant c k p) env) :: starEach es env := by first | rfl | (rw [starEach]; intro _ _ z; cases z)
theorem paC {c : Const} {k : Nat} {p : Pos} (ha : PE X (.Constant c k p) te) (hr : PA X es t) : PA X (.Constant c k p :: es) (tCons te t) := pa_cons ha hr starC
theorem starN {x : Str} {p : Pos} : starEach (.Name x p :: es) env = (false, eval (.Name x p) env) :: starEach es env := by first | rfl | (rw [starEach]; intro _ _ z; cases z)
theorem paN {x : Str} {p : Pos} (ha : PE X (.Name x p) te) (hr : PA X es t) : PA X (.Name x p :: es) (tCons te t) := pa_cons ha hr starN
theorem starB {l r : Expr} {o : Operator} {p : Pos} : starEach (.BinOp l o r p :: es) env = (false, eval (.BinOp l o r p) env) :: starEach es env := by first | rfl | (rw [starEach]; intro _ _ z; cases z)
theorem paB {l r : Expr} {o : Operator} {p : Pos} (ha : PE X (.BinOp l o r p) te) (hr : PA X es t) : PA X (.BinOp l o r p :: es) (tCons te t) := pa_cons ha hr starB
theorem starS {v i : Expr} {p : Pos} : starEach (.Subscript v i p :: es) env = (false, eval (.Subscript v i p) env) :: starEach es env := by first | rfl | (rw [starEach]; intro _ _ z; cases z)
theorem paS {v i : Expr} {p : Pos} (ha : PE X (.Subscript v i p) te) (hr : PA X es t) : PA X (.Subscript v i p :: es) (tCons te t) := pa_cons ha hr starS
theorem starK {f : Expr} {a : List Expr} {k : List Keyword} {p : Pos} : starEach (.Call f a k p :: es) env = (false, eval (.Call f a k p) env) :: starEach es env := by first | rfl | (rw [starEach]; intro _ _ z; cases z)
theorem paK {f : Expr} {a : List Expr} {k : List Keyword} {p : Pos} (ha : PE X (.Call f a k p) te) (hr : PA X es t) : PA X (.Call f a k p :: es) (tCons te t) := pa_cons ha hr starK
theorem starM {l : Expr} {o : List CmpOp} {c : List Expr} {p : Pos} : starEach (.Compare l o c p :: es) env = (false, eval (.Compare l o c p) env) :: starEach es env := by first | rfl | (rw [starEach]; intro _ _ z; cases z)
theorem paM {l : Expr} {o : List CmpOp} {c : List Expr} {p : Pos} (ha : PE X (.Compare l o c p) te) (hr : PA X es t) : PA X (.Compare l o c p :: es) (tCons te t) := pa_cons ha hr starM
theorem starU {o : UnaryOp} {v : Expr} {p : Pos} : starEach (.UnaryOp o v p :: es) env = (false, eval (.UnaryOp o v p) env) :: starEach es env := by first | rfl | (rw [starEach]; intro _ _ z; cases z)
theorem paU {o : UnaryOp} {v : Expr} {p : Pos} (ha : PE X (.UnaryOp o v p) te) (hr : PA X es t) : PA X (.UnaryOp o v p :: es) (tCons te t) := pa_cons ha hr starU
theorem starE {e : Expr} {g : List Comprehension} {s : Scope} {p : Pos} : starEach (.ListComp e g s p :: es) env = (false, eval (.ListComp e g s p) env) :: starEach es env := by first | rfl | (rw [starEach]; intro _ _ z; cases z)
theorem paE {e : Expr} {g : List Comprehension} {s : Scope} {p : Pos} (ha : PE X (.ListComp e g s p) te) (hr : PA X es t) : PA X (.ListComp e g s p :: es) (tCons te t) := pa_cons ha hr starE
theorem starJ {v : List Expr} {p : Pos} : starEach (.JoinedStr v p :: es) env = (false, eval (.JoinedStr v p) env) :: starEach es env := by first | rfl | (rw [starEach]; intro _ _ z; cases z)
theorem paJ {v : List Expr} {p : Pos} (ha : PE X (.JoinedStr v p) te) (hr : PA X es t) : PA X (.JoinedStr v p :: es) (tCons te t) := pa_cons ha hr starJ
theorem starA {v : Expr} {n : Str} {p : Pos} : starEach (.Attribute v n p :: es) env = (false, eval (.Attribute v n p) env) :: starEach es env := by first | rfl | (rw [starEach]; intro _ _ z; cases z)
theorem paA {v : Expr} {n : Str} {p : Pos} (ha : PE X (.Attribute v n p) te) (hr : PA X es t) : PA X (.Attribute v n p :: es) (tCons te t) := pa_cons ha hr starA
end
end L2
set_option Elab.async false
set_option linter.all false
set_option maxRecDepth 100000
set_option maxHeartbeats 4000000
namespace L2
open PySem PySem.Spec PyProof.Rows
abbrev Big : Int := 1000000000000000000
theorem iteY {c : Bool} {A B : Prop} (h : c = true) (q : A) : if c = true then A else B := by rw [if_pos h]; exact q
theorem iteYd {p : Prop} [Decidable p] {A B : Prop} (h : p) (q : A) : if decide p = true then A else B := by rw [if_pos (decide_eq_true h)]; exact q
theorem iteNd {p : Prop} [Decidable p] {A B : Prop} (h : ¬ p) (q : B) : if decide p = true then A else B := by rw [if_neg (by rw [decide_eq_false h]; decide)]; exact q
theorem iteDd {p : Prop} [Decidable p] {A B : Prop} (h1 : p → A) (h2 : ¬ p → B) : if decide p = true then A else B := by
  by_cases h : p
  · exact iteYd h (h1 h)
  · exact iteNd h (h2 h)
section
variable {K : PySem.W.Frag}
theorem k_ss : PySem.W.kitOne K (.type "str") (.type "str") = some true := by with_unfolding_all rfl
theorem k_ts : PySem.W.kitOne K (.type "tuple") (.type "str") = some false := by with_unfolding_all rfl
theorem k_is' : PySem.W.kitOne K (.type "int") (.type "str") = some false := by with_unfolding_all rfl
theorem k_tt : PySem.W.kitOne K (.type "tuple") (.type "tuple") = some true := by with_unfolding_all rfl
theorem k_it : PySem.W.kitOne K (.type "int") (.type "tuple") = some false := by with_unfolding_all rfl
theorem k_ii : PySem.W.kitOne K (.type "int") (.type "int") = some true := by with_unfolding_all rfl
theorem k_ib : PySem.W.kitOne K (.type "int") (.type "bool") = some false := by with_unfolding_all rfl
theorem isds_nil {H : Hp} : Isds K H [] [] := by unfold Isds; rfl
theorem isds_cons {H : Hp} {d : Da} {ds : List Da} {v : V} {vs : List V} (h : Isd K H d v) (t : Isds K H ds vs) : Isds K H (d :: ds) (v :: vs) := by unfold Isds; exact ⟨_, _, rfl, h, t⟩
end
theorem fits2 {n : Nat} (h : n ≤ 100000) : n ≤ sizeLine := Nat.le_trans h (by decide)
theorem fitsL {n : Nat} (h : n ≤ 100000) : n < sizeLine := Nat.lt_of_le_of_lt h (by decide)
theorem same_upd {H H' : Hp} {D : Addr} {o : HO} (hn : H D = none) (s : Same H H') : Same H (upd H' D o) := fun b u q => by rw [upd_ne (ne_of_none q hn)]; exact s b u q
theorem small_log {n : Int} (h0 : 0 ≤ n) (h1 : n < Big) : n.natAbs.log2 < 1920 := by
  have h : n.natAbs < 2 ^ 60 := by
    have : n < 1152921504606846976 := by have : Big = 1000000000000000000 := rfl; omega
    have e : (2 : Nat) ^ 60 = 1152921504606846976 := by decide
    omega
  by_cases z : n.natAbs = 0
  · rw [z]
    decide
  · exact Nat.lt_of_lt_of_le ((Nat.log2_lt z).mpr h) (by decide)
end L2
set_option Elab.async false
set_option linter.all false
set_option maxRecDepth 100000
set_option maxHeartbeats 4000000
namespace L2
open PySem PySem.Spec PyProof.Rows
section
variable {X : Cx}
theorem ints_items {its : List Value} {ns : List Int} (hi : IntsAre its ns) : ∃ xs : Array (Int × Tok), its.toArray = intItems xs ∧ ns = xs.toList.map (·.1) := by
  obtain ⟨xs, e⟩ := hi.allInts.items
  exact ⟨xs, e, by rw [← hi.numsOf, ← nums_intItems, ← e]⟩
theorem call_maxL (hc : X.calm = true) : CallR X (.builtin "max") (fun xs H Q => ∃ (p : Addr) (ns : List Int), xs = [.ref p] ∧ SqL X.K H p (ns.map V.int) ∧ ns ≠ [] ∧ ∀ M, M ∈ ns → (∀ a ∈ ns, a ≤ M) → Q (.int M) H) := by
  intro pins s σ H xs us Q I r h
  obtain ⟨p, ns, rfl, hq, hne, q⟩ := h
  obtain ⟨u, rfl, ru⟩ := vals1 r
  cases ru
  obtain ⟨its, rv, pl, _⟩ := I.list hq
  obtain ⟨xs, e, hns⟩ := ints_items (intsAre_of rv)
  have hl := pl.isList
  rw [e] at hl
  have hsz : 0 < xs.size := by
    have z : 0 < ns.length := List.length_pos_iff.mpr hne
    rw [hns, List.length_map, Array.length_toList] at z
    exact z
  refine max_intList (I.ok.hd hc) hl hsz fun v h' tk hv hk => ?_
  obtain ⟨t, rfl⟩ := intItems_at hv
  obtain ⟨h1, h2⟩ := argBest_gt (numAt xs) (xs.size - 1)
  refine ⟨.int _, H, I.kept hk, ⟨t, rfl⟩, q _ ?_ fun a ha => ?_⟩
  · rw [hns, numAt_eq]
    exact getD_mem (by rw [List.length_map, Array.length_toList]; omega)
  · rw [hns] at ha
    obtain ⟨j, hj, rfl⟩ := mem_getD ha
    rw [List.length_map, Array.length_toList] at hj
    rw [← numAt_eq]
    exact h2 j (by omega)
end
section
variable {prog : Program} {w : World} {A : Around} {R : Result → Shared → Prop} {I S l : Addr} {d : Value} {xs : Array (Int × Tok)}
end
section
variable {X : Cx}
theorem op_rep_str : OpR X (binaryOp .Mult) (fun x y H Q => ∃ z n, x = .str z ∧ y = .int n ∧ z.length ≤ 1000 ∧ n ≤ 1000 ∧ -1000 ≤ n ∧ Q (.str (Txt.mul z n)) H) := by
  intro pins s σ H x y v u Q I rx ry h
  obtain ⟨z, n, rfl, rfl, h1, h2, h3, q⟩ := h
  obtain ⟨t, rfl⟩ := rx
  obtain ⟨t', rfl⟩ := ry
  refine SB.mul ⟨?_, fun hn _ => ?_, fun hn _ => ?_⟩ fun t' k => ⟨.str _, H, I.tok k, ⟨t', rfl⟩, q⟩
  · rw [decide_eq_false (by omega), decide_eq_false (by omega)]
    rfl
  · have e : (1000 : Int) ≤ (2 ^ 63 - 1) / n := Int.le_ediv_of_mul_le (by omega) (by omega)
    omega
  · have hle : z.length * n.toNat ≤ 1000 * 1000 := Nat.mul_le_mul h1 (by omega)
    unfold PySem.Builtin.Str.tooLong
    simp only [decide_eq_false_iff_not]
    rw [sizeLine_eq]
    omega
theorem op_eqNil (hu : X.A.units + 64 < cLine) : OpR X (compareOp .Eq) (fun x y H Q => ∃ a b xs, x = .ref a ∧ y = .ref b ∧ SqL X.K H a xs ∧ SqL X.K H b [] ∧ Q (.bl (decide (xs = []))) H) := by
  intro pins s σ H x y v u Q I rx ry h
  obtain ⟨a, b, xs, e1, e2, ha, hb, q⟩ := h
  by_cases hx : xs = []
  · subst hx
    refine op_eqD hu pins s σ H x y v u Q I rx ry ⟨a, b, [], [], [], [], e1, e2, .inr ⟨ha, hb⟩, isds_nil, isds_nil, by unfold depDs; omega, ?_⟩
    have e : id (eqDs [] []) = decide (([] : List V) = []) := by unfold eqDs; rfl
    rw [e]
    exact q
  · subst e1 e2
    cases rx
    cases ry
    obtain ⟨us, r1, p1, _⟩ := I.list ha
    obtain ⟨ws, r2, p2, _⟩ := I.list hb
    cases r2
    have hne : us ≠ [] := fun z => hx ((Vals.nil_iff r1).mp z)
    refine SeqAt.eq_list_lengthsAt p1.isList p2.isList (by simpa using hne) (by omega) ⟨.bl _, H, I, ?_, q⟩
    rw [decide_eq_false hx]
    rfl
end
end L2
set_option Elab.async false
set_option linter.all false
set_option maxRecDepth 100000
set_option maxHeartbeats 4000000
namespace L2
open PySem PySem.Spec PyProof.Rows
section
variable {X : Cx} {K : PySem.W.Frag}
end
theorem take_snoc {α : Type} {xs : List α} {i : Nat} {x : α} (h : xs[i]? = some x) : xs.take (i + 1) = xs.take i ++ [x] := by
  rw [List.take_add_one, h]
  rfl
theorem lt_of_some {α : Type} {xs : List α} {i : Nat} {x : α} (h : xs[i]? = some x) : i < xs.length := (List.getElem?_eq_some_iff.mp h).1
theorem some_of_lt {α : Type} {xs : List α} {i : Nat} (h : i < xs.length) : ∃ x, xs[i]? = some x := ⟨_, List.getElem?_eq_getElem h⟩
section
variable {K : PySem.W.Frag} {a : Addr} {xs ys : List V} {js : List Nat} {tc : TT} {te : TE} {σ : St} {Q : VK} {D : Addr} {H1 : Hp}
theorem comp_tupM (hz : xs.length < sizeLine) (hlen : ys.length = xs.length) (ha : SqT K H1 a xs) (hD : H1 D = none)
    (he : ∀ (i : Nat) (x y : V) (H : Hp), xs[i]? = some x → ys[i]? = some y → Same H1 H → ∀ Q' : VK, (∀ H', Same H H' → Q' y H') → te (some x :: compS js σ) H Q')
    (hq : ∀ H', Same H1 H' → H' D = some (.lst ys) → Q (.ref D) H') : CompW (Itt K a) js tYes te σ Q D H1 := by
  refine comp_tpl (K := K) (a := a) (xs := xs) (fun i acc H => i ≤ xs.length ∧ acc = ys.take i ∧ Same H1 H ∧ H D = some (.lst acc)) hz ⟨Nat.zero_le _, rfl, same_new hD _, upd_same⟩ (fun i acc H ⟨l, e, s, d⟩ => ⟨d, ?_, Same.tupS s ha⟩) ?_ ?_
  · rw [e, List.length_take]
    omega
  · rintro i m x acc H hi ⟨l, e, s, d⟩ hm
    have hlt := lt_of_some hi
    obtain ⟨y, hy⟩ := some_of_lt (xs := ys) (i := i) (by omega)
    exact he i x y H hi hy s _ fun H' s' => cstep hlt hm (s' _ _ d) ⟨hlt, by rw [e, take_snoc hy], same_upd hD (s.trans s'), upd_same⟩
  · rintro acc H ⟨l, e, s, d⟩
    rw [List.take_of_length_le (by omega)] at e
    exact hq H s (by rw [d, e])
theorem comp_lstM (hz : xs.length < sizeLine) (hlen : ys.length = xs.length) (ha : SqL K H1 a xs) (hD : H1 D = none)
    (he : ∀ (i : Nat) (x y : V) (H : Hp), xs[i]? = some x → ys[i]? = some y → Same H1 H → ∀ Q' : VK, (∀ H', Same H H' → Q' y H') → te (some x :: compS js σ) H Q')
    (hq : ∀ H', Same H1 H' → H' D = some (.lst ys) → Q (.ref D) H') : CompW (Itl K a) js tYes te σ Q D H1 := by
  refine comp_lst (K := K) (a := a) (xs := xs) (fun i acc H => i ≤ xs.length ∧ acc = ys.take i ∧ Same H1 H ∧ H D = some (.lst acc)) hz ⟨Nat.zero_le _, rfl, same_new hD _, upd_same⟩ (fun i acc H ⟨l, e, s, d⟩ => ⟨d, ?_, Same.seq s ha⟩) ?_ ?_
  · rw [e, List.length_take]
    omega
  · rintro i m x acc H hi ⟨l, e, s, d⟩ hm
    have hlt := lt_of_some hi
    obtain ⟨y, hy⟩ := some_of_lt (xs := ys) (i := i) (by omega)
    exact he i x y H hi hy s _ fun H' s' => cstep hlt hm (s' _ _ d) ⟨hlt, by rw [e, take_snoc hy], same_upd hD (s.trans s'), upd_same⟩
  · rintro acc H ⟨l, e, s, d⟩
    rw [List.take_of_length_le (by omega)] at e
    exact hq H s (by rw [d, e])
end
theorem cut_take {xs : List V} {k : Nat} (h : k ≤ xs.length) : cutV xs none (some (k : Int)) = xs.take k := by
  unfold cutV
  rw [HT.sIx_none, HT.sIx_nat, Nat.min_eq_left h]
  simp
theorem cut_take' (xs : List V) (k : Nat) : cutV xs none (some (k : Int)) = xs.take k := by
  by_cases h : k ≤ xs.length
  · exact cut_take h
  · unfold cutV
    rw [HT.sIx_none, HT.sIx_nat, Nat.min_eq_right (by omega), List.drop_zero, Nat.sub_zero, List.take_of_length_le (Nat.le_refl _), List.take_of_length_le (by omega)]
theorem atI_head {α : Type} (x : α) (r : List α) : atI (x :: r) 0 = some x := atI_nat (j := 0) rfl
theorem atI_in {α : Type} {xs : List α} {i : Int} (h0 : 0 ≤ i) (h1 : i < xs.length) : ∃ x, atI xs i = some x ∧ x ∈ xs := by
  obtain ⟨k, rfl⟩ := Int.eq_ofNat_of_zero_le h0
  have hk : k < xs.length := by omega
  exact ⟨xs[k], atI_nat (List.getElem?_eq_getElem hk), List.getElem_mem hk⟩
end L2
set_option Elab.async false
set_option linter.all false
set_option maxRecDepth 100000
namespace L2
open PySem PySem.Spec PyProof.Rows
structure QE (X : Cx) (e : Expr) (t : TE) : Prop where
  h : PE X e t
structure QA (X : Cx) (es : List Expr) (t : TA) : Prop where
  h : PA X es t
structure QS (X : Cx) (st : Stmt) (t : TS) : Prop where
  h : PS X st t
structure QSs (X : Cx) (b : List Stmt) (t : TS) : Prop where
  h : PSs X b t
structure QT (X : Cx) (e : Expr) (t : TT) : Prop where
  h : PT X e t
structure QW (X : Cx) (e : Expr) (t : TT) : Prop where
  h : PW X e t
structure QI (X : Cx) (tg iter : Expr) (t : TI) : Prop where
  h : PI X tg iter t
structure QG (X : Cx) (tg : Expr) (t : TG) : Prop where
  h : PG X tg t
structure QGs (X : Cx) (ts : List Expr) (t : TGs) : Prop where
  h : PGs X ts t
structure QO (X : Cx) (e : Option Expr) (t : TO) : Prop where
  h : PO X e t
structure QIf (X : Cx) (ifs : List Expr) (t : TT) : Prop where
  h : PIf X ifs t
theorem qss_cons {X : L2.Cx} {st : PySem.Stmt} {rest : List PySem.Stmt} {t : L2.TS} {u : L2.TS} (h1 : QS X st t) (h2 : QSs X rest u) : QSs X (st :: rest) (L2.tSeq t u) := ⟨@L2.pss_cons _ _ _ _ _ h1.h h2.h⟩
theorem qss_one {X : L2.Cx} {st : PySem.Stmt} {t : L2.TS} (h1 : QS X st t) : QSs X [st] t := ⟨@L2.pss_one _ _ _ h1.h⟩
theorem qs_set {X : L2.Cx} {pos : PySem.Pos} {i : Nat} {x : PySem.Str} {e : PySem.Expr} {te : L2.TE} {pos' : PySem.Pos} (hN : List.Nodup (L2.Cx.N X)) (hi : (L2.Cx.N X)[i]? = Option.some x) (hx : L2.Loc (PySem.Env.scope (L2.Cx.env X)) x) (he : QE X e te) (hs : PySem.swapsWith e (Option.some (PySem.Expr.Name x pos')) (PySem.Pos.line pos) (L2.Cx.env X) = Pure.pure Bool.false := by rfl) (hf : L2.Cx.fn X x = Bool.true ∨ List.lookup x (PySem.Scope.names (PySem.Env.scope (L2.Cx.env X))) = Option.some PySem.NameKind.local := by first | exact .inl rfl | exact .inr rfl | assumption) : QS X (PySem.Stmt.Assign [PySem.Expr.Name x pos'] e pos) (L2.tAsg te (L2.gName i)) := ⟨@L2.ps_set _ _ _ _ _ _ _ hN hi hx he.h hs hf⟩
theorem qs_expr {X : L2.Cx} {e : PySem.Expr} {te : L2.TE} {pos : PySem.Pos} (he : QE X e te) (hs : PySem.swapsWith e Option.none (PySem.Pos.line pos) (L2.Cx.env X) = Pure.pure Bool.false := by rfl) : QS X (PySem.Stmt.Expr e pos) (L2.tDrop te) := ⟨@L2.ps_expr _ _ _ _ he.h hs⟩
theorem qs_ret {X : L2.Cx} {e : PySem.Expr} {te : L2.TE} {pos : PySem.Pos} (he : QE X e te) : QS X (PySem.Stmt.Return (Option.some e) pos) (L2.tRet te) := ⟨@L2.ps_ret _ _ _ _ he.h⟩
theorem qs_if {X : L2.Cx} {t : L2.TS} {u : L2.TS} {pos : PySem.Pos} {c : PySem.Expr} {a : List PySem.Stmt} {b : List PySem.Stmt} {tc : L2.TT} (hc : QT X c tc) (ha : QSs X a t) (hb : QSs X b u) : QS X (PySem.Stmt.If c a b pos) (L2.tIfS tc t u) := ⟨@L2.ps_if _ _ _ _ _ _ _ _ hc.h ha.h hb.h⟩
theorem qs_for {X : L2.Cx} {tg : PySem.Expr} {iter : PySem.Expr} {body : List PySem.Stmt} {wi : L2.TI} {g : L2.TG} {tb : L2.TS} {pos : PySem.Pos} (hp : PySem.PassesOwn (PySem.model (L2.Cx.prog X) (L2.Cx.w X)) (L2.Cx.A X) (L2.Cx.env X) (L2.Cx.xe X)) (hc : L2.Cx.calm X = Bool.true) (hi : QI X tg iter wi) (hg : QG X tg g) (hb : QSs X body tb) (hs : ∀ (x : PySem.Value), PySem.foldedSetIterable iter (L2.Cx.env X) x = Pure.pure x := by intro _; rfl) : QS X (PySem.Stmt.For tg iter body [] pos) (L2.tFor wi g tb) := ⟨@L2.ps_for _ _ _ _ _ _ _ _ hp hc hi.h hg.h hb.h hs⟩
theorem qs_while {X : L2.Cx} {pos : PySem.Pos} {c : PySem.Expr} {body : List PySem.Stmt} {tc : L2.TT} {tb : L2.TS} (hp : PySem.PassesOwn (PySem.model (L2.Cx.prog X) (L2.Cx.w X)) (L2.Cx.A X) (L2.Cx.env X) (L2.Cx.xe X)) (hc : QT X c tc) (hb : QSs X body tb) : QS X (PySem.Stmt.While c body [] pos) (L2.tWhile tc tb) := ⟨@L2.ps_while _ _ _ _ _ _ hp hc.h hb.h⟩
theorem qe_op {X : L2.Cx} {a : PySem.Expr} {b : PySem.Expr} {ta : L2.TE} {tb : L2.TE} {pos : PySem.Pos} {op : PySem.Operator} {r : L2.R2} (ho : L2.OpR X (PySem.binaryOp op) r) (ha : QE X a ta) (hb : QE X b tb) : QE X (PySem.Expr.BinOp a op b pos) (L2.tOp r ta tb) := ⟨@L2.pe_op _ _ _ _ _ _ _ _ ho ha.h hb.h⟩
theorem qe_un {X : L2.Cx} {a : PySem.Expr} {ta : L2.TE} {pos : PySem.Pos} {op : PySem.UnaryOp} {r : L2.V → L2.Hp → L2.VK → Prop} (ho : L2.UnR X (PySem.unaryOp op) r) (ha : QE X a ta) : QE X (PySem.Expr.UnaryOp op a pos) (L2.tUn r ta) := ⟨@L2.pe_un _ _ _ _ _ _ ho ha.h⟩
theorem qe_not {X : L2.Cx} {a : PySem.Expr} {ta : L2.TE} {pos : PySem.Pos} (ha : QE X a ta) : QE X (PySem.Expr.UnaryOp PySem.UnaryOp.Not a pos) (L2.tNotV ta) := ⟨@L2.pe_not _ _ _ _ ha.h⟩
theorem qe_one {X : L2.Cx} {a : PySem.Expr} {pos : PySem.Pos} {op : PySem.BoolOp} {t : L2.TE} (h : QE X a t) : QE X (PySem.Expr.BoolOp op [a] pos) t := ⟨@L2.pe_one _ _ _ _ _ h.h⟩
theorem qe_and {X : L2.Cx} {a : PySem.Expr} {b : PySem.Expr} {ta : L2.TE} {tb : L2.TE} {pos : PySem.Pos} {rest : List PySem.Expr} (ha : QE X a ta) (hb : QE X (PySem.Expr.BoolOp PySem.BoolOp.And (b :: rest) pos) tb) : QE X (PySem.Expr.BoolOp PySem.BoolOp.And (a :: b :: rest) pos) (L2.tAndV ta tb) := ⟨@L2.pe_and _ _ _ _ _ _ _ ha.h hb.h⟩
theorem qe_cmpR {X : L2.Cx} {a : PySem.Expr} {b : PySem.Expr} {ta : L2.TE} {tb : L2.TE} {pos : PySem.Pos} {op : PySem.CmpOp} {r : L2.R2} (ho : L2.OpR X (PySem.compareOp op) r) (ha : QE X a ta) (hb : QE X b tb) (hm : PySem.behindInMarks op b = Bool.false) : QE X (PySem.Expr.Compare a [op] [b] pos) (L2.tOp r ta tb) := ⟨@L2.pe_cmpR _ _ _ _ _ _ _ _ ho ha.h hb.h hm⟩
theorem qe_ifExp {X : L2.Cx} {a : PySem.Expr} {b : PySem.Expr} {ta : L2.TE} {tb : L2.TE} {pos : PySem.Pos} {tA : L2.TT} {c : PySem.Expr} (hc : QT X c tA) (ha : QE X a ta) (hb : QE X b tb) : QE X (PySem.Expr.IfExp c a b pos) (L2.tIf tA ta tb) := ⟨@L2.pe_ifExp _ _ _ _ _ _ _ _ hc.h ha.h hb.h⟩
theorem qe_lst {X : L2.Cx} {es : List PySem.Expr} {t : L2.TA} {pos : PySem.Pos} (h : QA X es t) : QE X (PySem.Expr.List es pos) (L2.tLst t) := ⟨@L2.pe_lst _ _ _ _ h.h⟩
theorem qe_tup {X : L2.Cx} {es : List PySem.Expr} {t : L2.TA} {pos : PySem.Pos} {x1 : Nat} (h : QA X es t) : QE X (PySem.Expr.Tuple es x1 pos) (L2.tTup t) := ⟨@L2.pe_tup _ _ _ _ _ h.h⟩
theorem qe_slice {X : L2.Cx} {e : PySem.Expr} {te : L2.TE} {lo : Option PySem.Expr} {hi : Option PySem.Expr} {tl : L2.TO} {th : L2.TO} {pos : PySem.Pos} {p2 : PySem.Pos} {r : L2.V → Option Int → Option Int → L2.Hp → L2.VK → Prop} (hr : L2.SlR X r) (he : QE X e te) (hl : QO X lo tl) (hu : QO X hi th) : QE X (PySem.Expr.Subscript e (PySem.Expr.Slice lo hi Option.none p2) pos) (L2.tSl r te tl th) := ⟨@L2.pe_slice _ _ _ _ _ _ _ _ _ _ hr he.h hl.h hu.h⟩
theorem qe_ix {X : L2.Cx} {a : PySem.Expr} {b : PySem.Expr} {ta : L2.TE} {tb : L2.TE} {pos : PySem.Pos} {r : L2.R2} (hr : L2.IxR X r) (ha : QE X a ta) (hb : QE X b tb) (hs : L2.PlainIx b) : QE X (PySem.Expr.Subscript a b pos) (L2.tOp r ta tb) := ⟨@L2.pe_ix _ _ _ _ _ _ _ hr ha.h hb.h hs⟩
theorem qe_comp {X : L2.Cx} {elt : PySem.Expr} {iter : PySem.Expr} {ifs : List PySem.Expr} {sc : PySem.Scope} {pos : PySem.Pos} {px : PySem.Pos} {t : PySem.Str} {ys : List PySem.Str} {js : List Nat} {wi : L2.TI} {tc : L2.TT} {te : L2.TE} (hc : L2.Cx.calm X = Bool.true) (hck : L2.compChk (L2.Cx.N X) (PySem.Env.scope (L2.Cx.env X)) sc t ys js = Bool.true) (hi : QI X (PySem.Expr.Name t px) iter wi) (hf : ∀ (cl : List (PySem.Str × PySem.Addr)) (C : PySem.Addr) (s : PySem.Shared) (H : L2.Hp) (fp : List PySem.Addr), QIf (L2.Cx.comp X sc cl C (t :: ys) s H fp) ifs tc) (he : ∀ (cl : List (PySem.Str × PySem.Addr)) (C : PySem.Addr) (s : PySem.Shared) (H : L2.Hp) (fp : List PySem.Addr), QE (L2.Cx.comp X sc cl C (t :: ys) s H fp) elt te) (hs : ∀ (x : PySem.Value), PySem.foldedSetIterable iter (L2.Cx.env X) x = Pure.pure x := by intro _; rfl) : QE X (PySem.Expr.ListComp elt [{ target := PySem.Expr.Name t px, iter := iter, ifs := ifs, is_async := 0 }] sc pos) (L2.tComp wi js tc te) := ⟨@L2.pe_comp _ _ _ _ _ _ _ _ _ _ _ _ _ hc hck hi.h (fun cl C s H fp => (hf cl C s H fp).h) (fun cl C s H fp => (he cl C s H fp).h) hs⟩
theorem qe_call {X : L2.Cx} {CX : L2.CXT} {k : Nat} {f : PySem.Addr} {fd : PySem.FuncData} {ps : List PySem.Str} {sp : L2.Sp} {dvs : List L2.V} {ds : List PySem.Value} {E : L2.XK} {x : PySem.Str} {p : PySem.Pos} {pos : PySem.Pos} {e : PySem.Expr} {es : List PySem.Expr} {t : L2.TA} (F : L2.FnOk (L2.Cx.prog X) (L2.Cx.w X) (L2.Cx.K X) (L2.Cx.mg X) (L2.Cx.base X) CX k f fd ps sp) (hr : L2.Room k (L2.Cx.A X)) (hg : L2.Gl X x) (hm : L2.Cx.mg X x = Option.some (PySem.Value.ref f)) (hk : PySem.W.keepIn (L2.Cx.K X) (PySem.Value.ref f) = Bool.true) (hb : L2.Binds (L2.Cx.K X) fd ps ds) (hd : L2.Vals dvs ds) (hx : L2.Passes CX X E) (ha : QA X (e :: es) t) (hdb : (x == PySem.Str.ofString "__debug__") = Bool.false := by decide) (he : PySem.starEach (e :: es) (L2.Cx.env X) = (Bool.false, PySem.eval e (L2.Cx.env X)) :: PySem.starEach es (L2.Cx.env X) := by rfl) (hpl : (List.any (PySem.backTo pos (PySem.starEach es (L2.Cx.env X))) fun (x : Bool × PySem.Sem PySem.Value) => Prod.fst x) = Bool.false := by rfl) : QE X (PySem.Expr.Call (PySem.Expr.Name x p) (e :: es) [] pos) (L2.tCall sp dvs E t) := ⟨@L2.pe_call _ _ _ _ _ _ _ _ _ _ _ _ _ _ _ _ F hr hg hm hk hb hd hx ha.h hdb he hpl⟩
theorem qe_callB {X : L2.Cx} {x : PySem.Str} {p : PySem.Pos} {pos : PySem.Pos} {e : PySem.Expr} {es : List PySem.Expr} {t : L2.TA} {id : String} {r : List L2.V → L2.Hp → L2.VK → Prop} (hc : L2.CallR X (PySem.Value.builtin id) r) (hg : L2.Gl X x) (hm : L2.Cx.mg X x = Option.none) (hv : PySem.bootBuiltins x = Option.some (PySem.Value.builtin id)) (ha : QA X (e :: es) t) (hn : x ≠ PySem.Str.ofString "__name__" := by decide) (hdb : (x == PySem.Str.ofString "__debug__") = Bool.false := by decide) (he : PySem.starEach (e :: es) (L2.Cx.env X) = (Bool.false, PySem.eval e (L2.Cx.env X)) :: PySem.starEach es (L2.Cx.env X) := by rfl) (hpl : (List.any (PySem.backTo pos (PySem.starEach es (L2.Cx.env X))) fun (x : Bool × PySem.Sem PySem.Value) => Prod.fst x) = Bool.false := by rfl) : QE X (PySem.Expr.Call (PySem.Expr.Name x p) (e :: es) [] pos) (L2.tCB r t) := ⟨@L2.pe_callB _ _ _ _ _ _ _ _ _ hc hg hm hv ha.h hn hdb he hpl⟩
theorem qe_callTy {X : L2.Cx} {x : PySem.Str} {p : PySem.Pos} {pos : PySem.Pos} {e : PySem.Expr} {es : List PySem.Expr} {t : L2.TA} {T : String} {r : List L2.V → L2.Hp → L2.VK → Prop} (hc : L2.CallR X (PySem.Value.type T) r) (hg : L2.Gl X x) (hm : L2.Cx.mg X x = Option.none) (hv : PySem.bootBuiltins x = Option.some (PySem.Value.type T)) (ha : QA X (e :: es) t) (hn : x ≠ PySem.Str.ofString "__name__" := by decide) (hdb : (x == PySem.Str.ofString "__debug__") = Bool.false := by decide) (he : PySem.starEach (e :: es) (L2.Cx.env X) = (Bool.false, PySem.eval e (L2.Cx.env X)) :: PySem.starEach es (L2.Cx.env X) := by rfl) (hpl : (List.any (PySem.backTo pos (PySem.starEach es (L2.Cx.env X))) fun (x : Bool × PySem.Sem PySem.Value) => Prod.fst x) = Bool.false := by rfl) : QE X (PySem.Expr.Call (PySem.Expr.Name x p) (e :: es) [] pos) (L2.tCB r t) := ⟨@L2.pe_callTy _ _ _ _ _ _ _ _ _ hc hg hm hv ha.h hn hdb he hpl⟩
theorem qe_bm {X : L2.Cx} {o : PySem.Expr} {e : PySem.Expr} {es : List PySem.Expr} {to : L2.TE} {t : L2.TA} {name : PySem.Str} {apos : PySem.Pos} {cpos : PySem.Pos} {T : String} {id : String} {r : L2.V → List L2.V → L2.Hp → L2.VK → Prop} (pa : PySem.PlainAttrs T) (slot : PySem.Slot T name id) (hty : PySem.typeOf (PySem.Value.builtin id) = Pure.pure (PySem.Value.type "method_descriptor")) (hm : L2.MtR X id r) (ho : QE X o to) (ha : QA X (e :: es) t) (hbase : PySem.attributeBase o name (L2.Cx.env X) (PySem.eval o (L2.Cx.env X)) = PySem.eval o (L2.Cx.env X) := by rfl) (hfew : (((List.all (PySem.backTo cpos (PySem.starEach (e :: es) (L2.Cx.env X))) fun (x : Bool × PySem.Sem PySem.Value) => !Prod.fst x) && List.all (PySem.backToKw cpos (PySem.keywordEach [] (L2.Cx.env X))) fun (x : Option PySem.Str × PySem.Sem PySem.Value) => Option.isSome (Prod.fst x)) && Decidable.decide ((List.length (e :: es) + List.length ([] : List PySem.Keyword) + if List.isEmpty ([] : List PySem.Keyword) = Bool.true then 0 else 1) < 30)) = Bool.true := by rfl) (hline : (PySem.Pos.endLine apos == PySem.Pos.line cpos) = Bool.true := by rfl) (hs : PySem.starEach (e :: es) (L2.Cx.env X) = (Bool.false, PySem.eval e (L2.Cx.env X)) :: PySem.starEach es (L2.Cx.env X) := by rfl) (hplain : (List.any (PySem.backTo cpos (PySem.starEach es (L2.Cx.env X))) fun (x : Bool × PySem.Sem PySem.Value) => Prod.fst x) = Bool.false := by rfl) : QE X (PySem.Expr.Call (PySem.Expr.Attribute o name apos) (e :: es) [] cpos) (L2.tBM (L2.Cx.K X) T r to t) := ⟨@L2.pe_bm _ _ _ _ _ _ _ _ _ _ _ _ pa slot hty hm ho.h ha.h hbase hfew hline hs hplain⟩
theorem qe_bm0 {X : L2.Cx} {o : PySem.Expr} {to : L2.TE} {name : PySem.Str} {apos : PySem.Pos} {cpos : PySem.Pos} {T : String} {id : String} {r : L2.V → List L2.V → L2.Hp → L2.VK → Prop} (pa : PySem.PlainAttrs T) (slot : PySem.Slot T name id) (hty : PySem.typeOf (PySem.Value.builtin id) = Pure.pure (PySem.Value.type "method_descriptor")) (hm : L2.MtR X id r) (ho : QE X o to) (hbase : PySem.attributeBase o name (L2.Cx.env X) (PySem.eval o (L2.Cx.env X)) = PySem.eval o (L2.Cx.env X) := by rfl) (hline : (PySem.Pos.endLine apos == PySem.Pos.line cpos) = Bool.true := by rfl) : QE X (PySem.Expr.Call (PySem.Expr.Attribute o name apos) [] [] cpos) (L2.tBM0 (L2.Cx.K X) T r to) := ⟨@L2.pe_bm0 _ _ _ _ _ _ _ _ _ pa slot hty hm ho.h hbase hline⟩
theorem qt_not {X : L2.Cx} {a : PySem.Expr} {pos : PySem.Pos} {tA : L2.TT} (ha : QT X a tA) : QT X (PySem.Expr.UnaryOp PySem.UnaryOp.Not a pos) (L2.tNot tA) := ⟨@L2.pt_not _ _ _ _ ha.h⟩
theorem qt_val {X : L2.Cx} {e : PySem.Expr} {t : L2.TE} (h : QE X e t) (he : ∀ (whole : PySem.Sem PySem.Value), PySem.isTrue e (L2.Cx.env X) whole = (do let v ← whole; PySem.standAt (PySem.Expr.pos e); PySem.holding [v] (PySem.truthy v)) := by intro _; rfl) : QT X e (L2.tB t) := ⟨@L2.pt_val _ _ _ h.h he⟩
theorem qt_cmpR {X : L2.Cx} {a : PySem.Expr} {b : PySem.Expr} {ta : L2.TE} {tb : L2.TE} {pos : PySem.Pos} {op : PySem.CmpOp} {r : L2.R2} (ho : L2.OpR X (PySem.compareOp op) r) (ha : QE X a ta) (hb : QE X b tb) (hm : PySem.behindInMarks op b = Bool.false) : QT X (PySem.Expr.Compare a [op] [b] pos) (L2.tTest (L2.tOp r ta tb)) := ⟨@L2.pt_cmpR _ _ _ _ _ _ _ _ ho ha.h hb.h hm⟩
theorem qt_chain {X : L2.Cx} {a : PySem.Expr} {b : PySem.Expr} {c : PySem.Expr} {ta : L2.TE} {tb : L2.TE} {tc : L2.TE} {pos : PySem.Pos} {op : PySem.CmpOp} {op' : PySem.CmpOp} {r : L2.R2} {r' : L2.R2} (ho : L2.OpR X (PySem.compareOp op) r) (ho' : L2.OpR X (PySem.compareOp op') r') (ha : QE X a ta) (hb : QE X b tb) (hc : QE X c tc) (hm : PySem.lastMarks [op, op'] [b, c] = Bool.false := by with_unfolding_all rfl) : QT X (PySem.Expr.Compare a [op, op'] [b, c] pos) (L2.tTest (L2.tChain r r' ta tb tc)) := ⟨@L2.pt_chain _ _ _ _ _ _ _ _ _ _ _ _ ho ho' ha.h hb.h hc.h hm⟩
theorem qw_and {X : L2.Cx} {a : PySem.Expr} {b : PySem.Expr} {pos : PySem.Pos} {tA : L2.TT} {tB' : L2.TT} {rest : List PySem.Expr} (ha : QT X a tA) (hb : QW X (PySem.Expr.BoolOp PySem.BoolOp.And (b :: rest) pos) tB') : QW X (PySem.Expr.BoolOp PySem.BoolOp.And (a :: b :: rest) pos) (L2.tAnd tA tB') := ⟨@L2.pw_and _ _ _ _ _ _ _ ha.h hb.h⟩
theorem qw_or {X : L2.Cx} {a : PySem.Expr} {b : PySem.Expr} {pos : PySem.Pos} {tA : L2.TT} {tB' : L2.TT} {rest : List PySem.Expr} (ha : QT X a tA) (hb : QW X (PySem.Expr.BoolOp PySem.BoolOp.Or (b :: rest) pos) tB') : QW X (PySem.Expr.BoolOp PySem.BoolOp.Or (a :: b :: rest) pos) (L2.tOr tA tB') := ⟨@L2.pw_or _ _ _ _ _ _ _ ha.h hb.h⟩
theorem qw_and1 {X : L2.Cx} {a : PySem.Expr} {pos : PySem.Pos} {tA : L2.TT} (ha : QT X a tA) : QW X (PySem.Expr.BoolOp PySem.BoolOp.And [a] pos) tA := ⟨@L2.pw_and1 _ _ _ _ ha.h⟩
theorem qw_or1 {X : L2.Cx} {a : PySem.Expr} {pos : PySem.Pos} {tA : L2.TT} (ha : QT X a tA) : QW X (PySem.Expr.BoolOp PySem.BoolOp.Or [a] pos) tA := ⟨@L2.pw_or1 _ _ _ _ ha.h⟩
theorem qw_pt {X : L2.Cx} {e : PySem.Expr} {t : L2.TT} (h : QW X e t) : QT X e t := ⟨@L2.PW.pt _ _ _ h.h⟩
theorem qo_some {X : L2.Cx} {e : PySem.Expr} {te : L2.TE} (h : QE X e te) : QO X (Option.some e) (L2.tPart te) := ⟨@L2.po_some _ _ _ h.h⟩
theorem qi_list {X : L2.Cx} {tg : PySem.Expr} {l : PySem.Expr} {tl : L2.TE} (hl : QE X l tl) : QI X tg l (L2.iList (L2.Cx.K X) tl) := ⟨@L2.pi_list _ _ _ _ hl.h⟩
theorem qi_tup {X : L2.Cx} {tg : PySem.Expr} {l : PySem.Expr} {tl : L2.TE} (hl : QE X l tl) : QI X tg l (L2.iTup (L2.Cx.K X) tl) := ⟨@L2.pi_tup _ _ _ _ hl.h⟩
theorem qi_range1 {X : L2.Cx} {tg : PySem.Expr} {a : PySem.Expr} {ta : L2.TA} {p : PySem.Pos} {pos : PySem.Pos} (hg : L2.Gl X (PySem.Str.ofString "range")) (hm : L2.Cx.mg X (PySem.Str.ofString "range") = Option.none) (ha : QA X [a] ta) (hs : PySem.starEach [a] (L2.Cx.env X) = [(Bool.false, PySem.eval a (L2.Cx.env X))] := by rfl) : QI X tg (PySem.Expr.Call (PySem.Expr.Name (PySem.Str.ofString "range") p) [a] [] pos) (L2.iRng1 ta) := ⟨@L2.pi_range1 _ _ _ _ _ _ hg hm ha.h hs⟩
theorem qg_name {X : L2.Cx} {pos : PySem.Pos} {i : Nat} {x : PySem.Str} (hN : List.Nodup (L2.Cx.N X)) (hi : (L2.Cx.N X)[i]? = Option.some x) (hx : L2.Loc (PySem.Env.scope (L2.Cx.env X)) x) (hf : L2.Cx.fn X x = Bool.true ∨ List.lookup x (PySem.Scope.names (PySem.Env.scope (L2.Cx.env X))) = Option.some PySem.NameKind.local := by first | exact .inl rfl | exact .inr rfl | assumption) : QG X (PySem.Expr.Name x pos) (L2.gName i) := ⟨@L2.pg_name _ _ _ _ hN hi hx hf⟩
theorem qg_tup {X : L2.Cx} {pos : PySem.Pos} {es : List PySem.Expr} {k : Nat} {t : L2.TGs} {n : Nat} (hc : L2.Cx.calm X = Bool.true) (h : QGs X es t) (hn : List.length (PySem.assignEach es (L2.Cx.env X)) = n := by rfl) (hst : List.findIdx? (fun (x : Bool × (PySem.Value → PySem.Sem Unit)) => Prod.fst x) (PySem.assignEach es (L2.Cx.env X)) = Option.none := by rfl) : QG X (PySem.Expr.Tuple es k pos) (L2.gTup (L2.Cx.K X) n t) := ⟨@L2.pg_tup _ _ _ _ _ _ hc h.h hn hst⟩
theorem qgs_cons {X : L2.Cx} {e : PySem.Expr} {es : List PySem.Expr} {t : L2.TG} {u : L2.TGs} (h1 : QG X e t) (h2 : QGs X es u) (hs : List.map (fun (x : Bool × (PySem.Value → PySem.Sem Unit)) => Prod.snd x) (PySem.assignEach (e :: es) (L2.Cx.env X)) = PySem.assign e (L2.Cx.env X) :: List.map (fun (x : Bool × (PySem.Value → PySem.Sem Unit)) => Prod.snd x) (PySem.assignEach es (L2.Cx.env X)) := by rfl) : QGs X (e :: es) (L2.gCons t u) := ⟨@L2.pgs_cons _ _ _ _ _ h1.h h2.h hs⟩
theorem qif_one {X : L2.Cx} {c : PySem.Expr} {t : L2.TT} (h : QT X c t) : QIf X [c] t := ⟨@L2.pif_one _ _ _ h.h⟩
theorem qaT {X : L2.Cx} {es : List PySem.Expr} {te : L2.TE} {t : L2.TA} {a : List PySem.Expr} {k : Nat} {p : PySem.Pos} (ha : QE X (PySem.Expr.Tuple a k p) te) (hr : QA X es t) : QA X (PySem.Expr.Tuple a k p :: es) (L2.tCons te t) := ⟨@L2.paT _ _ _ _ _ _ _ ha.h hr.h⟩
theorem qaL {X : L2.Cx} {es : List PySem.Expr} {te : L2.TE} {t : L2.TA} {a : List PySem.Expr} {p : PySem.Pos} (ha : QE X (PySem.Expr.List a p) te) (hr : QA X es t) : QA X (PySem.Expr.List a p :: es) (L2.tCons te t) := ⟨@L2.paL _ _ _ _ _ _ ha.h hr.h⟩
theorem qaC {X : L2.Cx} {es : List PySem.Expr} {te : L2.TE} {t : L2.TA} {c : PySem.Const} {k : Nat} {p : PySem.Pos} (ha : QE X (PySem.Expr.Constant c k p) te) (hr : QA X es t) : QA X (PySem.Expr.Constant c k p :: es) (L2.tCons te t) := ⟨@L2.paC _ _ _ _ _ _ _ ha.h hr.h⟩
theorem qaN {X : L2.Cx} {es : List PySem.Expr} {te : L2.TE} {t : L2.TA} {x : PySem.Str} {p : PySem.Pos} (ha : QE X (PySem.Expr.Name x p) te) (hr : QA X es t) : QA X (PySem.Expr.Name x p :: es) (L2.tCons te t) := ⟨@L2.paN _ _ _ _ _ _ ha.h hr.h⟩
theorem qaB {X : L2.Cx} {es : List PySem.Expr} {te : L2.TE} {t : L2.TA} {l : PySem.Expr} {r : PySem.Expr} {o : PySem.Operator} {p : PySem.Pos} (ha : QE X (PySem.Expr.BinOp l o r p) te) (hr : QA X es t) : QA X (PySem.Expr.BinOp l o r p :: es) (L2.tCons te t) := ⟨@L2.paB _ _ _ _ _ _ _ _ ha.h hr.h⟩
theorem qaS {X : L2.Cx} {es : List PySem.Expr} {te : L2.TE} {t : L2.TA} {v : PySem.Expr} {i : PySem.Expr} {p : PySem.Pos} (ha : QE X (PySem.Expr.Subscript v i p) te) (hr : QA X es t) : QA X (PySem.Expr.Subscript v i p :: es) (L2.tCons te t) := ⟨@L2.paS _ _ _ _ _ _ _ ha.h hr.h⟩
theorem qaK {X : L2.Cx} {es : List PySem.Expr} {te : L2.TE} {t : L2.TA} {f : PySem.Expr} {a : List PySem.Expr} {k : List PySem.Keyword} {p : PySem.Pos} (ha : QE X (PySem.Expr.Call f a k p) te) (hr : QA X es t) : QA X (PySem.Expr.Call f a k p :: es) (L2.tCons te t) := ⟨@L2.paK _ _ _ _ _ _ _ _ ha.h hr.h⟩
theorem qaM {X : L2.Cx} {es : List PySem.Expr} {te : L2.TE} {t : L2.TA} {l : PySem.Expr} {o : List PySem.CmpOp} {c : List PySem.Expr} {p : PySem.Pos} (ha : QE X (PySem.Expr.Compare l o c p) te) (hr : QA X es t) : QA X (PySem.Expr.Compare l o c p :: es) (L2.tCons te t) := ⟨@L2.paM _ _ _ _ _ _ _ _ ha.h hr.h⟩
theorem qaU {X : L2.Cx} {es : List PySem.Expr} {te : L2.TE} {t : L2.TA} {o : PySem.UnaryOp} {v : PySem.Expr} {p : PySem.Pos} (ha : QE X (PySem.Expr.UnaryOp o v p) te) (hr : QA X es t) : QA X (PySem.Expr.UnaryOp o v p :: es) (L2.tCons te t) := ⟨@L2.paU _ _ _ _ _ _ _ ha.h hr.h⟩
theorem qaE {X : L2.Cx} {es : List PySem.Expr} {te : L2.TE} {t : L2.TA} {e : PySem.Expr} {g : List PySem.Comprehension} {s : PySem.Scope} {p : PySem.Pos} (ha : QE X (PySem.Expr.ListComp e g s p) te) (hr : QA X es t) : QA X (PySem.Expr.ListComp e g s p :: es) (L2.tCons te t) := ⟨@L2.paE _ _ _ _ _ _ _ _ ha.h hr.h⟩
theorem qaJ {X : L2.Cx} {es : List PySem.Expr} {te : L2.TE} {t : L2.TA} {v : List PySem.Expr} {p : PySem.Pos} (ha : QE X (PySem.Expr.JoinedStr v p) te) (hr : QA X es t) : QA X (PySem.Expr.JoinedStr v p :: es) (L2.tCons te t) := ⟨@L2.paJ _ _ _ _ _ _ ha.h hr.h⟩
theorem qaA {X : L2.Cx} {es : List PySem.Expr} {te : L2.TE} {t : L2.TA} {v : PySem.Expr} {n : PySem.Str} {p : PySem.Pos} (ha : QE X (PySem.Expr.Attribute v n p) te) (hr : QA X es t) : QA X (PySem.Expr.Attribute v n p :: es) (L2.tCons te t) := ⟨@L2.paA _ _ _ _ _ _ _ ha.h hr.h⟩
theorem qv {X : L2.Cx} (i : Nat) {x : PySem.Str} {pos : PySem.Pos} (hN : (L2.Cx.N X)[i]? = Option.some x := by rfl) (hv : L2.Vis (PySem.Env.scope (L2.Cx.env X)) x := by first | exact Or.inl rfl | exact Or.inr (Or.inl rfl) | exact Or.inr (Or.inr rfl)) (hd : (x == PySem.Str.ofString "__debug__") = Bool.false := by decide) (hcd : (x == PySem.Str.ofString "__classdict__") = Bool.false := by decide) : QE X (PySem.Expr.Name x pos) (L2.tVar i) := ⟨@L2.pv _ i _ _ hN hv hd hcd⟩
theorem qe_int {X : L2.Cx} {i : Int} {j : Nat} {pos : PySem.Pos} : QE X (PySem.Expr.Constant (PySem.Const.int i) j pos) (L2.tC (L2.V.int i)) := ⟨@L2.pe_int _ _ _ _⟩
theorem qe_str {X : L2.Cx} {x : PySem.Str} {j : Nat} {pos : PySem.Pos} : QE X (PySem.Expr.Constant (PySem.Const.str x) j pos) (L2.tC (L2.V.str x)) := ⟨@L2.pe_str _ _ _ _⟩
theorem qe_bl {X : L2.Cx} {b : Bool} {j : Nat} {pos : PySem.Pos} : QE X (PySem.Expr.Constant (PySem.Const.bool b) j pos) (L2.tC (L2.V.bl b)) := ⟨@L2.pe_bl _ _ _ _⟩
theorem qe_glob {X : L2.Cx} {x : PySem.Str} {v : L2.V} {u : PySem.Value} {pos : PySem.Pos} (hg : L2.Gl X x) (hm : L2.Cx.mg X x = Option.some u) (r : L2.RelV v u) (hd : (x == PySem.Str.ofString "__debug__") = Bool.false := by decide) : QE X (PySem.Expr.Name x pos) (L2.tC v) := ⟨@L2.pe_glob _ _ _ _ _ hg hm r hd⟩
theorem qe_bltn {X : L2.Cx} {x : PySem.Str} {v : L2.V} {u : PySem.Value} {pos : PySem.Pos} (hg : L2.Gl X x) (hm : L2.Cx.mg X x = Option.none) (hv : PySem.bootBuiltins x = Option.some u) (r : L2.RelV v u) (hn : x ≠ PySem.Str.ofString "__name__" := by decide) (hd : (x == PySem.Str.ofString "__debug__") = Bool.false := by decide) : QE X (PySem.Expr.Name x pos) (L2.tC v) := ⟨@L2.pe_bltn _ _ _ _ _ hg hm hv r hn hd⟩
theorem qss_nil {X : L2.Cx} : QSs X [] L2.tNext := ⟨@L2.pss_nil _⟩
theorem qss_never {X : L2.Cx} {sts : List PySem.Stmt} : QSs X sts L2.tNever := ⟨@L2.pss_never _ _⟩
theorem qa_nil {X : L2.Cx} : QA X [] L2.tNil := ⟨@L2.pa_nil _⟩
theorem qo_none {X : L2.Cx} : QO X Option.none L2.tNoPart := ⟨@L2.po_none _⟩
theorem qif_nil {X : L2.Cx} : QIf X [] L2.tYes := ⟨@L2.pif_nil _⟩
theorem qgs_nil {X : L2.Cx} : QGs X [] L2.gNil := ⟨@L2.pgs_nil _⟩
theorem qt_truth {X : L2.Cx} {a : PySem.Expr} {ta : L2.TE} (ha : QE X a ta) (he : ∀ (whole : PySem.Sem PySem.Value), PySem.isTrue a (L2.Cx.env X) whole = (do let v ← whole; PySem.standAt (PySem.Expr.pos a); PySem.holding [v] (PySem.truthy v))) : QT X a fun (σ : L2.St) (H : L2.Hp) (Q : Bool → L2.Hp → Prop) => ta σ H fun (x : L2.V) (H' : L2.Hp) => ∃ (k : Bool), L2.TruV (L2.Cx.K X) x H' k ∧ Q k H' := ⟨@L2.pt_truth _ _ _ ha.h he⟩
section
variable {P : Program} {w : World} {K : PySem.W.Frag} {mg : Str → Option Value} {base : Heap}
theorem Fun.okQ {x qual : Str} {st : Stmt} {f : Addr} {fd : FuncData} {N ps : List Str} {k : Nat} {sp : Sp} (F : Fun K x qual st f fd) (S : FnScope N ps (defScope st)) (len : ∀ vs H Q E, sp vs H Q E → vs.length = ps.length)
    (hbody : ∀ (cdv : Value) (A : Around) (outer : List Env) (s : Shared) (H : Hp) (vs : List V) (Q : VK) (E : XK), Room k (A.deeper (envOfC qual (defScope st) s.heap.objs.size f cdv)) → sp vs H Q E →
      ∃ t, QSs (cxOf CX0 P w K mg base N qual (defScope st) f cdv A outer s H E).nox (defBody st) t ∧ t { nx := fun _ H' => Q .non H', rt := Q } (start N vs) H) : FnOk P w K mg base CX0 (k + 1) f fd ps sp :=
  F.ok S len fun cdv A outer s H vs Q E hr h => let ⟨t, h1, h2⟩ := hbody cdv A outer s H vs Q E hr h; ⟨t, h1.h, h2⟩
end
end L2
set_option Elab.async false
set_option linter.all false
set_option maxRecDepth 100000
set_option maxHeartbeats 4000000
namespace L2
open PySem PySem.Spec PyProof.Rows
abbrev vbm : List Value := [.type "ValueError", .type "Exception", .type "BaseException", .type "object"]
abbrev ExcC (K : PySem.W.Frag) (C : Addr) : Prop := PySem.W.excIn K C vbm "ValueError.__new__" = true
theorem exc_obj {K : PySem.W.Frag} {h : Heap} {C : Addr} {bmB : List Value} {newId : String} (X : K.In h) (q : PySem.W.excIn K C bmB newId = true) :
    ∃ bm N nm qn bs hdct sn sub ab col dd k0 k1 k2 k3 k5 mN, h.get? C = some (excClassObj nm qn C N bs bm hdct sn sub ab col dd k0 k1 k2 k3 k5 newId) ∧ h.Ns N mN ∧ mN "__init__" = none ∧ OwnTail h bmB bm ∧
      ∀ v b, PySem.W.mroIn K C v = some b → (Value.ref C :: bm).contains v = b := by
  unfold PySem.W.excIn at q
  split at q
  · rename_i dd cd sl ho
    split at q
    · rename_i C' bm k0 k1 k2 k3 n k5 hm hs
      simp only [Bool.and_eq_true, beq_iff_eq, Bool.not_eq_true'] at q
      obtain ⟨⟨⟨⟨⟨rfl, rfl⟩, hdel⟩, ht⟩, hok⟩, hni⟩ := q
      obtain ⟨nm, bs, mro, ns, qn, hd, sn, sub, ab, col, del⟩ := cd
      dsimp only at hm hdel hok hni
      subst hm hdel
      have hsl : sl = #[k0, k1, k2, k3, some (.builtin n), k5] := by
        obtain ⟨l⟩ := sl
        simp only at hs
        rw [hs]
      subst hsl
      refine ⟨bm, ns, nm, qn, bs, hd, sn, sub, ab, col, dd, k0, k1, k2, k3, k5, _, X _ _ ho, .of_isNs (PySem.W.isNs_of_in X hok), PySem.W.nsMap_none_of_in X hok hni, PySem.W.tail_of_in X ht, fun v b e => ?_⟩
      unfold PySem.W.mroIn PySem.W.clsIn at e
      rw [ho] at e
      simpa using e
    · cases q
  · cases q
theorem excMatches_own {M : Model} {A : Around} {E : Value → Shared → Prop} {K : PySem.W.Frag} {h : Heap} {g : Array GenState} {d : Drawn} {t : Nat} {os : OsState} {e C D : Addr} {oe : Obj} {b : Bool} {Q : Bool → Shared → Prop} (X : K.In h)
    (hC : ExcC K C) (hD : ExcC K D) (he : h.get? e = some oe) (hcls : oe.cls = .ref C) (hm : PySem.W.mroIn K C (.ref D) = some b) (hq : Q b ⟨h, g, d, t, os⟩) : wpAny M A (excMatches (.ref e) (.ref D)) Q E ⟨h, g, d, t, os⟩ := by
  obtain ⟨bm, N, nm, qn, bs, hdct, sn, sub, ab, col, dd, k0, k1, k2, k3, k5, mN, oC, _, _, _, mroC⟩ := exc_obj X hC
  obtain ⟨bm', N', nm', qn', bs', hdct', sn', sub', ab', col', dd', l0, l1, l2, l3, l5, mN', oD, _, _, TD, _⟩ := exc_obj X hD
  have hcB : (Value.ref D :: bm').contains (.type "BaseException") = true := by
    rw [List.contains_cons, TD.hasType (X := "BaseException") (b := true) (by decide), Bool.or_true]
  have hcC : (Value.ref C :: bm).contains (.ref D) = b := mroC _ _ hm
  have f := tc_notTuple
  unfold excMatches
  repeat (first | (with_reducible refine wpAny_loadPart_at he ?_; rw [hcls]) | with_reducible refine wpAny_loadPart_at oD ?_ | (with_reducible refine wpAny_isSubtype_exc oD ?_; rw [hcB]) | (with_reducible refine wpAny_isSubtype_exc oC ?_; rw [hcC]) | wp_step)
  all_goals (cases b <;> first | exact hq | (wp_walk; exact hq))
theorem ObjOk.there {P : Program} {w : World} {H : Hp} {h : Heap} {a : Addr} {o : HO} (x : ObjOk P w H h a o) : ∃ ob, h.get? a = some ob := by
  cases o with
  | lst xs => obtain ⟨_, _, _, _, e⟩ := x; exact ⟨_, e⟩
  | tup xs => obtain ⟨_, _, _, p⟩ := x; obtain ⟨ob, e, _⟩ := p; exact ⟨ob, e⟩
  | dK kvs => obtain ⟨_, _, _, _, o, _, _, e, _⟩ := x; exact ⟨_, e⟩
  | dT kvs => obtain ⟨_, _, _, _, o, _, _, e, _⟩ := x; exact ⟨_, e⟩
  | set S n => obtain ⟨o, _, _, _, e, _⟩ := x; exact ⟨_, e⟩
  | ins C dx fs => obtain ⟨_, _, _, e, _⟩ := x; exact ⟨_, e⟩
  | own y => exact x
  | xd fs => obtain ⟨_, ⟨_, _, _, e, _⟩, _⟩ := x; exact ⟨_, e⟩
  | rng lo hi => obtain ⟨_, _, _, e⟩ := x; exact ⟨_, e⟩
  | frz ob u => obtain ⟨e, _⟩ := x; exact ⟨_, e⟩
  | tbl ps => exact ⟨_, show h.get? a = some _ from x⟩
  | met f y => exact ⟨_, show h.get? a = some _ from x⟩
  | ext φ => obtain ⟨_, e, _⟩ := x; exact e
structure XO (P : Program) (w : World) (outer : List Env) (H : Hp) (s : Shared) (cls : Value) (a : Addr) (H' : Hp) (s' : Shared) : Prop where
  os : s'.os = s.os
  bare : AllBare s'.gens
  un : Un (frs outer) [] H H' s.heap s'.heap
  hok : HOk P w H' s'.heap
  new : s.heap.get? a = none
  free : H' a = none
  fly : ∃ B a0, Heap.FlyingW B outer a cls a0 s'.heap ∧ ∀ b o, (H' b ≠ none ∨ ∃ o', s.heap.get? b = some o') → b ∉ frs outer → s'.heap.get? b = some o → B.get? b = some o
def CXe (P : Program) (w : World) : CXT := fun outer H s E e s' => ∃ a cls H', e = .ref a ∧ XO P w outer H s cls a H' s' ∧ E cls none H'
section
variable {X : Cx} {pins : List (Addr × Obj)} {σ : St} {H H' : Hp} {s s' : Shared} {M : Model} {E' : Value → Shared → Prop} {a : Addr} {cls : Value}
theorem Un.fly {fs : List Addr} {H0 : Hp} {h0 h h' B : Heap} {fr : List Addr} (u : Un fs [] H0 H h0 h) (hfs : ∀ b ∈ fr, b ∈ fs ∨ ∀ o, h0.get? b ≠ some o) (stay : B.StaysIn h') (big : ∀ b o, h.get? b = some o → b ∉ fr → (H b ≠ none ∨ ∃ o', h0.get? b = some o') → B.get? b = some o)
    (slots : ∀ b o, h.get? b = some o → b ∈ fr → ∃ sl, h'.get? b = some { o with slots := sl }) (sub : ∀ b ∈ fs, b ∈ fr) : Un fs [] H0 H h0 h' where
  keep := fun b o q n hb hx => by
    have e := u.keep b o q n hb hx
    have hf : b ∉ fr := fun z => by
      rcases hfs b z with y | y
      · exact hb y
      · exact y o q
    exact stay b o (big b o e hf (.inr ⟨o, q⟩))
  slot := fun b o q n hb hx => by
    obtain ⟨sl, e⟩ := u.slot b o q n hb hx
    obtain ⟨sl', e'⟩ := slots b _ e (sub b hb)
    exact ⟨sl', e'⟩
  free := u.free
  there := fun b o q hx => by
    obtain ⟨o', e⟩ := u.there b o q hx
    by_cases hf : b ∈ fr
    · obtain ⟨sl, e'⟩ := slots b o' e hf
      exact ⟨_, e'⟩
    · exact ⟨o', stay b o' (big b o' e hf (.inr ⟨o, q⟩))⟩
  tups := u.tups
  frzs := u.frzs
  tbls := u.tbls
theorem HOk.fly {P : Program} {w : World} {H : Hp} {h h' B : Heap} {fr : List Addr} (ok : HOk P w H h) (hfr : ∀ b ∈ fr, H b = none) (stay : B.StaysIn h') (big : ∀ b o, h.get? b = some o → b ∉ fr → H b ≠ none → B.get? b = some o) : HOk P w H h' := fun a o e => by
  refine (ok a o e).stay (fun b u hb q => ?_) (fun _ q => q) fun _ _ q => q
  have hn : H b ≠ none := by
    rcases hb with rfl | hb
    · rw [e]; exact fun z => nomatch z
    · rw [hb]; exact fun z => nomatch z
  exact stay b u (big b u q (fun z => hn (hfr b z)) hn)
theorem frs_cons {env : Env} {l : List Env} {L : Addr} (h : env.frame = some L) : frs (env :: l) = L :: frs l := by
  unfold frs
  rw [List.filterMap_cons, h]
theorem Inv.raise (I : Inv X pins σ H s) (hs : X.stack = X.env :: X.outer) (hf : X.env.frame = some X.env.locals) (hex : X.ex = []) {h1 : Heap} {args : List Value} (hx : Heap.MadeExcOf s.heap h1 a cls args) :
    wpAny M X.A (leaving X.env (.ref a)) (fun _ s'' => XO X.prog X.w X.outer X.H₀ X.s₀ cls a H s'') E' { s with heap := h1 } := by
  have hfr : X.A.frames = some (X.env :: X.outer) := by rw [← hs]; exact I.ok.frames
  have hFF : s.heap.FunFrames X.base (X.env :: X.outer) := by rw [← hs]; exact I.stack
  have hin : ∀ env ∈ (X.env :: X.outer), ∀ b, env.frame = some b → b ∈ frs (X.env :: X.outer) := fun env he b hb => List.mem_filterMap.mpr ⟨env, he, hb⟩
  have hfree : ∀ b ∈ frs (X.env :: X.outer), H b = none := by rw [← hs]; exact I.stkFree
  have ub : Un X.fs [] X.H₀ H X.s₀.heap s.heap := by have := I.base; rw [hex] at this; exact this
  have nL : ∀ o, X.s₀.heap.get? X.env.locals ≠ some o := fun o z => absurd (Nat.lt_of_lt_of_le (Heap.lt_size z) I.ok.above) (Nat.lt_irrefl _)
  have big : ∀ b o, s.heap.get? b = some o → b ∉ frs (X.env :: X.outer) → (PySem.W.hideAll s.heap (frs (X.env :: X.outer))).get? b = some o := fun b o e n => PySem.W.hideAll_get _ e n
  refine wpAny_leaves_madeW (base := PySem.W.hideAll s.heap (frs (X.env :: X.outer))) hfr hf (fun b o q => PySem.W.of_hideAll _ q) (PySem.W.funFrames_hide hFF hin) hx fun h' t fl _ _ up => ?_
  have slots : ∀ b o, s.heap.get? b = some o → b ∈ frs (X.env :: X.outer) → ∃ sl, h'.get? b = some { o with slots := sl } := fun b o e hb => by
    obtain ⟨_, o', e', nf⟩ := hFF.mem hb
    rw [e] at e'
    cases e'
    exact up b o (hx.keeps b o e) nf
  have hfs : ∀ b ∈ frs (X.env :: X.outer), b ∈ X.fs ∨ ∀ o, X.s₀.heap.get? b ≠ some o := fun b hb => by
    rw [frs_cons hf] at hb
    rcases List.mem_cons.mp hb with rfl | hb
    · exact .inr nL
    · exact .inl hb
  have sub : ∀ b ∈ X.fs, b ∈ frs (X.env :: X.outer) := fun b hb => by
    rw [frs_cons hf]
    exact List.mem_cons_of_mem _ hb
  refine ⟨I.os, I.bare, ub.fly hfs fl.1 (fun b o e n _ => big b o e n) slots sub, I.hok.fly hfree fl.1 (fun b o e n _ => big b o e n), ?_, ?_, _, _, fl, fun b o hb hn e => ?_⟩
  · cases q : X.s₀.heap.get? a with
    | none => rfl
    | some o =>
      obtain ⟨o', e⟩ := ub.there a o q (by simp)
      have := hx.new
      rw [e] at this
      cases this
  · cases q : H a with
    | none => rfl
    | some o =>
      obtain ⟨ob, e⟩ := (I.hok a o q).there
      have := hx.new
      rw [e] at this
      cases this
  · have hbs : ∃ ob, s.heap.get? b = some ob := by
      rcases hb with hb | ⟨o', hb⟩
      · cases q : H b with
        | none => exact absurd q hb
        | some u => exact (I.hok b u q).there
      · exact ub.there b o' hb (by simp)
    have hnL : b ∉ frs (X.env :: X.outer) := fun z => by
      rw [frs_cons hf] at z
      rcases List.mem_cons.mp z with rfl | z
      · rcases hb with hb | ⟨o', hb⟩
        · exact hb I.free
        · exact nL o' hb
      · exact hn z
    obtain ⟨ob, e1⟩ := hbs
    have e2 := big b ob e1 hnL
    have e3 := fl.1 b ob e2
    rw [e] at e3
    cases e3
    exact e2
theorem Inv.pass (I : Inv X pins σ H s) (hs : X.stack = X.env :: X.outer) (hf : X.env.frame = some X.env.locals) (hex : X.ex = []) (x : XO X.prog X.w X.stack H s cls a H' s') :
    wpAny M X.A (leaving X.env (.ref a)) (fun _ s'' => XO X.prog X.w X.outer X.H₀ X.s₀ cls a H' s'') E' s' := by
  rw [hs] at x
  have hfr : X.A.frames = some (X.env :: X.outer) := by rw [← hs]; exact I.ok.frames
  obtain ⟨B, a0, fly, big⟩ := x.fly
  have ub : Un X.fs [] X.H₀ H X.s₀.heap s.heap := by have := I.base; rw [hex] at this; exact this
  have nL : ∀ o, X.s₀.heap.get? X.env.locals ≠ some o := fun o z => absurd (Nat.lt_of_lt_of_le (Heap.lt_size z) I.ok.above) (Nat.lt_irrefl _)
  have hfree : ∀ b ∈ frs (X.env :: X.outer), H b = none := by rw [← hs]; exact I.stkFree
  have hFF : s.heap.FunFrames X.base (X.env :: X.outer) := by rw [← hs]; exact I.stack
  have hsub : ∀ b ∈ X.fs, b ∈ frs (X.env :: X.outer) := fun b hb => by
    rw [frs_cons hf]
    exact List.mem_cons_of_mem _ hb
  -- from the entry to where the callee left
  have ut : Un X.fs [] X.H₀ H' X.s₀.heap s'.heap := by
    have nofr : ∀ b o, X.s₀.heap.get? b = some o → b ∉ X.fs → b ∉ frs (X.env :: X.outer) := fun b o q hb z => by
      rw [frs_cons hf] at z
      rcases List.mem_cons.mp z with rfl | z
      · exact nL o q
      · exact hb z
    refine ⟨fun b o q n hb hx => x.un.keep b o (ub.keep b o q n hb hx) (ub.free b o q n hx) (nofr b o q hb) (by simp), fun b o q n hb hx => ?_, fun b o q n hx => ?_, fun b o q hx => ?_, fun b xs q => x.un.tups b xs (ub.tups b xs q), fun b o u q => x.un.frzs b o u (ub.frzs b o u q), fun b ps q => ?_⟩
    · obtain ⟨sl, e⟩ := ub.slot b o q n hb hx
      obtain ⟨sl', e'⟩ := x.un.slot b _ e (ub.free b o q n hx) (hsub b hb) (by simp)
      exact ⟨sl', e'⟩
    · obtain ⟨o', e⟩ := ub.there b o q hx
      exact x.un.free b o' e (ub.free b o q n hx) (by simp)
    · obtain ⟨o', e⟩ := ub.there b o q hx
      exact x.un.there b o' e (by simp)
    · obtain ⟨m1, e1⟩ := ub.tbls b ps q
      obtain ⟨m2, e2⟩ := x.un.tbls b _ e1
      exact ⟨m1 ++ m2, by rw [e2, Array.append_assoc]⟩
  have hfree' : ∀ b ∈ frs (X.env :: X.outer), H' b = none := fun b hb => by
    obtain ⟨_, o, e, _⟩ := hFF.mem hb
    exact x.un.free b o e (hfree b hb) (by simp)
  refine wpAny_leaves_onW hfr hf fly fun h' fl up => ?_
  have bigT : ∀ b o, s'.heap.get? b = some o → b ∉ frs (X.env :: X.outer) → (H' b ≠ none ∨ ∃ o', X.s₀.heap.get? b = some o') → B.get? b = some o := fun b o e n hb => by
    refine big b o ?_ n e
    rcases hb with hb | ⟨o', hb⟩
    · exact .inl hb
    · exact .inr (ub.there b o' hb (by simp))
  have slots : ∀ b o, s'.heap.get? b = some o → b ∈ frs (X.env :: X.outer) → ∃ sl, h'.get? b = some { o with slots := sl } := fun b o e hb => by
    obtain ⟨_, o', e', nf⟩ := fly.2.2.1.mem hb
    rw [e] at e'
    cases e'
    exact up b o e nf
  have hfs : ∀ b ∈ frs (X.env :: X.outer), b ∈ X.fs ∨ ∀ o, X.s₀.heap.get? b ≠ some o := fun b hb => by
    rw [frs_cons hf] at hb
    rcases List.mem_cons.mp hb with rfl | hb
    · exact .inr nL
    · exact .inl hb
  refine ⟨x.os.trans I.os, x.bare, ut.fly hfs fl.1 bigT slots hsub, x.hok.fly hfree' fl.1 (fun b o e n hb => bigT b o e n (.inl hb)), ?_, x.free, B, a0, fl, fun b o hb hn e => ?_⟩
  · cases q : X.s₀.heap.get? a with
    | none => rfl
    | some o =>
      obtain ⟨o', e⟩ := ub.there a o q (by simp)
      have := x.new
      rw [e] at this
      cases this
  · have hnL : b ∉ frs (X.env :: X.outer) := fun z => by
      rw [frs_cons hf] at z
      rcases List.mem_cons.mp z with rfl | z
      · rcases hb with hb | ⟨o', hb⟩
        · exact hb (hfree' _ (by rw [frs_cons hf]; exact List.mem_cons_self))
        · exact nL o' hb
      · exact hn z
    have hbs : ∃ ob, s'.heap.get? b = some ob := by
      rcases hb with hb | ⟨o', hb⟩
      · cases q : H' b with
        | none => exact absurd q hb
        | some u => exact (x.hok b u q).there
      · exact ut.there b o' hb (by simp)
    obtain ⟨ob, e1⟩ := hbs
    have e2 := bigT b ob e1 hnL hb
    have e3 := fl.1 b ob e2
    rw [e] at e3
    cases e3
    exact e2
end
end L2
set_option Elab.async false
set_option linter.all false
set_option maxRecDepth 100000
set_option maxHeartbeats 4000000
namespace L2
open PySem PySem.Spec PyProof.Rows
def Cx.hand (X : Cx) (a : Addr) : Cx := { X with A := X.A.mark (some (.ref a)), calm := false, xe := fun _ _ => False }
theorem Cx.Ok.hand {X : Cx} (ok : X.Ok) (a : Addr) : (X.hand a).Ok :=
  ⟨ok.mod, ok.kind, ok.glob, ok.blt, ok.above, ok.inj, ok.has, ok.cab, (fun z => nomatch z), ok.frames, ok.stk, ok.exf, ok.bs, ok.bsz, ok.noex, ok.exfs, ok.funs, ok.frf⟩
section
variable {X : Cx} {pins : List (Addr × Obj)} {σ : St} {H H' : Hp} {s s' : Shared} {a : Addr}
theorem Inv.hand (I : Inv X pins σ H s) (a : Addr) : Inv (X.hand a) pins σ H s := ⟨I.ok.hand a, I.os, I.bare, I.base, I.loc, I.cell, I.free, I.freeC, I.pin, I.hok, I.len⟩
theorem Inv.unhand (ok : X.Ok) (I : Inv (X.hand a) pins σ H s) : Inv X pins σ H s := ⟨ok, I.os, I.bare, I.base, I.loc, I.cell, I.free, I.freeC, I.pin, I.hok, I.len⟩
theorem Inv.track {o : HO} (I : Inv X pins σ H s) (hn : H a = none) (hnew : ∀ u, X.s₀.heap.get? a ≠ some u) (hok : ObjOk X.prog X.w (upd H a o) s.heap a o) (neL : a ≠ X.env.locals) (neC : ∀ x c, X.env.cells.lookup x = some c → c ≠ a) (neP : ∀ p ∈ X.pn ++ pins, p.1 ≠ a) : Inv X pins σ (upd H a o) s := by
  have ne : ∀ {b : Addr} {u : HO}, H b = some u → b ≠ a := fun e => ne_of_none e hn
  refine ⟨I.ok, I.os, I.bare, ⟨I.base.keep, I.base.slot, fun b u q n hx => ?_, I.base.there, fun b xs q => ?_, fun b u v q => ?_, fun b ps q => ?_⟩, I.loc, I.cell, ?_, fun x c e => ?_, fun p hp => ?_, fun b u q => ?_, I.len⟩
  · rw [upd_ne (fun z : b = a => hnew u (by rw [← z]; exact q))]
    exact I.base.free b u q n hx
  · have := I.base.tups b xs q
    rw [upd_ne (ne this)]
    exact this
  · have := I.base.frzs b u v q
    rw [upd_ne (ne this)]
    exact this
  · obtain ⟨m, e⟩ := I.base.tbls b ps q
    exact ⟨m, by rw [upd_ne (ne e)]; exact e⟩
  · rw [upd_ne (Ne.symm neL)]
    exact I.free
  · rw [upd_ne (neC x c e)]
    exact I.freeC x c e
  · obtain ⟨e, n, y⟩ := I.pin p hp
    exact ⟨e, by rw [upd_ne (neP p hp)]; exact n, y⟩
  · by_cases hb : b = a
    · subst hb
      rw [upd_same] at q
      cases q
      exact hok
    · rw [upd_ne hb] at q
      exact (I.hok b u q).stay (fun _ _ _ z => z) (fun c z => by rw [upd_ne (ne z)]; exact z) fun c xs z => by rw [upd_ne (ne z)]; exact z
theorem Inv.gone {i : Nat} {x : Str} {h' : Heap} {v : Option Value} {m : Str → Option Value} {tk : Nat} (I : Inv X pins σ H s) (hN : X.N.Nodup) (hi : X.N[i]? = some x) (hn : s.heap.Ns X.env.locals m)
    (hl : ∀ (i : Nat) (x : Str) (v : V), X.N[i]? = some x → σ[i]? = some (some v) → Vis X.env.scope x → ∃ u, RelV v u ∧ Look X.env s.heap m x u)
    (hn' : h'.Ns X.env.locals (fun y => if y = x then v else m y)) (hs : Heap.SameBut X.env.locals s.heap h') : Inv X pins (σ.set i none) H { s with heap := h', toks := tk } := by
  have cne := I.cne
  obtain ⟨oL, _, _, hoL, _⟩ := id hn
  refine ⟨I.ok, I.os, I.bare, ⟨fun b o e n hb hx => ?_, fun b o e n hb hx => ?_, I.base.free, fun b o e hx => ?_, I.base.tups, I.base.frzs, I.base.tbls⟩, ⟨_, hn', fun j y v' e1 e2 e3 => ?_⟩, fun y c e => ?_, I.free, I.freeC, fun p hp => ?_, fun b ob e => ?_, by simpa using I.len⟩
  · exact (hs.2 b (Nat.ne_of_lt (Nat.lt_of_lt_of_le (Heap.lt_size e) I.ok.above))).trans (I.base.keep b o e n hb hx)
  · obtain ⟨sl, e1⟩ := I.base.slot b o e n hb hx
    exact ⟨sl, (hs.2 b (Nat.ne_of_lt (Nat.lt_of_lt_of_le (Heap.lt_size e) I.ok.above))).trans e1⟩
  · obtain ⟨o', e1⟩ := I.base.there b o e hx
    exact ⟨o', (hs.2 b (Nat.ne_of_lt (Nat.lt_of_lt_of_le (Heap.lt_size e) I.ok.above))).trans e1⟩
  · by_cases hj : j = i
    · subst hj
      by_cases hlt : j < σ.length
      · rw [List.getElem?_set_self hlt] at e2; cases e2
      · rw [List.getElem?_eq_none (by simp; omega)] at e2; cases e2
    · rw [List.getElem?_set_ne (Ne.symm hj)] at e2
      obtain ⟨u', r', q⟩ := hl j y v' e1 e2 e3
      refine ⟨u', r', ?_⟩
      rcases q with ⟨k, e⟩ | ⟨k, c, e, z⟩
      · refine .inl ⟨k, ?_⟩
        have : y ≠ x := fun e => hj (nodup_ix hN e1 (e ▸ hi))
        simp [this, e]
      · exact .inr ⟨k, c, e, z.sameBut hs (cne y c e)⟩
  · obtain ⟨w', z⟩ := I.cell y c e
    exact ⟨w', z.sameBut hs (cne y c e)⟩
  · obtain ⟨e, n, ne, nf, d⟩ := I.pin p hp
    exact ⟨(hs.2 p.1 ne).trans e, n, ne, nf, d⟩
  · refine (I.hok b ob e).stay (fun c w' hc q => (hs.2 c ?_).trans q) (fun _ q => q) fun _ _ q => q
    rintro rfl
    rcases hc with rfl | hc
    · rw [I.free] at e; cases e
    · rw [I.free] at hc; cases hc
def tRaise (EX : Hp → Prop) (t : TA) : TS := fun _ σ H => t σ H fun vs H1 => vs.length ≤ 10 ∧ EX H1
theorem ps_raise {x : Str} {C : Addr} {e : Expr} {es : List Expr} {t : TA} {np cpos pos : Pos} {EX : Hp → Prop} (hc : X.calm = true) (hg : Gl X x) (hm : X.mg x = some (.ref C)) (he : ExcC X.K C) (ha : PA X (e :: es) t)
    (hx : ∀ pins σ H s h' a vs, Inv X pins σ H s → Heap.MadeExcOf s.heap h' a (.ref C) vs → EX H → X.xe (.ref a) { s with heap := h' })
    (hd : (x == ("__debug__" : Str)) = false := by decide) (hst : starEach (e :: es) X.env = (false, eval e X.env) :: starEach es X.env := by rfl) (hpl : (backTo cpos (starEach es X.env)).any (·.1) = false := by rfl) :
    PS X (.Raise (some (.Call (.Name x np) (e :: es) [] cpos)) none pos) (tRaise EX t) := by
  intro pins s σ H D I h
  obtain ⟨bm, N, nm, qn, bs, hdct, sn, sub, ab, col, dd, k0, k1, k2, k3, k5, mN, oC, hN, hni, TL, _⟩ := exc_obj (I.ok.mod.kin) he
  refine wpAny_Raise_call_subT (C := C) (nm := nm) (q := qn) (N := N) (bs := bs) (bm := bm) (hdct := hdct) (sn := sn) (sub := sub) (ab := ab) (col := col) (dd := dd) (k0 := k0) (k1 := k1) (k2 := k2) (k3 := k3) (k5 := k5)
    PySem.F.excBase_ValueError (mN := mN) (TL.hasType (by decide)) (I.ok.hd hc) (by rw [hst]; show (false || (backTo cpos (starEach es X.env)).any (·.1)) = false; rw [hpl]; rfl) hni (ld_glob I hg hm ⟨rfl, ?_⟩ hd)
  have hA := ha cpos pins s σ H _ I h
  rw [hst] at hA ⊢
  refine Calls.evalArgs_plain (thn hA fun us s1 ⟨vs, H1, I1, r, z, q⟩ => ⟨rfl, ?_, I1.bk _ _ oC, hN.keeps I1.bk, TL.keeps I1.bk, fun h' a hmk => hx pins σ H1 s1 h' a us I1 hmk q⟩)
  rw [← r.length]
  exact fits2 (by omega)
end
section
variable {P : Program} {w : World} {K : PySem.W.Frag} {mg : Str → Option Value} {base : Heap} {N : List Str} {qual : Str} {scope : Scope} {f : Addr} {cd : Value} {A : Around} {outer : List Env} {s₀ : Shared} {H₀ : Hp} {E : XK}
theorem xe_raise {C : Addr} : ∀ pins σ H s h' a vs, Inv (cxOf (CXe P w) P w K mg base N qual scope f cd A outer s₀ H₀ E) pins σ H s → Heap.MadeExcOf s.heap h' a (.ref C) vs → E (.ref C) none H →
    (cxOf (CXe P w) P w K mg base N qual scope f cd A outer s₀ H₀ E).xe (.ref a) { s with heap := h' } := fun pins σ H s h' a vs I hmk q =>
  wpAny_mono (Inv.raise (M := model P w) (E' := fun _ _ => False) I rfl rfl rfl hmk) (fun _ s'' x => ⟨a, .ref C, H, rfl, x, q⟩) fun _ _ z => z.elim
theorem pass_on : Passes (CXe P w) (cxOf (CXe P w) P w K mg base N qual scope f cd A outer s₀ H₀ E) E := fun pins σ H s e s' I h => by
  obtain ⟨a, cls, H', rfl, x, q⟩ := h
  exact wpAny_mono (Inv.pass (M := model P w) (E' := fun _ _ => False) I rfl rfl rfl x) (fun _ s'' y => ⟨a, cls, H', rfl, y, q⟩) fun _ _ z => z.elim
theorem Fun.okE {x qual : Str} {st : Stmt} {f : Addr} {fd : FuncData} {N ps : List Str} {k : Nat} {sp : Sp} (F : Fun K x qual st f fd) (S : FnScope N ps (defScope st)) (len : ∀ vs H Q E, sp vs H Q E → vs.length = ps.length)
    (hbody : ∀ (cdv : Value) (A : Around) (outer : List Env) (s : Shared) (H : Hp) (vs : List V) (Q : VK) (E : XK), Room k (A.deeper (envOfC qual (defScope st) s.heap.objs.size f cdv)) → sp vs H Q E →
      ∃ t, QSs (cxOf (CXe P w) P w K mg base N qual (defScope st) f cdv A outer s H E) (defBody st) t ∧ t { nx := fun _ H' => Q .non H', rt := Q } (start N vs) H) : FnOk P w K mg base (CXe P w) (k + 1) f fd ps sp := by
  obtain ⟨oc, od, kV, doc, pm, an, cdv, ct, osl, rfl, lk, hcd⟩ := F.ex
  refine fn_of lk hcd S len fun A outer s H vs Q E hr hsp => ?_
  obtain ⟨t, h, q⟩ := hbody cdv A outer s H vs Q E hr hsp
  exact ⟨t, h.h, q⟩
end
def excO (a C : Addr) : HO := .ext fun h => ∃ o, h.get? a = some o ∧ o.cls = .ref C
def tTry (K : PySem.W.Frag) (Dc : Addr) (i : Nat) (sp : Sp) (t : TA) (ts : TS) : TS := fun D σ H => t σ H fun vs H1 => sp vs H1 (fun _ H2 => D.nx σ H2) fun cls _ H2 => ∃ C, cls = .ref C ∧ ExcC K C ∧ PySem.W.mroIn K C (.ref Dc) = some true ∧
  ∀ a, H2 a = none → ts { nx := fun σ' H' => D.nx (σ'.set i none) H', rt := fun _ _ => False, bk := fun _ _ => False, ct := fun _ _ => False } (σ.set i (some (.ref a))) (upd H2 a (excO a C))
section
variable {X : Cx} {k : Nat} {f Dc : Addr} {fd : FuncData} {ps : List Str} {sp : Sp} {x dn n : Str} {i : Nat} {p cpos epos np hpos pos : Pos} {e : Expr} {es : List Expr} {t : TA} {ts : TS} {b0 : Stmt} {suite : List Stmt}
theorem ps_try (F : FnOk X.prog X.w X.K X.mg X.base (CXe X.prog X.w) k f fd ps sp) (hr : Room k X.A) (hg : Gl X x) (hm : X.mg x = some (.ref f)) (hk : PySem.W.keepIn X.K (.ref f) = true) (hb : Binds X.K fd ps [])
    (ha : PA X.nox (e :: es) t) (hgD : Gl X dn) (hmD : X.mg dn = some (.ref Dc)) (hD : ExcC X.K Dc) (hN : X.N.Nodup) (hi : X.N[i]? = some n) (hn : X.env.scope.names.lookup n = some .local) (hstk : X.stack = X.env :: X.outer) (hfr : X.env.frame = some X.env.locals) (hex : X.ex = [])
    (hs : ∀ a, PSs (X.hand a) (b0 :: suite) ts)
    (hdb : (x == ("__debug__" : Str)) = false := by decide) (hdd : (dn == ("__debug__" : Str)) = false := by decide) (he : starEach (e :: es) X.env = (false, eval e X.env) :: starEach es X.env := by rfl) (hpl : (backTo cpos (starEach es X.env)).any (·.1) = false := by rfl)
    (hsw : swapsWith (.Call (.Name x p) (e :: es) [] cpos) none epos.line X.env = pure false := by rfl) :
    PS X (.Try [.Expr (.Call (.Name x p) (e :: es) [] cpos) epos] [.ExceptHandler (some (.Name dn np)) (some n) (b0 :: suite) hpos] [] [] pos) (tTry X.K Dc i sp t ts) := by
  intro pins s σ H D I h
  refine wpAny_Try_except (wpAny_execs_cons (wpAny_Expr_any (wpAny_Call_Name_kw (ld_glob I hg hm ?_ hdb)) I.quiet hsw))
  refine PySem.W.callWith_K (h₀ := X.base) I.ok.mod.kin hk (wpAny_mono (ha cpos pins s σ H _ (I.wish _) h) (fun us s1 ⟨vs, H1, I1n, r, q⟩ => ⟨I1n.kIn, ?_⟩) fun _ _ z => z.elim) he hpl
  have I1 : Inv X pins σ H1 s1 := I1n.unwish
  have hl : (us ++ []).length = ps.length := by rw [List.append_nil, ← r.length]; exact F.len _ _ _ _ q
  have hbb := hb s1 us I1.kIn hl
  rw [List.append_nil] at hbb
  refine wpAny_call (codeAny_mono (F.run X.A X.stack s1 H1 ⟨us, []⟩ us vs _ _ hr I1.env0 hbb r q) fun res s' hq => ?_)
  cases res with
  | ok fl =>
    cases fl with
    | ret u =>
      obtain ⟨v, H2, I2, _, q2⟩ := I1.after hq
      exact wpAny_execs_nil (wpAny_execs_nil ⟨σ, H2, I2, q2⟩)
    | next => exact False.elim hq
    | brk => exact False.elim hq
    | cont => exact False.elim hq
  | error ev =>
    obtain ⟨a, cls, H2, rfl, x, C, rfl, hC, hmro, q2⟩ := hq
    obtain ⟨B, a0, fly, big⟩ := x.fly
    have hfrm : X.A.frames = some (X.env :: X.outer) := by rw [← hstk]; exact I.ok.frames
    rw [hstk] at fly
    -- all states on the way are like s' but for frames' slots and the exception's own records
    have keep : ∀ h6 : Heap, B.StaysIn h6 → s'.heap.UpToSlots h6 → ∀ tk : Nat, Inv X pins σ H2 { s' with heap := h6, toks := tk } := fun h6 st up tk => by
      have slots : ∀ b o, s'.heap.get? b = some o → b ∈ frs X.stack → ∃ sl, h6.get? b = some { o with slots := sl } := fun b o e hb => by
        rw [hstk] at hb
        obtain ⟨_, o', e', nf⟩ := fly.2.2.1.mem hb
        rw [e] at e'
        cases e'
        exact up b o e nf
      have hfree' : ∀ b ∈ frs X.stack, H2 b = none := fun b hb => by
        obtain ⟨_, o, e, _⟩ := I1.stack.mem hb
        exact x.un.free b o e (I1.stkFree b hb) (by simp)
      refine I1.call' (ch := []) x.os (x.un.fly (fun b hb => .inl hb) st (fun b o e n hb => big b o hb n e) slots fun b hb => hb) (x.hok.fly hfree' st (fun b o e n hb => big b o (.inl hb) n e)) x.bare (fun b z => absurd z (by simp))
    refine wpAny_looks_onW hfrm hfr fly fun h4 held4 sm4 => wpAny_landsW held4 fun h5 fl5 sm5 => ?_
    have I5 := keep h5 fl5.1 (sm4.trans sm5) s'.toks
    obtain ⟨oe, hoe, hoc⟩ := fl5.there
    refine wpAny_handleBy_cons (codeAny_handlers_test (ld_glob (I5.hand a) hgD hmD (excMatches_own (K := X.K) I5.kIn hC hD hoe hoc hmro ?_) hdd)) (by intro z; cases z)
    refine codeAny_handlers_suite_as (lands_againW fl5 fun h6 fl6 sm6 => ?_)
    have I6 := keep h6 fl6.1 ((sm4.trans sm5).trans sm6) s'.toks
    obtain ⟨oe6, hoe6, hoc6⟩ := fl6.there
    have hnew1 : s1.heap.get? a = none := x.new
    have I7 : Inv X pins σ (upd H2 a (excO a C)) { s' with heap := h6 } := by
      refine I6.track x.free (fun u z => ?_) ⟨⟨oe6, hoe6, hoc6⟩, ⟨oe6, hoe6⟩, fun h1 h2 ⟨o, e1, e2⟩ st => ⟨o, st o e1, e2⟩⟩ (fun z => ?_) (fun y c e z => ?_) (fun p hp z => ?_)
      · obtain ⟨o', e1⟩ := I1.base.there a u z (by rw [hex]; simp)
        rw [hnew1] at e1
        cases e1
      · obtain ⟨m, hns, _⟩ := I1.loc
        obtain ⟨oL, _, _, hoL, _⟩ := hns
        rw [← z, hnew1] at hoL
        cases hoL
      · obtain ⟨v, oc, hoc', _⟩ := I1.cell y c e
        rw [z, hnew1] at hoc'
        cases hoc'
      · obtain ⟨e1, _⟩ := I1.pin p hp
        rw [z, hnew1] at e1
        cases e1
    refine store_ok (X := X.hand a) (v := .ref a) (I7.hand a) hN hi (.inl hn) rfl (fun s7 I8 => ?_) (.inr hn)
    refine wpAny_mono (hs a pins s7 _ _ _ I8 (q2 a x.free)) (fun fw s8 hfw => ?_) fun _ _ z => z.elim
    cases fw with
    | next =>
      obtain ⟨σ', H9, I9, q9⟩ := hfw
      have I9' := I9.unhand I.ok
      obtain ⟨m, hns, hloc⟩ := I9'.loc
      refine wpAny_nameGoes_keeps hn hns (by rw [I.ok.kind]; rfl) fun h10 v hn10 hs10 => ?_
      exact ⟨σ'.set i none, H9, I9'.gone hN hi hns hloc hn10 hs10, q9⟩
    | ret u =>
      obtain ⟨_, _, _, _, _, z⟩ := hfw
      exact z.elim
    | brk =>
      obtain ⟨_, _, _, z⟩ := hfw
      exact z.elim
    | cont =>
      obtain ⟨_, _, _, z⟩ := hfw
      exact z.elim
end
end L2
set_option Elab.async false
set_option linter.all false
set_option maxRecDepth 100000
set_option maxHeartbeats 4000000
namespace L2
open PySem PySem.Spec PySem.Calls PyProof.Rows PySem.W Builtin Builtin.ObjectAttr Builtin.Getset_descriptor
structure XCls (K : Frag) (C : Addr) : Prop where
  ex : ExcC K C
  ga : findIn K (.ref C) "__getattribute__" = some (some (.builtin "BaseException.__getattribute__"))
  gt : findIn K (.ref C) "__getattr__" = some none
  ca : findIn K (.ref C) "__class__" = some (some (.builtin "object.__class__"))
  sp : specialIn K (.builtin "object.__class__") "__get__" = some (some (.builtin "getset_descriptor.__get__"))
  tk : takesIn K (.builtin "object.__class__") = some true
  mo : mroIn K C (.type "object") = some true
  mb : mroIn K C (.type "BaseException") = some true
def ExcAt (a C : Addr) (h : Heap) : Prop := ∃ o, h.get? a = some o ∧ o.cls = .ref C
section
variable {prog : Program} {w : World} {A : Around} {E : Value → Shared → Prop} {K : Frag} {a C : Addr} {s : Shared}
theorem excAt_ty {M : Model} {h : Heap} (p : ExcAt a C h) : Looks M h (typeOf (.ref a)) (.ref C) := by
  obtain ⟨o, h1, h2⟩ := p
  exact h2 ▸ (Looks.ld h1).andThen .now
theorem exc_class_get {R : Result → Shared → Prop} {tp : Value} (X : K.In s.heap) (I : ExcAt a C s.heap) (hm : mroIn K C (.type "object") = some true)
    (h : R (.ok (.ret (.ref C))) s) : codeAny (model prog w) A (.call (.builtin "getset_descriptor.__get__") ⟨[.builtin "object.__class__", .ref a, tp], []⟩) R s := by
  obtain ⟨hh, g, dr, t, os⟩ := s
  have L0 := excAt_ty (M := model prog w) I
  have L1 := looks_mroIn (M := model prog w) X hm
  refine codeAny_call_builtin KF.slot_gs.plain KF.entry_gs (KF.slot_gs.check _ _ _ _ _ _ _ _ KF.type_class (KF.args_gs _ _ _) ?_)
  unfold Builtin.«getset_descriptor.__get__» descrGet
  rw [dga_obj]
  refine wpAny_bind (wpAny_pure ?_)
  unfold descrGetter descrCheckInstance descrNameAndClass isInstance
  simp only [KF.owner_class]
  repeat lk
  refine ⟨Code.quiet_builtin _ (by decide +kernel), codeAny_builtin KF.entry_class ?_⟩
  unfold Builtin.«object.__class__» shownTypeOf
  repeat lk
  exact h
theorem exc_check_ga {M : Model} {nameV : Value} {Q : Unit → Shared → Prop} (X : K.In s.heap) (I : ExcAt a C s.heap) (hm : mroIn K C (.type "BaseException") = some true) (hq : Q () s) : wpAny M A (checkBuiltinCall "BaseException.__getattribute__" ⟨[.ref a, nameV], []⟩) Q E s := by
  obtain ⟨hh, g, dr, t, os⟩ := s
  have hk : builtinKind "BaseException.__getattribute__" = some .slot := by decide +kernel
  have hsplit : splitId "BaseException.__getattribute__" = some ("BaseException", "__getattribute__") := by decide +kernel
  have ha := F.args_bexc_ga (.ref a) nameV
  have L0 := excAt_ty (M := M) I
  have L1 := looks_mroIn (M := M) X hm
  simp only [checkBuiltinCall, hk, hsplit]
  refine wpAny_bind ?_
  unfold isInstance
  refine wpAny_bind (L0.at (L1.at ?_))
  repeat (first | assumption | wp_step)
theorem exc_entry {tk : Tok} {Q : Fin → Shared → Prop} (X : K.In s.heap) (I : ExcAt a C s.heap) (c : XCls K C) (hq : Q (.done (.ret (.ref C))) s) : wpAny (model prog w) A (Builtin.«object.__getattribute__» ⟨[.ref a, .str "__class__" tk], []⟩) Q E s := by
  obtain ⟨hh, g, dr, t, os⟩ := s
  have L0 := excAt_ty (M := model prog w) I
  have L1 := looks_findIn (M := model prog w) X c.ca
  have f5 := F.typeOf_object_class
  have f6 := F.slot_gs_get.lookup
  have f7 := F.slot_gs_set.lookup
  have hT5 : (⟨hh, g, dr, t, os⟩ : Shared).TypeIs (.builtin "object.__class__") "getset_descriptor" := F.typeOf_object_class
  repeat (any_goals (first | assumption | with_reducible refine L0.at ?_ | with_reducible refine L1.at ?_ | wp_step))
  refine exc_class_get X I c.mo ?_
  repeat (any_goals (first | assumption | wp_step))
theorem exc_ca {Q : Option Value → Shared → Prop} (X : K.In s.heap) (I : ExcAt a C s.heap) (c : XCls K C) (hq : Q (some (.ref C)) { s with toks := s.toks + 1 }) : wpAny (model prog w) A (getAttr? (.ref a) "__class__") Q E s := by
  obtain ⟨hh, g, dr, t, os⟩ := s
  have L0 := excAt_ty (M := model prog w) I
  have L1 := looks_findIn (M := model prog w) X c.ga
  have L2' := looks_findIn (M := model prog w) X c.gt
  have f3 := PySem.F.excAttr_ValueError.ga.bind (.ref a)
  have hx2 : (Value.builtin "BaseException.__getattribute__" == Value.builtin "object.__getattribute__") = false := by decide +kernel
  have hx1 : (onTheHeap (Value.ref C) && Value.builtin "BaseException.__getattribute__" == Value.builtin "object.__getattribute__") = false := by rw [hx2]; rfl
  unfold getAttr? getAttrBy?
  repeat (any_goals (first | assumption | with_reducible refine L0.at ?_ | with_reducible refine L1.at ?_ | with_reducible refine L2'.at ?_ | wp_step))
  refine codeAny_call_builtin PySem.F.excAttr_ValueError.ga.plain F.entry_bexc_ga (exc_check_ga X I c.mb (exc_entry X I c ?_))
  exact handed_on rfl (wpAny_pure hq)
theorem kitx_exc (c : XCls K C) : KitX K (.ref a) (.ref C) (ExcAt a C) where
  ty := fun _ _ _ I => excAt_ty I
  it := fun _ h X _ => by
    obtain ⟨bm, N, nm, qn, bs, hdct, sn, sub, ab, col, dd, k0, k1, k2, k3, k5, mN, oC, _⟩ := exc_obj X c.ex
    intro A' Q' E' s' k q
    unfold isType loadHead
    exact wpAny_bind (wpAny_loadPart (k _ _ oC) (wpAny_pure q))
  ne := fun h tp dd its n sl X htp => by
    obtain ⟨bm, N, nm, qn, bs, hdct, sn, sub, ab, col, dd', k0, k1, k2, k3, k5, mN, oC, _⟩ := exc_obj X c.ex
    refine Bool.eq_false_iff.mpr fun q => ?_
    have e : C = tp := Value.ref.inj (beq_iff_eq.mp q)
    subst e
    have z := congrArg (fun o : Option Obj => o.map (·.cls)) (oC.symm.trans htp)
    simp [excClassObj] at z
  ca := fun X I k => exc_ca X I c k
end
section
variable {X : Cx}
theorem vals_refs : ∀ {ds : List Addr} {us : List Value}, Vals (ds.map V.ref) us → us = ds.map Value.ref
  | [], _, r => by cases r; rfl
  | d :: ds, _, r => by
    rw [List.map_cons] at r
    cases r with
    | cons r1 r2 =>
      cases (show _ = Value.ref d from r1)
      rw [vals_refs r2]
      rfl
theorem call_isx : CallR X (.builtin "isinstance") (fun xs H Q => ∃ (a C : Addr) (v : V) (b : Bool), xs = [.ref a, v] ∧ H a = some (excO a C) ∧ XCls X.K C ∧
    ((∃ D, v = .ref D ∧ kitOne X.K (.ref C) (.ref D) = some b) ∨ (∃ T, v = .ty T ∧ kitOne X.K (.ref C) (.type T) = some b) ∨ (∃ (p : Addr) (ds : List Addr), v = .ref p ∧ H p = some (.tup (ds.map V.ref)) ∧ kitAny X.K (.ref C) (ds.map Value.ref) = some b)) ∧ Q (.bl b) H) := by
  intro pins s σ H xs us Q I r h
  obtain ⟨a, C, v, b, rfl, ha, c, alt, q⟩ := h
  obtain ⟨u, u', rfl, ru, rv⟩ := vals2 r
  cases ru
  have hat : ExcAt a C s.heap := (I.hok a _ ha).1
  have fin : ∀ tk, EP X pins σ Q (.bool b) { s with toks := tk } := fun tk => ⟨.bl b, H, I.tok tk, rfl, q⟩
  rcases alt with ⟨D, rfl, e⟩ | ⟨T, rfl, e⟩ | ⟨p, ds, rfl, hp, e⟩
  · cases rv
    exact kia_one (kitx_exc c) I.kIn hat e (fun z => nomatch z) fin
  · cases rv
    exact kia_one (kitx_exc c) I.kIn hat e (fun z => nomatch z) fin
  · cases rv
    obtain ⟨its, r1, ⟨⟨cls, dd, data, sl⟩, ho, hc, n, hd⟩, _⟩ := I.tuple (.of hp)
    simp only at hc hd
    subst hc hd
    rw [vals_refs r1] at ho
    exact kia_tup (kitx_exc c) I.kIn hat ho e (fun z => nomatch z) fin
end
end L2
set_option Elab.async false
set_option linter.all false
set_option maxRecDepth 100000
set_option maxHeartbeats 4000000
namespace L2
open PySem PySem.Spec PyProof.Rows
mutual
/-- what a value shows, read through the abstract heap -/
inductive Shw (K : PySem.W.Frag) (H : Hp) : V → PyData → Prop
  | non : Shw K H .non .none
  | bl (b : Bool) : Shw K H (.bl b) (.bool b)
  | int (i : Int) : Shw K H (.int i) (.int i)
  | str (x : Str) : Shw K H (.str x) (.str x)
  | lst {a : Addr} {vs : List V} {ds : List PyData} : SqL K H a vs → ShwA K H vs ds → Shw K H (.ref a) (.list ds)
  | tup {a : Addr} {vs : List V} {ds : List PyData} : SqT K H a vs → ShwA K H vs ds → Shw K H (.ref a) (.tuple ds)
inductive ShwA (K : PySem.W.Frag) (H : Hp) : List V → List PyData → Prop
  | nil : ShwA K H [] []
  | cons {v : V} {d : PyData} {vs : List V} {ds : List PyData} : Shw K H v d → ShwA K H vs ds → ShwA K H (v :: vs) (d :: ds)
end
section
variable {X : Cx} {pins : List (Addr × Obj)} {σ : St} {H : Hp} {s : Shared}
mutual
theorem Inv.reads (I : Inv X pins σ H s) : ∀ {v : V} {d : PyData} {u : Value}, Shw X.K H v d → RelV v u → ∃ as, Reads s.heap u d as
  | _, _, _, .non, r => by cases r; exact ⟨_, .none⟩
  | _, _, _, .bl b, r => by cases r; exact ⟨_, .bool b⟩
  | _, _, _, .int i, r => by obtain ⟨t, rfl⟩ := r; exact ⟨_, .int i t⟩
  | _, _, _, .str x, r => by obtain ⟨t, rfl⟩ := r; exact ⟨_, .str x t⟩
  | _, _, _, .lst h1 h2, r => by
    cases r
    obtain ⟨its, rs, ⟨o, n, e, c, _, dt⟩, _⟩ := I.list h1
    obtain ⟨as, ra⟩ := I.readsA h2 rs
    exact ⟨_, .list e c dt (by simpa using ra)⟩
  | _, _, _, .tup h1 h2, r => by
    cases r
    obtain ⟨its, rs, ⟨o, e, c, n, dt⟩, _⟩ := I.tuple h1
    obtain ⟨as, ra⟩ := I.readsA h2 rs
    exact ⟨_, .tuple e c dt (by simpa using ra)⟩
theorem Inv.readsA (I : Inv X pins σ H s) : ∀ {vs : List V} {ds : List PyData} {us : List Value}, ShwA X.K H vs ds → Vals vs us → ∃ as, ReadsAll s.heap us ds as
  | _, _, _, .nil, r => by cases r; exact ⟨_, .nil⟩
  | _, _, _, .cons h1 h2, r => by
    cases r with
    | cons r1 r2 =>
      obtain ⟨as, ra⟩ := I.reads h1 r1
      obtain ⟨bs, rb⟩ := I.readsA h2 r2
      exact ⟨_, .cons ra rb⟩
end
end
section
variable {X : Cx} {pins : List (Addr × Obj)} {σ : St} {H : Hp} {s : Shared} {te : TE} {e : Expr} {pos : Pos} {k : Nat}
def tFmt (te : TE) : TE := fun σ H Q => te σ H fun v H1 => (∃ x, v = .str x ∧ x.length ≤ sizeLine ∧ Q (.str x) H1) ∨ (∃ i : Int, v = .int i ∧ i.natAbs.log2 < 1920 ∧ Q (.str (toString i)) H1)
theorem pe_fmt (he : PE X e te) : PE X (.FormattedValue e (-1) none pos) (tFmt te) := fun pins s σ H Q I h =>
  wpAny_FormattedValue_plain (thn (he pins s σ H _ I h) fun u s1 ⟨v, H1, I1, r, q⟩ => by
    rcases q with ⟨x, rfl, hx, q⟩ | ⟨i, rfl, hi, q⟩
    · obtain ⟨t, rfl⟩ := r
      exact wpAny_formatField_str ⟨.str x, H1, I1, ⟨_, rfl⟩, q⟩ ⟨.str x, H1, I1.tok _, ⟨_, rfl⟩, q⟩ hx
    · obtain ⟨t, rfl⟩ := r
      exact wpAny_formatField_int hi ⟨.str _, H1, I1.tok _, ⟨_, rfl⟩, q⟩)
def tRep (K : PySem.W.Frag) (te : TE) : TE := fun σ H Q => te σ H fun v H1 => ∃ d : PyData, Shw K H1 v d ∧ d.showable = true ∧ d.hasDict = false ∧ d.depth ≤ 64 ∧ d.shown.length ≤ sizeLine ∧ Q (.str d.shown) H1
theorem pe_rep (hr : Room k X.A) (he : PE X e te) : PE X (.FormattedValue e 114 none pos) (tRep X.K te) := fun pins s σ H Q I h =>
  wpAny_FormattedValue_repr (thn (he pins s σ H _ I h) fun u s1 ⟨v, H1, I1, r, d, hw, h1, h2, h3, h4, q⟩ => by
    have fin : ∀ (h' : Heap) (t tk : Nat), (∀ b o, s1.heap.get? b = some o → h'.get? b = some o) → wpAny (model X.prog X.w) X.A (formatField (.str d.shown t) Str.empty) (EP X pins σ Q) X.xe { s1 with heap := h', toks := tk } := fun h' t tk kp =>
      have I2 : ∀ tk, Inv X pins σ H1 { s1 with heap := h', toks := tk } := fun tk => I1.un (t' := tk) (Un.kept fun b o e => kp b o e) (fun a o e => (I1.hok a o e).stay (fun b u _ q => kp b u q) (fun _ q => q) fun _ _ q => q)
      wpAny_formatField_str ⟨.str _, H1, I2 _, ⟨_, rfl⟩, q⟩ ⟨.str _, H1, I2 _, ⟨_, rfl⟩, q⟩ h4
    have hu := hr.units
    cases hw with
    | non => cases r; exact pyReprObj_none (fin _ _ _ fun _ _ e => e)
    | bl b => cases r; exact pyReprObj_bool (fin _ _ _ fun _ _ e => e)
    | int i => obtain ⟨t, rfl⟩ := r; exact pyReprObj_int (by simpa [PyData.showable] using h1) (fin _ _ _ fun _ _ e => e)
    | str x => obtain ⟨t, rfl⟩ := r; exact pyReprObj_str (fin _ _ _ fun _ _ e => e) h4
    | lst a1 a2 =>
      obtain ⟨as, rd⟩ := I1.reads (.lst a1 a2) r
      cases r
      exact pyReprObj_of_reads rd h1 (PyData.noDict_hsm h2) hr.gd (by omega) (fun _ _ e => e) (fun h' u tk kp => fin h' u tk kp) h4
    | tup a1 a2 =>
      obtain ⟨as, rd⟩ := I1.reads (.tup a1 a2) r
      cases r
      exact pyReprObj_of_reads rd h1 (PyData.noDict_hsm h2) hr.gd (by omega) (fun _ _ e => e) (fun h' u tk kp => fin h' u tk kp) h4)
def tJoins : List TE → Str → TE
  | [], acc => fun _ H Q => Q (.str acc) H
  | t :: ts, acc => fun σ H Q => t σ H fun v H1 => ∃ y, v = .str y ∧ (acc ++ y).length ≤ sizeLine ∧ tJoins ts (acc ++ y) σ H1 Q
structure QJ (X : Cx) (es : List Expr) (ts : List TE) : Prop where
  h : ∀ (acc : Str) (pins : List (Addr × Obj)) (s : Shared) (σ : St) (H : Hp) (Q : VK), acc.length ≤ sizeLine → Inv X pins σ H s → tJoins ts acc σ H Q → Joins (model X.prog X.w) X.A X.xe (evalEach es X.env) acc (fun out s1 => out.length ≤ sizeLine ∧ EP X pins σ Q (.str out s1.toks) { s1 with toks := s1.toks + 1 }) s
theorem qj_nil : QJ X [] [] := ⟨fun acc pins s σ H Q ha I h => ⟨ha, .str acc, H, I.tok _, ⟨_, rfl⟩, h⟩⟩
theorem qj_cons {es : List Expr} {ts : List TE} (he : QE X e te) (hr : QJ X es ts) : QJ X (e :: es) (te :: ts) := ⟨fun acc pins s σ H Q ha I h => by
  show wpAny _ _ (eval e X.env) _ _ _
  refine thn (he.h pins s σ H _ I h) fun u s1 ⟨v, H1, I1, r, y, ev, hy, q⟩ => ?_
  subst ev
  obtain ⟨t, rfl⟩ := r
  exact ⟨y, t, rfl, hy, hr.h _ _ _ _ _ _ hy I1 q⟩⟩
theorem qe_join {e2 : Expr} {es : List Expr} {ts : List TE} (h : QJ X (e :: e2 :: es) ts) : QE X (.JoinedStr (e :: e2 :: es) pos) (tJoins ts Str.empty) := ⟨fun pins s σ H Q I q => wpAny_JoinedStr (h.h _ _ _ _ _ _ (by decide) I q)⟩
theorem qe_fmt (he : QE X e te) : QE X (.FormattedValue e (-1) none pos) (tFmt te) := ⟨pe_fmt he.h⟩
theorem qe_rep (hr : Room k X.A) (he : QE X e te) : QE X (.FormattedValue e 114 none pos) (tRep X.K te) := ⟨pe_rep hr he.h⟩
end
end L2
set_option Elab.async false
set_option linter.all false
set_option maxRecDepth 100000
namespace L2
open PySem PySem.Spec PyProof.Rows
section
variable {X : Cx}
theorem qs_raise {x : Str} {C : Addr} {e : Expr} {es : List Expr} {t : TA} {np cpos pos : Pos} {EX : Hp → Prop} (hc : X.calm = true) (hg : Gl X x) (hm : X.mg x = some (.ref C)) (he : ExcC X.K C) (ha : QA X (e :: es) t)
    (hx : ∀ pins σ H s h' a vs, Inv X pins σ H s → Heap.MadeExcOf s.heap h' a (.ref C) vs → EX H → X.xe (.ref a) { s with heap := h' })
    (hd : (x == ("__debug__" : Str)) = false := by decide) (hst : starEach (e :: es) X.env = (false, eval e X.env) :: starEach es X.env := by rfl) (hpl : (backTo cpos (starEach es X.env)).any (·.1) = false := by rfl) :
    QS X (.Raise (some (.Call (.Name x np) (e :: es) [] cpos)) none pos) (tRaise EX t) := ⟨ps_raise hc hg hm he ha.h hx hd hst hpl⟩
variable {k : Nat} {f Dc : Addr} {fd : FuncData} {ps : List Str} {sp : Sp} {x dn n : Str} {i : Nat} {p cpos epos np hpos pos : Pos} {e : Expr} {es : List Expr} {t : TA} {ts : TS} {b0 : Stmt} {suite : List Stmt}
theorem qs_try (F : FnOk X.prog X.w X.K X.mg X.base (CXe X.prog X.w) k f fd ps sp) (hr : Room k X.A) (hg : Gl X x) (hm : X.mg x = some (.ref f)) (hk : PySem.W.keepIn X.K (.ref f) = true) (hb : Binds X.K fd ps [])
    (ha : QA X.nox (e :: es) t) (hgD : Gl X dn) (hmD : X.mg dn = some (.ref Dc)) (hD : ExcC X.K Dc) (hN : X.N.Nodup) (hi : X.N[i]? = some n) (hn : X.env.scope.names.lookup n = some .local) (hstk : X.stack = X.env :: X.outer) (hfr : X.env.frame = some X.env.locals) (hex : X.ex = [])
    (hs : ∀ a, QSs (X.hand a) (b0 :: suite) ts)
    (hdb : (x == ("__debug__" : Str)) = false := by decide) (hdd : (dn == ("__debug__" : Str)) = false := by decide) (he : starEach (e :: es) X.env = (false, eval e X.env) :: starEach es X.env := by rfl) (hpl : (backTo cpos (starEach es X.env)).any (·.1) = false := by rfl)
    (hsw : swapsWith (.Call (.Name x p) (e :: es) [] cpos) none epos.line X.env = pure false := by rfl) :
    QS X (.Try [.Expr (.Call (.Name x p) (e :: es) [] cpos) epos] [.ExceptHandler (some (.Name dn np)) (some n) (b0 :: suite) hpos] [] [] pos) (tTry X.K Dc i sp t ts) :=
  ⟨ps_try F hr hg hm hk hb ha.h hgD hmD hD hN hi hn hstk hfr hex (fun a => (hs a).h) hdb hdd he hpl hsw⟩
end
end L2
set_option Elab.async false
set_option linter.all false
set_option maxRecDepth 100000
set_option maxHeartbeats 4000000
namespace L2
open PySem PySem.Spec PyProof.Rows

section
variable {κ : Type} [DecidableEq κ]
def valV (kvs : List (κ × V)) (k : κ) : Option V := (kvs.find? fun kv => decide (kv.1 = k)).map (·.2)
def putK (kvs : List (κ × V)) (k : κ) (v : V) : List (κ × V) :=
  if (kvs.any fun kv => decide (kv.1 = k)) = true then kvs.map (fun kv => if kv.1 = k then (kv.1, v) else kv) else kvs ++ [(k, v)]
theorem valV_pos {p : κ × V} {r : List (κ × V)} {k : κ} (e : p.1 = k) : valV (p :: r) k = some p.2 := by simp [valV, List.find?_cons, e]
theorem valV_neg {p : κ × V} {r : List (κ × V)} {k : κ} (e : ¬ p.1 = k) : valV (p :: r) k = valV r k := by simp [valV, List.find?_cons, e]
theorem valV_any (k : κ) : ∀ kvs : List (κ × V), (kvs.any fun kv => decide (kv.1 = k)) = (valV kvs k).isSome
  | [] => rfl
  | p :: r => by
    rw [List.any_cons]
    by_cases e : p.1 = k
    · simp only [valV_pos e, decide_eq_true e, Bool.true_or, Option.isSome_some]
    · rw [valV_neg e, decide_eq_false e, Bool.false_or]; exact valV_any k r
theorem valV_map (k j : κ) (y : V) : ∀ kvs : List (κ × V), valV (kvs.map fun kv => if kv.1 = k then (kv.1, y) else kv) j = (valV kvs j).map fun x => if j = k then y else x
  | [] => rfl
  | p :: r => by
    have ih := valV_map k j y r
    rw [List.map_cons]
    by_cases h : p.1 = k
    · rw [if_pos h]
      by_cases e : p.1 = j
      · rw [valV_pos (p := (p.1, y)) e, valV_pos e, Option.map_some, if_pos (e.symm.trans h)]
      · rw [valV_neg (p := (p.1, y)) e, valV_neg e, ih]
    · rw [if_neg h]
      by_cases e : p.1 = j
      · rw [valV_pos (p := p) e, valV_pos e, Option.map_some, if_neg (fun z => h (e.trans z))]
      · rw [valV_neg (p := p) e, valV_neg e, ih]
theorem valV_snoc (k j : κ) (y : V) : ∀ kvs : List (κ × V), valV kvs k = none → valV (kvs ++ [(k, y)]) j = if j = k then some y else valV kvs j
  | [], _ => by
    by_cases e : k = j
    · rw [if_pos e.symm]; exact valV_pos (p := (k, y)) e
    · rw [if_neg (fun z => e z.symm)]; exact valV_neg (p := (k, y)) e
  | p :: r, hn => by
    rw [List.cons_append]
    have hk : ¬ p.1 = k := fun z => by rw [valV_pos z] at hn; cases hn
    rw [valV_neg hk] at hn
    have ih := valV_snoc k j y r hn
    by_cases e : p.1 = j
    · rw [valV_pos e, valV_pos e, if_neg (fun z => hk (e.trans z))]
    · rw [valV_neg e, valV_neg e, ih]
theorem valV_put (kvs : List (κ × V)) (k j : κ) (y : V) : valV (putK kvs k y) j = if j = k then some y else valV kvs j := by
  unfold putK
  by_cases a : (kvs.any fun kv => decide (kv.1 = k)) = true
  · rw [if_pos a, valV_map]
    rw [valV_any] at a
    by_cases e : j = k
    · obtain ⟨x, hx⟩ := Option.isSome_iff_exists.mp a
      rw [if_pos e, e, hx, Option.map_some, if_pos rfl]
    · rw [if_neg e]
      cases valV kvs j with
      | none => rfl
      | some x => rw [Option.map_some, if_neg e]
  · rw [if_neg a]
    refine valV_snoc k j y kvs ?_
    rw [valV_any] at a
    cases q : valV kvs k with
    | none => rfl
    | some x => rw [q] at a; exact (a rfl).elim
theorem length_putK (kvs : List (κ × V)) (k : κ) (v : V) : (putK kvs k v).length ≤ kvs.length + 1 := by
  unfold putK
  split
  · rw [List.length_map]; omega
  · rw [List.length_append, List.length_cons, List.length_nil]; omega
theorem RelO.isSome_eq {o : Option V} {u : Option Value} (r : RelO o u) : o.isSome = u.isSome := by
  cases o with
  | none => cases u with
    | none => rfl
    | some _ => exact (show False from r).elim
  | some _ => cases u with
    | none => exact (show False from r).elim
    | some _ => rfl
theorem KV.val {kvs : List (κ × V)} {vs : List (κ × Value)} (r : KV kvs vs) (k : κ) : RelO (valV kvs k) (valueAt vs k) := by
  unfold KV at r
  induction r with
  | nil => exact True.intro
  | @cons p q ps qs h t ih =>
    obtain ⟨h1, h2⟩ := h
    by_cases e : p.1 = k
    · have e' : q.1 = k := h1.symm.trans e
      have b : valueAt (q :: qs) k = some q.2 := by simp [valueAt, List.find?_cons, e']
      rw [valV_pos e, b]; exact h2
    · have e' : ¬ q.1 = k := fun z => e (h1.trans z)
      have b : valueAt (q :: qs) k = valueAt qs k := by simp [valueAt, List.find?_cons, e']
      rw [valV_neg e, b]; exact ih
theorem KV.any {kvs : List (κ × V)} {vs : List (κ × Value)} (r : KV kvs vs) (k : κ) : (kvs.any fun kv => decide (kv.1 = k)) = vs.any fun kv => decide (kv.1 = k) := by
  unfold KV at r
  induction r with
  | nil => rfl
  | cons h t ih => rw [List.any_cons, List.any_cons, ih, h.1]
theorem KV.repl {kvs : List (κ × V)} {vs : List (κ × Value)} (r : KV kvs vs) (k : κ) {y : V} {u : Value} (ry : RelV y u) :
    KV (kvs.map fun kv => if kv.1 = k then (kv.1, y) else kv) (vs.map fun kv => if kv.1 = k then (kv.1, u) else kv) := by
  unfold KV at r ⊢
  induction r with
  | nil => exact .nil
  | @cons p q ps qs h t ih =>
    rw [List.map_cons, List.map_cons]
    refine .cons ?_ ih
    obtain ⟨h1, h2⟩ := h
    by_cases e : p.1 = k
    · rw [if_pos e, if_pos (h1.symm.trans e)]; exact ⟨h1, ry⟩
    · rw [if_neg e, if_neg (fun z => e (h1.trans z))]; exact ⟨h1, h2⟩
theorem KV.put {kvs : List (κ × V)} {vs : List (κ × Value)} (r : KV kvs vs) (k : κ) {y : V} {u : Value} (ry : RelV y u) : KV (putK kvs k y) (stored vs k u) := by
  unfold putK stored
  rw [r.any k]
  by_cases e : (vs.any fun kv => decide (kv.1 = k)) = true
  · rw [if_pos e, if_pos e]; exact r.repl k ry
  · rw [if_neg e, if_neg e]; exact Paired.snoc r ⟨rfl, ry⟩
theorem KV.length {kvs : List (κ × V)} {vs : List (κ × Value)} (r : KV kvs vs) : kvs.length = vs.length := Paired.length r
end


theorem kV_is {P : Program} {w : World} {k : Key} {u : Value} (r : RelV (kV k) u) : (mixKind P w).is k u = true := by
  cases k with
  | inl i => obtain ⟨t, e⟩ := (show ∃ t, u = Value.int i t from r); subst e; exact mixKind_int P w i t
  | inr x => obtain ⟨t, e⟩ := (show ∃ t, u = Value.str x t from r); subst e; exact mixKind_str P w x t
theorem items_are {P : Program} {w : World} : ∀ {ks : List Key} {us : List Value}, Vals (ks.map kV) us → ItemsAre (mixKind P w) ks us
  | [], _, r => by rw [List.map_nil] at r; cases r; exact .nil
  | k :: ks, _, r => by
    rw [List.map_cons] at r
    cases r with
    | cons h t => exact .cons (kV_is h) (items_are t)

abbrev KT (H : Hp) : List (List Key × V) → List (List Key × Addr × Value) → Prop := Paired fun p q => p.1 = q.1 ∧ H q.2.1 = some (.tup (p.1.map kV)) ∧ RelV p.2 q.2.2
theorem KT.val {H : Hp} {kvs : List (List Key × V)} {xs : List (List Key × Addr × Value)} (r : KT H kvs xs) (k : List Key) : RelO (valV kvs k) ((atKey xs k).map (·.2)) := by
  induction r with
  | nil => exact True.intro
  | @cons p q ps qs h t ih =>
    obtain ⟨h1, _, h2⟩ := h
    by_cases e : p.1 = k
    · have e' : q.1 = k := h1.symm.trans e
      have b : atKey (q :: qs) k = some q.2 := by simp [atKey, List.find?_cons, e']
      rw [valV_pos e, b]; exact h2
    · have e' : ¬ q.1 = k := fun z => e (h1.trans z)
      have b : atKey (q :: qs) k = atKey qs k := by simp [atKey, List.find?_cons, e']
      rw [valV_neg e, b]; exact ih
theorem KT.repl {H : Hp} {kvs : List (List Key × V)} {xs : List (List Key × Addr × Value)} (r : KT H kvs xs) (k : List Key) {y : V} {u : Value} (ry : RelV y u) :
    KT H (kvs.map fun kv => if kv.1 = k then (kv.1, y) else kv) (xs.map (putAt k u)) := by
  induction r with
  | nil => exact .nil
  | @cons p q ps qs h t ih =>
    rw [List.map_cons, List.map_cons]
    refine .cons ?_ ih
    obtain ⟨h1, h2, h3⟩ := h
    unfold putAt
    by_cases e : p.1 = k
    · rw [if_pos e, if_pos (h1.symm.trans e)]; exact ⟨h1, h2, ry⟩
    · rw [if_neg e, if_neg (fun z => e (h1.trans z))]; exact ⟨h1, h2, h3⟩
theorem KT.put {H : Hp} {kvs : List (List Key × V)} {xs : List (List Key × Addr × Value)} (r : KT H kvs xs) (k : List Key) {b : Addr} {y : V} {u : Value} (hb : H b = some (.tup (k.map kV))) (ry : RelV y u) :
    KT H (putK kvs k y) (storedH xs k b u) := by
  have e : (kvs.any fun kv => decide (kv.1 = k)) = (atKey xs k).isSome := by
    rw [valV_any, (r.val k).isSome_eq, Option.isSome_map]
  unfold putK storedH
  rw [e]
  by_cases q : (atKey xs k).isSome = true
  · rw [if_pos q, if_pos q]; exact r.repl k ry
  · rw [if_neg q, if_neg q]; exact Paired.snoc r ⟨rfl, hb, ry⟩
theorem KT.keeps {H H' : Hp} {kvs : List (List Key × V)} {xs : List (List Key × Addr × Value)} (r : KT H kvs xs) (ht : ∀ b ys, H b = some (.tup ys) → H' b = some (.tup ys)) : KT H' kvs xs :=
  Paired.mapP r fun _ _ z => ⟨z.1, ht _ _ z.2.1, z.2.2⟩

section
variable {P : Program} {w : World} {H : Hp} {h : Heap} {a : Addr}
theorem rd_of {u : HO} (ok : HOk P w H h) (e : Rd H a u) : ObjOk P w H h a u := e.ok ok
theorem dk_rd {kvs : List (Key × V)} (ok : HOk P w H h) (e : Rd H a (.dK kvs)) : kvs.length ≤ sizeLine ∧ (a == sysModules) = false ∧ ∃ vs, KV kvs vs ∧ h.DictOf (mixKind P w) a vs :=
  show ObjOk P w H h a (.dK kvs) from rd_of ok e
theorem dk_of {kvs : List (Key × V)} (ok : HOk P w H h) (e : H a = some (.dK kvs)) : kvs.length ≤ sizeLine ∧ (a == sysModules) = false ∧ ∃ vs, KV kvs vs ∧ h.DictOf (mixKind P w) a vs := dk_rd ok (.inl e)
theorem key_of {ks : List Key} (ok : HOk P w H h) (e : H a = some (.tup (ks.map kV))) : (tupleKind (mixKind P w)).is h ks a := by
  obtain ⟨_, its, r, o, h1, h2, n, h3⟩ := (show ObjOk P w H h a (.tup (ks.map kV)) from ok a _ e)
  exact ⟨o, its.toArray, n, h1, h2, h3, by simpa using items_are r⟩
theorem dt_rd {kvs : List (List Key × V)} (ok : HOk P w H h) (e : Rd H a (.dT kvs)) : kvs.length ≤ sizeLine ∧ (a == sysModules) = false ∧
    ∃ xs, KT H kvs xs ∧ h.DictOfH (tupleKind (mixKind P w)) a xs := by
  obtain ⟨z, y, xs, r, o, es, ep, h1, h2, h3, h4, h5⟩ := (show ObjOk P w H h a (.dT kvs) from rd_of ok e)
  refine ⟨z, y, xs, r, o, es, ep, h1, h2, h3, h4, fun x hx => ?_, h5⟩
  have all : ∀ {l : List (List Key × V)} {m : List (List Key × Addr × Value)}, KT H l m → ∀ x ∈ m, (tupleKind (mixKind P w)).is h x.1 x.2.1 := by
    intro l m q
    induction q with
    | nil => intro x hx; exact nomatch hx
    | @cons p q ps qs hq t ih =>
      intro x hx
      rcases List.mem_cons.mp hx with e | hx
      · subst e
        exact key_of ok (by rw [← hq.1]; exact hq.2.1)
      · exact ih x hx
  exact all r x hx
theorem dt_of {kvs : List (List Key × V)} (ok : HOk P w H h) (e : H a = some (.dT kvs)) : kvs.length ≤ sizeLine ∧ (a == sysModules) = false ∧
    ∃ xs, KT H kvs xs ∧ h.DictOfH (tupleKind (mixKind P w)) a xs := dt_rd ok (.inl e)
end

def DGet (H : Hp) (a : Addr) (y : V) (r : Option V) : Prop :=
  (∃ kvs k, Rd H a (.dK kvs) ∧ y = kV k ∧ r = valV kvs k) ∨ ∃ kvs k b, Rd H a (.dT kvs) ∧ y = .ref b ∧ H b = some (.tup (k.map kV)) ∧ r = valV kvs k
def DPut (H : Hp) (a : Addr) (y v : V) (H' : Hp) : Prop :=
  (∃ kvs k, H a = some (.dK kvs) ∧ y = kV k ∧ kvs.length < sizeLine ∧ H' = upd H a (.dK (putK kvs k v))) ∨
  ∃ kvs k b, H a = some (.dT kvs) ∧ y = .ref b ∧ H b = some (.tup (k.map kV)) ∧ kvs.length < sizeLine ∧ H' = upd H a (.dT (putK kvs k v))
theorem DGet.k {H : Hp} {a : Addr} {kvs : List (Key × V)} {k : Key} (e : H a = some (.dK kvs)) : DGet H a (kV k) (valV kvs k) := .inl ⟨kvs, k, .inl e, rfl, rfl⟩
theorem DPut.k {H : Hp} {a : Addr} {kvs : List (Key × V)} {k : Key} {v : V} (e : H a = some (.dK kvs)) (hl : kvs.length < sizeLine) : DPut H a (kV k) v (upd H a (.dK (putK kvs k v))) := .inl ⟨kvs, k, e, rfl, hl, rfl⟩
section
variable {X : Cx} {pins : List (Addr × Obj)} {σ : St} {H : Hp} {s : Shared} {a : Addr} {y v : V} {u r : Value} {o : Option V} {A : Around} {E : Value → Shared → Prop}

theorem Inv.big (I : Inv X pins σ H s) : sysModules < s.heap.objs.size := by
  have h : mainGlobals < s.heap.objs.size := (I.mod.glob.keeps I.bk).lt
  exact Nat.lt_trans (by decide) h

theorem d_getItem {Q : Value → Shared → Prop} (hu : A.units + 1 < cLine) (I : Inv X pins σ H s) (g : DGet H a y (some v)) (ry : RelV y u) (h : ∀ w' s', Inv X pins σ H s' → RelV v w' → Q w' s') :
    wpAny (model X.prog X.w) A (getItem (.ref a) u) Q E s := by
  rcases g with ⟨kvs, k, e, ey, l⟩ | ⟨kvs, k, b, e, ey, eb, l⟩
  · subst ey
    obtain ⟨z, hd, vs, rel, dd⟩ := dk_rd I.hok e
    obtain ⟨w', hw, rw'⟩ := RelO.some_of (v := v) (o := valueAt vs k) (by rw [l]; exact rel.val k)
    exact wpAny_getItem_of (kV_is ry) dd.mapOf hw (h w' _ (I.tok _) rw')
  · subst ey
    cases (show u = Value.ref b from ry)
    obtain ⟨z, hd, xs, rel, dd⟩ := dt_rd I.hok e
    obtain ⟨w', hw, rw'⟩ := RelO.some_of (v := v) (o := (atKey xs k).map (·.2)) (by rw [l]; exact rel.val k)
    obtain ⟨p, hp, hp2⟩ := Option.map_eq_some_iff.mp hw
    refine wpAny_getItem_heap (tupleKind_room_in1 hu) (key_of I.hok eb) dd hp ?_
    rw [hp2]
    exact h w' _ (I.tok _) rw'
theorem d_write {h' : Heap} {t' : Nat} {ob : HO} (I : Inv X pins σ H s) (mu : Mut (H a)) (hs : Heap.SameBut a s.heap h') (he : ∃ q, h'.get? a = some q) (new : ObjOk X.prog X.w (upd H a ob) h' a ob) :
    Inv X pins σ (upd H a ob) { s with heap := h', toks := t' } :=
  I.write (x := a) (e := a) mu (.inl rfl) (fun b q hb z => (hs.2 b hb).trans z) he new
theorem dk_new {P : Program} {w : World} {H' : Hp} {h' : Heap} {kvs : List (Key × V)} {vs : List (Key × Value)} (z : kvs.length ≤ sizeLine) (hd : (a == sysModules) = false) (rel : KV kvs vs) (dd : h'.DictOf (mixKind P w) a vs) :
    ObjOk P w H' h' a (.dK kvs) := ⟨z, hd, vs, rel, dd⟩
theorem d_setItem {H' : Hp} {Q : Unit → Shared → Prop} (hu : A.units + 1 < cLine) (I : Inv X pins σ H s) (g : DPut H a y v H') (ry : RelV y u) (rv : RelV v r) (h : ∀ s', Inv X pins σ H' s' → Q () s') :
    wpAny (model X.prog X.w) A (setItem (.ref a) u r) Q E s := by
  rcases g with ⟨kvs, k, e, ey, l, eH⟩ | ⟨kvs, k, b, e, ey, eb, l, eH⟩
  · subst ey eH
    obtain ⟨z, hd, vs, rel, dd⟩ := dk_of I.hok e
    have hz : vs.length ≤ sizeLine := by rw [← rel.length]; exact z
    have hl : (putK kvs k v).length ≤ sizeLine := by have := length_putK kvs k v; omega
    refine wpAny_setItem_pairs (hsz := hz) (kV_is ry) dd fun h' dd' hs => h _ ?_
    have he : ∃ q, h'.get? a = some q := let ⟨q, _, _, hq, _⟩ := dd'; ⟨q, hq⟩
    exact d_write I (by rw [e]; exact True.intro) hs he (dk_new hl hd (rel.put k rv) dd')
  · subst ey eH
    cases (show u = Value.ref b from ry)
    obtain ⟨z, hd, xs, rel, dd⟩ := dt_of I.hok e
    have hz : xs.length ≤ sizeLine := by rw [← Paired.length rel]; exact z
    have hl : (putK kvs k v).length ≤ sizeLine := by have := length_putK kvs k v; omega
    refine wpAny_setItem_heap (hsz := hz) (tupleKind_room_in1 hu) (key_of I.hok eb) dd fun h' dd' hs => h _ ?_
    obtain ⟨q, es, ep, hq, h2, h3, h4, _, h5⟩ := dd'
    refine d_write I (by rw [e]; exact True.intro) hs ⟨q, hq⟩ ⟨hl, hd, _, (rel.put k eb rv).keeps fun c ys ec => ?_, q, es, ep, hq, h2, h3, h4, h5⟩
    rw [upd_ne (ne_of ec e (fun z => nomatch z))]
    exact ec
end

section
variable {X : Cx} {pins : List (Addr × Obj)} {σ : St} {H : Hp} {s : Shared} {a : Addr} {kvs : List (Key × V)} {k : Key} {u : Value} {A : Around} {E : Value → Shared → Prop}
end


def NoSl (i : Expr) : Prop := ∀ ov iv, subscripted i false ov iv = operate [ov, iv] (getItem ov iv)
theorem subD_of {prog : Program} {w : World} {A : Around} {E : Value → Shared → Prop} {s : Shared} {env : Env} {value slice : Expr} {pos : Pos} {T id : String} {Q : Value → Shared → Prop}
    (hl : typeLookup (.type T) "__getitem__" = pure (some (.builtin id))) (hs : NoSl slice)
    (h : wpAny (model prog w) A (eval value env) (fun o s₁ => wpAny (model prog w) A (eval slice env) (fun i s₂ => s₂.TypeIs o T ∧ wpAny (model prog w) A (getItem o i) Q E s₂) E s₁) E s) :
    wpAny (model prog w) A (eval (.Subscript value slice pos) env) Q E s := by
  refine Subscript_ (wpAny_mono h (fun o s₁ h₁ => wpAny_mono h₁ (fun i s₂ h₂ => ?_) fun _ _ x => x) fun _ _ x => x)
  obtain ⟨hT, h₂⟩ := h₂
  unfold subscriptTail
  refine wpAny_bind ?_
  rw [getitemInPython_of_ne hT.not_modules]
  refine wpAny_bind (wpAny_specialOf hT hl ?_)
  have fin : wpAny (model prog w) A (subscripted slice false o i) (fun r s₃ => wpAny (model prog w) A (letTemporaryGo value o r >>= fun _ => pure r) Q E s₃) E s₂ := by
    rw [hs o i]
    exact wpAny_operating (wpAny_mono h₂ (fun r s₃ h₃ => wpAny_bind (wpAny_letTemporaryGo (wpAny_pure h₃))) fun _ _ x => x)
  first
    | exact wpAny_pure (wpAny_bind fin)
    | exact wpAny_bind (wpAny_pure (wpAny_bind fin))
    | exact wpAny_bind fin

theorem dict_typeIs {X : Cx} {pins : List (Addr × Obj)} {σ : St} {H : Hp} {s : Shared} {a : Addr} {y : V} {o : Option V} (I : Inv X pins σ H s) (g : DGet H a y o) : s.TypeIs (.ref a) "dict" := by
  rcases g with ⟨kvs, k, e, _, _⟩ | ⟨kvs, k, b, e, _, _, _⟩
  · obtain ⟨_, _, vs, _, dd⟩ := dk_rd I.hok e
    exact dd.typeIs
  · obtain ⟨_, _, xs, _, dd⟩ := dt_rd I.hok e
    exact dd.typeIs
def tDGet (td ty : TE) : TE := fun σ H Q => td σ H fun x H1 => ty σ H1 fun y H2 => ∃ a v, x = .ref a ∧ DGet H2 a y (some v) ∧ Q v H2
def sDPut (td ty tv : TE) : TS := fun D σ H => tv σ H fun v H1 => td σ H1 fun x H2 => ty σ H2 fun y H3 => ∃ a H4, x = .ref a ∧ DPut H3 a y v H4 ∧ D.nx σ H4
section
variable {X : Cx} {o i e value : Expr} {pos pos' tpos : Pos} {td ty tv : TE}
theorem pe_dget (hu : X.A.units + 1 < cLine) (ho : PE X o td) (hi : PE X i ty) (hs : NoSl i) : PE X (.Subscript o i pos) (tDGet td ty) := by
  intro pins s σ H Q I h
  refine subD_of PySem.F.slot_dict_getitem.lookup hs (thn (ho pins s σ H _ I h) fun u s1 ⟨x, H1, I1, rx, q1⟩ => thn (hi pins s1 σ H1 _ I1 q1) fun iv s2 ⟨y, H2, I2, ry, a, v, ex, g, q2⟩ => ?_)
  subst ex
  obtain rfl : u = Value.ref a := rx
  exact ⟨dict_typeIs I2 g, d_getItem hu I2 g ry fun w' s3 I3 rw' => ⟨v, H2, I3, rw', q2⟩⟩
theorem ps_dput (hu : X.A.units + 1 < cLine) (ho : PE X o td) (hi : PE X i ty) (hv : PE X value tv) (hs : swapsWith value (some (.Subscript o i pos')) pos.line X.env = pure false) :
    PS X (.Assign [.Subscript o i pos'] value pos) (sDPut td ty tv) := by
  intro pins s σ H D I h
  refine wpAny_Assign_Subscript (thn (hv pins s σ H _ I h) fun r s1 ⟨v, H1, I1, rv, q1⟩ => thn (ho pins s1 σ H1 _ I1 q1) fun u s2 ⟨x, H2, I2, rx, q2⟩ => thn (hi pins s2 σ H2 _ I2 q2) fun iv s3 ⟨y, H3, I3, ry, a, H4, ex, g, q3⟩ => ?_) hs
  subst ex
  obtain rfl : u = Value.ref a := rx
  exact d_setItem hu I3 g ry rv fun s4 I4 => ⟨σ, H4, I4, q3⟩
end


theorem dk_empty {P : Program} {w : World} {H : Hp} (h : Heap) (hb : sysModules < h.objs.size) : ObjOk P w H (h.push { cls := .type "dict", data := .dict #[] }) h.objs.size (.dK []) :=
  ⟨Nat.zero_le _, beq_eq_false_iff_ne.mpr (Ne.symm (Nat.ne_of_lt hb)), [], .nil, Heap.DictOf.new h⟩
def tDNewK : TE := fun _ H Q => ∀ p, H p = none → Q (.ref p) (upd H p (.dK []))
section
variable {X : Cx} {pos : Pos}
theorem pe_dnewK : PE X (.Dict [] [] pos) tDNewK := fun pins s σ H Q I h =>
  wpAny_Dict_empty ⟨.ref s.heap.objs.size, _, I.laid (a := s.heap.objs.size) (o := .dK []) (t' := s.toks) (fun _ _ q => Heap.get?_push_of_some _ q) (Nat.le_refl _) (dk_empty s.heap I.big), rfl, h _ (I.hok.fresh (Nat.le_refl _))⟩
end

section
variable {X : Cx} {pins : List (Addr × Obj)} {σ : St} {H : Hp} {s : Shared} {a : Addr} {y d : V} {u r : Value} {o : Option V} {A : Around} {E : Value → Shared → Prop}
end

section
variable {X : Cx} {o e f : Expr} {apos cpos : Pos} {td ty tx : TE}
end

section
variable {X : Cx} {pins : List (Addr × Obj)} {σ : St} {H : Hp} {s : Shared} {a : Addr} {kvs : List (Key × V)} {A : Around} {E : Value → Shared → Prop}
end


section
variable {X : Cx} {pins : List (Addr × Obj)} {σ : St} {H : Hp} {s : Shared} {a : Addr} {y : V} {u : Value} {A : Around} {E : Value → Shared → Prop}
end
end L2

namespace L2
open PySem PySem.Spec PyProof.Rows
section
variable {X : Cx}
end
section
variable {κ : Type} [DecidableEq κ]
end
end L2
set_option Elab.async false
set_option linter.all false
set_option maxRecDepth 100000
set_option maxHeartbeats 4000000
namespace L2
open PySem PySem.Spec PyProof.Rows
section
variable {X : Cx}
end
end L2
set_option Elab.async false
set_option linter.all false
set_option maxRecDepth 100000
set_option maxHeartbeats 4000000
namespace L2
open PySem PySem.Spec PyProof.Rows
def Its (x : Str) : It := ⟨fun i _ => i < x.cps.size, fun i H v H' => H' = H ∧ ∃ c, x.cps[i]? = some c ∧ v = .str ⟨#[c]⟩, fun i _ => x.cps.size ≤ i⟩
theorem turn_strA {P : Program} {w : World} {K : PySem.W.Frag} {tg : Expr} (x : Str) (t : Tok) (it : Addr) : Turn P w K tg (Its x) [it] it (fun i h => h.IsStrIter it "str_ascii_iterator" x t i) where
  mem := by simp
  obj := fun i h st b hb => by
    have e : b = it := by simpa using hb
    subst e
    obtain ⟨o, e, c, d⟩ := st
    exact ⟨o, e, fun v z => by rw [d] at z; cases z⟩
  keep := fun i h h' st k => let ⟨o, e, r⟩ := st; ⟨o, k it (by simp) o e, r⟩
  item := by
    intro X hP hw hK hc i pins s σ H E I hf st hg
    subst hP hw hK
    have hg : i < x.cps.size := hg
    obtain ⟨f0, f1, f2, f3, f4, f5⟩ := hf it (by simp)
    have hx : x.cps[i]? = some x.cps[i] := by simp [hg]
    refine wpAny_pyNext_ascii_item st (c := x.cps[i]) hx fun h' st' sb => ?_
    have I1 : ∀ tk, Inv X pins σ H { s with heap := h', toks := tk } := fun tk => I.turned (t' := tk) (fun b o hb e => (sb.2 b hb).trans e) f0 f1 f3 f4 f5
    obtain ⟨o, e, c, d⟩ := id st'
    exact ⟨_, rfl, go_of (s := { s with heap := h', toks := s.toks + 1 }) e c d (by decide) ⟨.str ⟨#[x.cps[i]]⟩, H, I1 _, ⟨_, rfl⟩, ⟨rfl, _, hx, rfl⟩, st', fun b hb => (hf b hb).1⟩⟩
  done := by
    intro X hP hw hK hc i pins s σ H E I hf st hg
    subst hP hw hK
    have hg : x.cps.size ≤ i := hg
    obtain ⟨f0, f1, f2, f3, f4, f5⟩ := hf it (by simp)
    exact wpAny_pyNext_ascii_end (I.ok.hd hc) st (by simp [hg]) fun h' eb => ⟨rfl, I.turned (t' := s.toks) (fun b o hb e => eb b o hb e) f0 f1 f3 f4 f5⟩
  self := fun _ _ _ _ _ st h => wpAny_pyIter_striter_ascii st h
theorem turn_strW {P : Program} {w : World} {K : PySem.W.Frag} {tg : Expr} (x : Str) (t : Tok) (it : Addr) : Turn P w K tg (Its x) [it] it (fun i h => h.IsStrIter it "str_iterator" x t i) where
  mem := by simp
  obj := fun i h st b hb => by
    have e : b = it := by simpa using hb
    subst e
    obtain ⟨o, e, c, d⟩ := st
    exact ⟨o, e, fun v z => by rw [d] at z; cases z⟩
  keep := fun i h h' st k => let ⟨o, e, r⟩ := st; ⟨o, k it (by simp) o e, r⟩
  item := by
    intro X hP hw hK hc i pins s σ H E I hf st hg
    subst hP hw hK
    have hg : i < x.cps.size := hg
    obtain ⟨f0, f1, f2, f3, f4, f5⟩ := hf it (by simp)
    have hx : x.cps[i]? = some x.cps[i] := by simp [hg]
    refine wpAny_pyNext_wide_item st (c := x.cps[i]) hx fun h' st' sb => ?_
    have I1 : ∀ tk, Inv X pins σ H { s with heap := h', toks := tk } := fun tk => I.turned (t' := tk) (fun b o hb e => (sb.2 b hb).trans e) f0 f1 f3 f4 f5
    obtain ⟨o, e, c, d⟩ := id st'
    exact ⟨_, rfl, go_of (s := { s with heap := h', toks := s.toks + 1 }) e c d (by decide) ⟨.str ⟨#[x.cps[i]]⟩, H, I1 _, ⟨_, rfl⟩, ⟨rfl, _, hx, rfl⟩, st', fun b hb => (hf b hb).1⟩⟩
  done := by
    intro X hP hw hK hc i pins s σ H E I hf st hg
    subst hP hw hK
    have hg : x.cps.size ≤ i := hg
    obtain ⟨f0, f1, f2, f3, f4, f5⟩ := hf it (by simp)
    exact wpAny_pyNext_wide_end (I.ok.hd hc) st (by simp [hg]) fun h' eb => ⟨rfl, I.turned (t' := s.toks) (fun b o hb e => eb b o hb e) f0 f1 f3 f4 f5⟩
  self := fun _ _ _ _ _ st h => wpAny_pyIter_striter_wide st h
section
variable {X : Cx} {tg : Expr}
def iStr (tl : TE) : TI := fun σ H R => tl σ H fun v H1 => ∃ x, v = .str x ∧ R (Its x) H1
theorem pi_str {l : Expr} {tl : TE} (hl : PE X l tl) : PI X tg l (iStr tl) := by
  intro pins s σ H R I h
  refine thn (hl pins s σ H _ I h) fun v s1 ⟨v', H1, I1, r1, q1⟩ => ?_
  obtain ⟨x, e, q⟩ := q1
  subst e
  obtain ⟨t, rfl⟩ := r1
  have fp : ∀ b ∈ [s1.heap.objs.size], FpOk X pins H1 b := fun b hb => by
    have e : b = s1.heap.objs.size := by simpa using hb
    subst e
    exact I1.fpOk (Nat.le_refl _) (I1.hok.fresh (Nat.le_refl _))
  cases ha : x.cps.all (· < 128)
  · exact wpAny_pyIter_wide ha ⟨s1.heap.objs.size, [s1.heap.objs.size], _, _, H1, rfl, I1.kept (t' := s1.toks) fun b o e => Heap.get?_push_of_some _ e, turn_strW x t _, ⟨_, Heap.get?_push_size _ rfl, rfl, rfl⟩, fp, q⟩
  · exact wpAny_pyIter_ascii ha ⟨s1.heap.objs.size, [s1.heap.objs.size], _, _, H1, rfl, I1.kept (t' := s1.toks) fun b o e => Heap.get?_push_of_some _ e, turn_strA x t _, ⟨_, Heap.get?_push_size _ rfl, rfl, rfl⟩, fp, q⟩
theorem qi_str {l : Expr} {tl : TE} (hl : QE X l tl) : QI X tg l (iStr tl) := ⟨pi_str hl.h⟩
end
end L2
set_option Elab.async false
set_option linter.all false
set_option maxRecDepth 100000
set_option maxHeartbeats 4000000
namespace L2
open PySem PySem.Spec PySem.Calls PyProof.Rows Builtin Builtin.Str
section
variable {X : Cx}
theorem all_range (bs : List Bool) : (List.range bs.length).all (fun i => bs[i]?.getD true) = bs.all id := by
  rw [Bool.eq_iff_iff, List.all_eq_true, List.all_eq_true]
  constructor
  · intro h b hb
    obtain ⟨i, hi, rfl⟩ := List.mem_iff_getElem.mp hb
    have := h i (List.mem_range.mpr hi)
    rw [List.getElem?_eq_getElem hi] at this
    exact this
  · intro h i hi
    have hi := List.mem_range.mp hi
    rw [List.getElem?_eq_getElem hi]
    exact h _ (List.getElem_mem hi)
theorem vals_bl {bs : List Bool} {its : List Value} (r : Vals (bs.map V.bl) its) {i : Nat} {v : Value} (h : its[i]? = some v) : v = .bool (bs[i]?.getD true) := by
  have hi : i < its.length := (List.getElem?_eq_some_iff.mp h).1
  have hl := r.length
  rw [List.length_map] at hl
  have hb : bs[i]? = some (bs[i]'(by omega)) := List.getElem?_eq_getElem (by omega)
  obtain ⟨u, e, ru⟩ := r.get (i := i) (x := V.bl (bs[i]'(by omega))) (by rw [List.getElem?_map, hb]; rfl)
  rw [h] at e
  cases e
  rw [hb]
  exact ru
theorem call_all (hc : X.calm = true) : CallR X (.builtin "all") (fun xs H Q => ∃ (p : Addr) (bs : List Bool), xs = [.ref p] ∧ SqL X.K H p (bs.map V.bl) ∧ Q (.bl (bs.all id)) H) := by
  intro pins s σ H xs us Q I r h
  obtain ⟨p, bs, rfl, hq, q⟩ := h
  obtain ⟨u, rfl, ru⟩ := vals1 r
  cases ru
  obtain ⟨its, rv, pl, _⟩ := I.list hq
  have hl := pl.isList
  have hpl : p ≠ s.heap.objs.size := by
    obtain ⟨o, h1, _⟩ := hl
    exact Nat.ne_of_lt (Heap.lt_size h1)
  have hlen := rv.length
  rw [List.length_map] at hlen
  refine call_all_walk (wpAny_pyIter_list hl ⟨s.heap.objs.size, _, _, _, _, _, fun i => bs[i]?.getD true, rfl, Walks.list (A := X.A.in1) (I.ok.hd hc) _ p hpl its.toArray, ⟨⟨_, Heap.get?_push_size _ rfl, rfl, rfl⟩, ?_⟩, ?_, fun h' tk hk => ⟨.bl _, H, I.kept (fun b o e => hk b o ?_ (Heap.get?_push_of_some _ e)), ?_, q⟩⟩)
  · exact hl.at fun o e => Heap.get?_push_of_some _ e
  · intro i v s' Q' E' hP hQ
    have e := vals_bl rv (i := i) (v := v) (by simpa using hP)
    subst e
    exact wpAny_truthy_bool hQ
  · intro z
    rw [List.mem_singleton.mp z] at e
    exact absurd (Heap.lt_size e) (Nat.lt_irrefl _)
  · show Value.bool _ = Value.bool _
    rw [List.size_toArray, ← hlen, all_range]
theorem comp_strM {x : Str} {ys : List V} {js : List Nat} {te : TE} {σ : St} {Q : VK} {D : Addr} {H1 : Hp} (hz : x.cps.size < sizeLine) (hlen : ys.length = x.cps.size) (hD : H1 D = none)
    (he : ∀ (i c : Nat) (y : V) (H : Hp), x.cps[i]? = some c → ys[i]? = some y → Same H1 H → ∀ Q' : VK, (∀ H', Same H H' → Q' y H') → te (some (.str ⟨#[c]⟩) :: compS js σ) H Q')
    (hq : ∀ H', Same H1 H' → H' D = some (.lst ys) → Q (.ref D) H') : CompW (Its x) js tYes te σ Q D H1 := by
  refine ⟨fun i m acc H => m = x.cps.size - i ∧ i ≤ x.cps.size ∧ acc = ys.take i ∧ Same H1 H ∧ H D = some (.lst acc), ⟨x.cps.size, by simp, Nat.zero_le _, rfl, same_new hD _, upd_same⟩, ?_⟩
  rintro i m acc H ⟨hm, hi, e, s, d⟩
  refine ⟨d, by rw [e, List.length_take]; omega, ?_⟩
  by_cases hlt : i < x.cps.size
  · refine .inr ⟨hlt, fun v H' yl => ?_⟩
    obtain ⟨e', c, hc, rfl⟩ := yl
    subst e'
    unfold tYes
    dsimp only
    rw [if_pos rfl]
    obtain ⟨y, hy⟩ := some_of_lt (xs := ys) (i := i) (by omega)
    exact he i c y H' hc hy s _ fun H'' s' => cstep hlt hm (s' _ _ d) ⟨by rw [e, take_snoc hy], same_upd hD (s.trans s'), upd_same⟩
  · have e0 : i = x.cps.size := by omega
    subst e0
    refine .inl ⟨Nat.le_refl _, hq H s ?_⟩
    rw [d, e, List.take_of_length_le (by omega)]
end
end L2
set_option Elab.async false
set_option linter.all false
set_option maxRecDepth 100000
set_option maxHeartbeats 4000000
namespace L2
open PySem PySem.Spec PySem.Calls PyProof.Rows Builtin Builtin.Tuple
section
variable {X : Cx}
end
end L2
set_option Elab.async false
set_option linter.all false
set_option maxRecDepth 100000
set_option maxHeartbeats 4000000
namespace L2
open PySem PySem.Spec PyProof.Rows
section
variable {X : Cx} {pins : List (Addr × Obj)} {σ : St} {H : Hp} {s : Shared} {h' : Heap}
theorem Inv.turnedT {t' : Nat} {wr : List Addr} {T : Addr} {vs : List V} {its : List Value} (I : Inv X pins σ H s) (k : ∀ b o, b ∉ wr → s.heap.get? b = some o → h'.get? b = some o) (hf : ∀ b ∈ wr, FpOk X pins H b)
    (hT : s.heap.objs.size ≤ T) (hz : vs.length ≤ sizeLine) (hv : Vals vs its) (ht : IsTup h' T its.toArray) : Inv X pins σ (upd H T (.tup vs)) { s with heap := h', toks := t' } := by
  have hn : H T = none := I.hok.fresh hT
  have nw : ∀ b u, H b = some u → b ∉ wr := fun b u e z => by
    have := (hf b z).1
    rw [this] at e
    cases e
  have nT : ∀ b o, s.heap.get? b = some o → b ≠ T := fun b o e z => by
    subst z
    exact absurd (Nat.lt_of_lt_of_le (Heap.lt_size e) hT) (Nat.lt_irrefl _)
  refine I.step (H' := upd H T (.tup vs)) (g' := s.gens) (d' := s.drawn) (ch := wr) (fun b hb => ?_) (fun b o _ _ hc e _ => k b o hc e) (fun b o _ _ hc e _ => ⟨o.slots, k b o hc e⟩) (fun b o _ e n => by rw [upd_ne (nT b o e)]; exact n)
    (fun b o hc e => ⟨o, k b o hc e⟩) (fun b xs e => by rw [upd_ne (ne_of_none e hn)]; exact e) (fun b o u e => by rw [upd_ne (ne_of_none e hn)]; exact e) (fun b ps e => ⟨#[], by rw [upd_ne (ne_of_none e hn), e]; simp⟩) (fun m hm => ?_) (fun b u e => ?_) I.bare
  · obtain ⟨f0, f1, f2, f3, f4, f5⟩ := hf b hb
    exact ⟨f3, f1, f4, f5⟩
  · obtain ⟨o, es, ep, ho, r⟩ := hm
    exact ⟨o, es, ep, k _ o (fun z => (hf _ z).2.1 rfl) ho, r⟩
  · by_cases hb : b = T
    · subst hb
      rw [upd_same] at e
      cases e
      exact ⟨hz, its, hv, ht⟩
    · rw [upd_ne hb] at e
      refine (I.hok b u e).stay (fun c v hc q => k c v ?_ q) (fun c q => by rw [upd_ne (ne_of_none q hn)]; exact q) fun c xs q => by rw [upd_ne (ne_of_none q hn)]; exact q
      rcases hc with z | z
      · rw [z]; exact nw b u e
      · exact nw c _ z
theorem Inv.turnedL {t' : Nat} {wr : List Addr} (I : Inv X pins σ H s) (k : ∀ b o, b ∉ wr → s.heap.get? b = some o → h'.get? b = some o) (hf : ∀ b ∈ wr, FpOk X pins H b) : Inv X pins σ H { s with heap := h', toks := t' } := by
  have nw : ∀ b u, H b = some u → b ∉ wr := fun b u e z => by
    have := (hf b z).1
    rw [this] at e
    cases e
  refine I.step (g' := s.gens) (d' := s.drawn) (ch := wr) (fun b hb => ?_) (fun b o _ _ hc e _ => k b o hc e) (fun b o _ _ hc e _ => ⟨o.slots, k b o hc e⟩) (fun _ _ _ _ n => n)
    (fun b o hc e => ⟨o, k b o hc e⟩) (fun _ _ e => e) (fun _ _ _ e => e) (fun b ps e => ⟨#[], by rw [e]; simp⟩) (fun m hm => ?_) (fun b u e => ?_) I.bare
  · obtain ⟨f0, f1, f2, f3, f4, f5⟩ := hf b hb
    exact ⟨f3, f1, f4, f5⟩
  · obtain ⟨o, es, ep, ho, r⟩ := hm
    exact ⟨o, es, ep, k _ o (fun z => (hf _ z).2.1 rfl) ho, r⟩
  · refine (I.hok b u e).stay (fun c v hc q => k c v ?_ q) (fun _ q => q) fun _ _ q => q
    rcases hc with z | z
    · rw [z]; exact nw b u e
    · exact nw c _ z
end
def ItW (n : Nat) (G : Hp → Prop) (R : Nat → List V → Prop) : It :=
  ⟨fun i H => i < n ∧ G H, fun i H x H' => ∃ T vs, x = .ref T ∧ H T = none ∧ R i vs ∧ H' = upd H T (.tup vs), fun i H => i = n ∧ G H⟩
theorem turn_wt {P : Program} {w : World} {K : PySem.W.Frag} {elts : List Expr} {k : Nat} {pos : Pos} {e : Addr} {fp own wr : List Addr} {n : Nat} {Pt : Nat → Array Value → Prop} {St : Nat → Heap → Prop} {Mid : Nat → Addr → Heap → Prop}
    {G : Hp → Prop} {R : Nat → List V → Prop} {tn : Nat → Heap → Prop} (W : ∀ A : Around, A.handled = none → WalksT P w A e fp wr n Pt St Mid) (mem : e ∈ own) (sub : ∀ b ∈ wr, b ∈ own)
    (obj : ∀ i h, tn i h → ∀ b ∈ own, ∃ o, h.get? b = some o ∧ ∀ v, o.data ≠ .cell v)
    (keep : ∀ i h h', tn i h → (∀ b ∈ own, ∀ o, h.get? b = some o → h'.get? b = some o) → tn i h')
    (st : ∀ (X : Cx), X.prog = P → X.w = w → X.K = K → ∀ (i : Nat) (pins : List (Addr × Obj)) (s : Shared) (σ : L2.St) (H : Hp), Inv X pins σ H s → tn i s.heap → G H → St i s.heap)
    (back : ∀ i h, St i h → tn i h)
    (self : ∀ (A : Around) (i : Nat) (s : Shared) (Q : Value → Shared → Prop) (E : Value → Shared → Prop), tn i s.heap → Q (.ref e) s → wpAny (model P w) A (pyIter (.ref e)) Q E s)
    (hR : ∀ (X : Cx), X.prog = P → X.w = w → X.K = K → ∀ (i : Nat) (pins : List (Addr × Obj)) (s : Shared) (σ : L2.St) (H : Hp) (vals : Array Value), Inv X pins σ H s → G H → St i s.heap → Pt i vals → ∃ vs, R i vs ∧ vs.length ≤ sizeLine ∧ Vals vs vals.toList) :
    Turn P w K (.Tuple elts k pos) (ItW n G R) own e tn where
  mem := mem
  obj := obj
  keep := keep
  item := by
    intro X hP hw hK hc i pins s σ H E I hf ht ⟨hi, hG⟩
    have hh := I.ok.hd hc
    have S := st X hP hw hK i pins s σ H I ht hG
    subst hP hw hK
    refine (W X.A hh).item i s _ _ hi S fun T vals h1 tk hv hT ht1 hm k1 => ?_
    refine ⟨_, rfl, (W X.A hh).go elts k pos i T _ _ _ hm fun h2 S2 k2 => ?_⟩
    obtain ⟨vs, r, z, rv⟩ := hR X rfl rfl rfl i pins s σ H vals I hG S hv
    have nT : T ∉ wr := (W X.A hh).apart i T _ hm
    have fw : ∀ b ∈ wr, FpOk X pins H b := fun b hb => hf b (sub b hb)
    have t2 : IsTup h2 T vals.toList.toArray := by
      obtain ⟨o, ho, c, m, d⟩ := ht1
      exact ⟨o, k2 T o nT ho, c, m, by rw [d]⟩
    refine ⟨.ref T, upd H T (.tup vs), I.turnedT (wr := wr) (fun b o hb q => k2 b o hb (k1 b o hb q)) fw hT z rv t2, rfl, ⟨T, vs, rfl, I.hok.fresh hT, r, rfl⟩, back _ _ S2, fun b hb => ?_⟩
    have f := (hf b hb).1
    obtain ⟨o, ho, _⟩ := obj i _ ht b hb
    have nb : b ≠ T := fun z => by
      subst z
      exact absurd (Nat.lt_of_lt_of_le (Heap.lt_size ho) hT) (Nat.lt_irrefl _)
    rw [upd_ne nb]
    exact f
  done := by
    intro X hP hw hK hc i pins s σ H E I hf ht ⟨hi, hG⟩
    have hh := I.ok.hd hc
    have S := st X hP hw hK i pins s σ H I ht hG
    subst hP hw hK hi
    exact (W X.A hh).done s _ _ S fun h1 tk k1 => ⟨rfl, I.turnedL (wr := wr) k1 fun b hb => hf b (sub b hb)⟩
  self := self
theorem for_wt {n : Nat} {G : Hp → Prop} {R : Nat → List V → Prop} {g : TG} {tb : TS} {D : Ends} {σ : St} {H : Hp} (Pv : Nat → St → Hp → Prop) (h0 : Pv 0 σ H) (hg : ∀ i σ H, i ≤ n → Pv i σ H → G H)
    (hs : ∀ i T vs σ H, i < n → R i vs → Pv i σ H → H T = none → g (.ref T) σ (upd H T (.tup vs)) fun σ2 H2 => tb { D with nx := Pv (i + 1), ct := Pv (i + 1), bk := D.nx } σ2 H2) (hd : ∀ σ H, Pv n σ H → D.nx σ H) :
    ∃ W : Nat → Nat → St → Hp → Prop, (∃ m, W 0 m σ H) ∧ ∀ i m σ H, W i m σ H →
      ((ItW n G R).stop i H ∧ D.nx σ H) ∨ ((ItW n G R).go i H ∧ ∃ N : St → Hp → Prop, (∀ σ' H', N σ' H' → ∃ m', m' < m ∧ W (i + 1) m' σ' H') ∧ ∀ x H', (ItW n G R).yld i H x H' → g x σ H' fun σ2 H2 => tb { D with nx := N, ct := N, bk := D.nx } σ2 H2) := by
  refine ⟨fun i m σ H => m = n - i ∧ i ≤ n ∧ Pv i σ H, ⟨n, by simp, Nat.zero_le _, h0⟩, ?_⟩
  rintro i m σ H ⟨rfl, hi, p⟩
  have q := hg i σ H hi p
  by_cases hlt : i < n
  · refine .inr ⟨⟨hlt, q⟩, Pv (i + 1), fun σ' H' p' => ⟨n - (i + 1), by omega, rfl, hlt, p'⟩, fun x H' y => ?_⟩
    obtain ⟨T, vs, rfl, hT, r, rfl⟩ := y
    exact hs i T vs σ H hlt r p hT
  · have e : i = n := by omega
    subst e
    exact .inl ⟨⟨rfl, q⟩, hd σ H p⟩
def rEnS (x : Str) : Nat → List V → Prop := fun i vs => ∃ c, x.cps[i]? = some c ∧ vs = [.int i, .str ⟨#[c]⟩]
theorem turn_enumS {P : Program} {w : World} {K : PySem.W.Frag} {elts : List Expr} {k : Nat} {pos : Pos} (x : Str) (t : Tok) (e it : Addr) (ne : e ≠ it) :
    Turn P w K (.Tuple elts k pos) (ItW x.cps.size (fun _ => True) (rEnS x)) [e, it] e (fun i h => (∃ old, IsEnum h e it i old) ∧ h.IsStrIter it (strIterType x) x t i) := by
  have D : ∀ A : Around, A.handled = none → Draws P w A.in1 it [it] x.cps.size (fun i v => ∃ c u, x.cps[i]? = some c ∧ v = .str ⟨#[c]⟩ u) (fun i h => h.IsStrIter it (strIterType x) x t i) := fun A hh => by
    unfold strIterType
    cases x.cps.all (· < 128)
    · exact Draws.strWide (A := A.in1) hh it x t
    · exact Draws.strAscii (A := A.in1) hh it x t
  refine turn_wt (fp := [e, it]) (wr := [e, it]) (fun A hh => WalksT.enumerateD (D A hh) e ne (by simpa using ne) (by simp)) (by simp) (fun b hb => hb) (fun i h ht b hb => ?_) (fun i h h' ht k => ?_) (fun X _ _ _ i pins s σ H I ht _ => ht) (fun i h S => S) (fun A i s Q E ht q => ?_) (fun X _ _ _ i pins s σ H vals I _ S hv => ?_)
  · obtain ⟨⟨old, he⟩, o, ho, c, d⟩ := ht
    rcases List.mem_cons.mp hb with z | z
    · rw [z]
      exact ⟨_, he, fun v z => by cases z⟩
    · rw [List.mem_singleton.mp z]
      exact ⟨o, ho, fun v z => by rw [d] at z; cases z⟩
  · obtain ⟨⟨old, he⟩, o, ho, r⟩ := ht
    exact ⟨⟨old, k e (by simp) _ he⟩, o, k it (by simp) o ho, r⟩
  · obtain ⟨⟨old, he⟩, _⟩ := ht
    exact wpAny_pyIter_enum he q
  · obtain ⟨u, v, ⟨c, tc, hc, rfl⟩, rfl⟩ := hv
    exact ⟨[.int i, .str ⟨#[c]⟩], ⟨c, hc, rfl⟩, (by show 2 ≤ sizeLine; decide), .cons ⟨_, rfl⟩ (.cons ⟨_, rfl⟩ .nil)⟩
section
variable {X : Cx} {elts : List Expr} {k : Nat} {tpos : Pos}
def iEnS (ta : TA) : TI := fun σ H R => ta σ H fun vs H1 => ∃ x, vs = [.str x] ∧ R (ItW x.cps.size (fun _ => True) (rEnS x)) H1
theorem pi_enumS {a : Expr} {ta : TA} {p pos : Pos} (hg : Gl X "enumerate") (hm : X.mg "enumerate" = none) (ha : PA X [a] ta) (hs : starEach [a] X.env = [(false, eval a X.env)] := by rfl) : PI X (.Tuple elts k tpos) (.Call (.Name "enumerate" p) [a] [] pos) (iEnS ta) := by
  intro pins s σ H R I h
  refine Call_ (ld_blt I hg hm boot_enumerate (PyProof.Rows.callWith_type1 (thn (ha pos pins s σ H _ I h) fun us s1 ⟨vs, H1, I1, r1, q1⟩ => ?_) hs rfl))
  obtain ⟨x, e, q⟩ := q1
  subst e
  cases r1 with
  | cons r rr =>
    cases rr
    obtain ⟨t, rfl⟩ := r
    refine call_enumerate_str fun h' he hi hz kp => wpAny_pyIter_enum he ?_
    have I2 : Inv X pins σ H1 { s1 with heap := h' } := I1.kept (t' := s1.toks) kp
    refine ⟨s1.heap.objs.size + 1, [s1.heap.objs.size + 1, s1.heap.objs.size], _, _, H1, rfl, I2, turn_enumS x t _ _ (Nat.succ_ne_self _), ⟨⟨_, he⟩, hi⟩, fun b hb => ?_, q⟩
    have hb' : b = s1.heap.objs.size + 1 ∨ b = s1.heap.objs.size := by simpa using hb
    rcases hb' with z | z <;> subst z
    · exact I1.fpOk (Nat.le_succ _) (I1.hok.fresh (Nat.le_succ _))
    · exact I1.fpOk (Nat.le_refl _) (I1.hok.fresh (Nat.le_refl _))
theorem qi_enumS {a : Expr} {ta : TA} {p pos : Pos} (hg : Gl X "enumerate") (hm : X.mg "enumerate" = none) (ha : QA X [a] ta) (hs : starEach [a] X.env = [(false, eval a X.env)] := by rfl) : QI X (.Tuple elts k tpos) (.Call (.Name "enumerate" p) [a] [] pos) (iEnS ta) := ⟨pi_enumS hg hm ha.h hs⟩
end
end L2
set_option Elab.async false
set_option linter.all false
set_option maxRecDepth 100000
set_option maxHeartbeats 4000000
namespace L2
open PySem PySem.Spec PyProof.Rows
theorem ps_setC {X : Cx} {elt iter : Expr} {ifs : List Expr} {sc : Scope} {pos px py spos : Pos} {t y : Str} {ys : List Str} {js : List Nat} {wi : TI} {tc : TT} {te : TE} {g : TG} (hc : X.calm = true) (hck : compChk X.N X.env.scope sc t ys js = true)
    (hi : PI X (.Name t px) iter wi) (hf : ∀ cl C s H fp, PIf (X.comp sc cl C (t :: ys) s H fp) ifs tc) (he : ∀ cl C s H fp, PE (X.comp sc cl C (t :: ys) s H fp) elt te) (hg : PG X (.Name y py) g)
    (hsw : swapsWith (.ListComp elt [⟨.Name t px, iter, ifs, 0⟩] sc pos) (some (.Name y py)) spos.line X.env = pure true) (hs : ∀ x, foldedSetIterable iter X.env x = pure x := by intro _; rfl) :
    PS X (.Assign [.Name y py] (.ListComp elt [⟨.Name t px, iter, ifs, 0⟩] sc pos) spos) (tAsg (tComp wi js tc te) g) := by
  have ck := compOk_of hck
  intro pins s σ H D0 I h
  have hfr : ∀ x, (x, NameKind.free) ∈ sc.names → ∃ c, X.env.cells.lookup x = some c := fun x hx => I.ok.has x (.inl (ck.fre _ hx rfl))
  obtain ⟨cl, hcl, cl1, cl2⟩ := clos_ok hfr
  rw [exec_Assign_Name_used _ _ _ _ hsw]
  refine wpAny_bind (wpAny_standAt (wpAny_bind ?_))
  show wpAny _ X.A (do let _ ← comprehension (.ListComp elt [⟨.Name t px, iter, ifs, 0⟩] sc pos) sc X.env _ (newList []) false (eval iter X.env) (some (assign (.Name y py) X.env))) _ _ s
  refine wpAny_bind (wpAny_mono (wpAny_comprehension_free (use := some (assign (.Name y py) X.env)) (Q := fun _ s' => SP X pins D0 .next s') rfl hs hcl ck.kind ck.loc (thn (hi pins s σ H _ I h) fun v s1 h1 => thn h1 fun itv s2 h2 => ?_)) (fun _ s' hq => wpAny_pure (wpAny_pure hq)) fun _ _ e => e)
  obtain ⟨it, fp, tn, J, H2, e, I2, T, st2, f2, hR⟩ := h2
  subst e
  refine wpAny_newObj_type (wpAny_newFunctionEnv ck.ncell (by intro y hy; simp at hy) (fun h1 hns hsb => ?_) ck.kind)
  dsimp only at hns hsb ⊢
  generalize hp : s2.heap.push { cls := .type "list", dict := none, data := .seq ([] : List Value).toArray } = hh at hns hsb ⊢
  have hC : hh.objs.size = s2.heap.objs.size + 1 := by rw [← hp, Heap.size_push]
  have neD : ∀ {b : Addr}, b < s2.heap.objs.size → b ≠ s2.heap.objs.size := fun hb => Nat.ne_of_lt hb
  have neC : ∀ {b : Addr}, b < s2.heap.objs.size → b ≠ hh.objs.size := fun hb => by rw [hC]; exact Nat.ne_of_lt (Nat.lt_succ_of_lt hb)
  have hDC : s2.heap.objs.size ≠ hh.objs.size := by rw [hC]; exact Nat.ne_of_lt (Nat.lt_succ_self _)
  have hCle : s2.heap.objs.size ≤ hh.objs.size := by rw [hC]; exact Nat.le_succ _
  have old : ∀ b o, s2.heap.get? b = some o → h1.get? b = some o := fun b o e => hsb.extBut b o (neC (Heap.lt_size e)) (Heap.get?_push_of_some _ (hp ▸ Heap.get?_push_of_some _ e))
  have hnew : h1.get? s2.heap.objs.size = some { cls := .type "list", dict := none, data := .seq ([] : List Value).toArray } := hsb.extBut _ _ hDC (Heap.get?_push_of_some _ (hp ▸ Heap.get?_push_size _ rfl))
  have fpH : ∀ b ∈ fp, ∃ o, s2.heap.get? b = some o := fun b hb => let ⟨o, e, _⟩ := T.obj 0 _ st2 b hb; ⟨o, e⟩
  have fpD : ∀ b ∈ fp, b ≠ s2.heap.objs.size := fun b hb => by obtain ⟨o, e⟩ := fpH b hb; exact neD (Heap.lt_size e)
  have fpC : ∀ b ∈ fp, b ≠ hh.objs.size := fun b hb => by obtain ⟨o, e⟩ := fpH b hb; exact neC (Heap.lt_size e)
  have fpS : ∀ b ∈ fp, b ∉ frs X.stack := fun b hb z => (List.mem_cons.mp (I2.stkSub b z)).elim (f2 b hb).2.1 (f2 b hb).2.2.1
  have hok' : (X.comp sc cl hh.objs.size (t :: ys) s2 H2 fp).Ok := by
    refine ⟨I2.ok.mod, ck.kind, I2.ok.glob, I2.ok.blt, hCle, fun x y c a b => I2.ok.inj x y c (cl1 x c a) (cl1 y c b), fun x hx => ?_, (fun x c z => nomatch z), I2.ok.hd, I2.ok.frames, .inl rfl, fun b hb => ⟨fpC b hb, fun x c a => (f2 b hb).2.2.2.2.1 x c (cl1 x c a)⟩,
      I2.bs, Nat.le_trans I2.ok.bsz I2.sz, fun b o e hb => ?_, fun b hb => fpS b hb, I2.stack, I2.stkFree⟩
    · have hx' : (sc.names.map fun (n, k) => if (k == NameKind.free && X.env.scope.kind == .function && X.env.kindOf n == some .cell) then (n, NameKind.cell) else (n, k)).lookup x = some .cell ∨ (sc.names.map fun (n, k) => if (k == NameKind.free && X.env.scope.kind == .function && X.env.kindOf n == some .cell) then (n, NameKind.cell) else (n, k)).lookup x = some .free := hx
      rcases hx' with z | z
      · rcases relabel_inv z with q | ⟨_, q⟩
        · exact absurd rfl (ck.ncell _ (PySem.mem_of_lookup q))
        · exact cl2 x (PySem.mem_of_lookup q)
      · rcases relabel_inv z with q | ⟨q, _⟩
        · exact cl2 x (PySem.mem_of_lookup q)
        · cases q
    · rcases (f2 b hb).2.2.2.1 with z | z
      · exact I2.ok.noex b o e z
      · exact absurd (Nat.lt_of_lt_of_le (Heap.lt_size e) (Nat.le_trans I2.ok.bsz z)) (Nat.lt_irrefl _)
  have Iin : ∀ tk : Nat, Inv (X.comp sc cl hh.objs.size (t :: ys) s2 H2 fp) [] (none :: compS js σ) (upd H2 s2.heap.objs.size (.lst [])) { s2 with heap := h1, toks := tk } := fun tk => by
    refine ⟨hok', rfl, I2.bare, Un.laid old (Nat.le_refl _) I2.fresh, ⟨_, hns, fun i x v e1 e2 e3 => ?_⟩, fun x c e => ?_, ?_, fun x c e => ?_, fun p hp => absurd (show p ∈ ([] : List (Addr × Obj)) from hp) (by simp), I2.hok.laid old (Nat.le_refl _) ⟨Nat.zero_le _, [], 0, .nil, hnew⟩, ?_⟩
    · cases i with
      | zero => simp at e2
      | succ k =>
        have e1' : ys[k]? = some x := e1
        have e2' : (compS js σ)[k]? = some (some v) := by simpa using e2
        unfold compS at e2'
        rw [List.getElem?_map] at e2'
        have q := congrArg (fun l => l[k]?) ck.ysj
        simp only [List.getElem?_map, e1', Option.map_some] at q
        cases hj : js[k]? with
        | none => rw [hj] at q; cases q
        | some j =>
          rw [hj] at q e2'
          have q1 : X.N[j]? = some x := (Option.some.inj q).symm
          have q2 : σ[j]? = some (some v) := by
            have z : (σ[j]?).join = some v := Option.some.inj e2'
            cases hz : σ[j]? with
            | none => rw [hz] at z; cases z
            | some y => rw [hz] at z; exact congrArg some z
          have hf' := ck.ysf x (List.mem_of_getElem? e1')
          have hcell := ck.fre _ (PySem.mem_of_lookup hf') rfl
          obtain ⟨m2, hn2, hl2⟩ := I2.loc
          obtain ⟨u, ru, lk⟩ := hl2 j x v q1 q2 (.inr (.inl hcell))
          refine ⟨u, ru, ?_⟩
          rcases lk with ⟨kk, _⟩ | ⟨_, c, ec, ic⟩
          · have kk' : X.env.scope.names.lookup x = some .local := kk
            have hcell' : X.env.scope.names.lookup x = some .cell := hcell
            rw [hcell'] at kk'; cases kk'
          · obtain ⟨c', ec'⟩ := cl2 x (PySem.mem_of_lookup hf')
            have : c' = c := Option.some.inj ((cl1 x c' ec').symm.trans ec)
            subst this
            refine .inr ⟨relabel_free hf', c', ec', ?_⟩
            obtain ⟨o, ho, hd⟩ := ic
            exact ⟨o, old _ o ho, hd⟩
    · obtain ⟨v, o, ho, hd⟩ := I2.cell x c (cl1 x c e)
      exact ⟨v, o, old _ o ho, hd⟩
    · show upd H2 s2.heap.objs.size _ hh.objs.size = none
      rw [upd_ne (Ne.symm hDC)]
      exact I2.hok.fresh hCle
    · obtain ⟨v, o, ho, hd⟩ := I2.cell x c (cl1 x c e)
      rw [upd_ne (neD (Heap.lt_size ho))]
      exact I2.freeC x c (cl1 x c e)
    · show (none :: compS js σ).length = (t :: ys).length
      have q := congrArg List.length ck.ysj
      simp only [List.length_map] at q
      unfold compS
      simp only [List.length_cons, List.length_map]
      omega
  have st1 : tn 0 h1 := T.keep _ _ _ st2 fun b hb o e => old b o e
  obtain ⟨W, ⟨m0, w0⟩, turn⟩ := hR s2.heap.objs.size I2.fresh
  have fpok : ∀ {H' : Hp}, (∀ b ∈ fp, H' b = none) → ∀ b ∈ fp, FpOk (X.comp sc cl hh.objs.size (t :: ys) s2 H2 fp) [] H' b := fun hn b hb =>
    ⟨hn b hb, fpC b hb, fpS b hb, .inl hb, fun x c a => (f2 b hb).2.2.2.2.1 x c (cl1 x c a), fun p hp => absurd (show p ∈ ([] : List (Addr × Obj)) from hp) (by simp)⟩
  have ndN : (t :: ys).Nodup := ck.nd
  have loop : ∀ s3 : Shared, s3 = { s2 with heap := h1, toks := s2.toks + ([] : List (Str × Value)).length } →
      codeAny (model X.prog X.w) X.A (.compLoop (.ListComp elt [⟨.Name t px, iter, ifs, 0⟩] sc pos) 0 (.ref it) (.ref s2.heap.objs.size) (compEnvC sc cl hh.objs.size X.env))
        (compPost (model X.prog X.w) X.A X.xe (some (assign (.Name y py) X.env)) (fun _ s' => SP X pins D0 .next s') (.ref s2.heap.objs.size) hh.objs.size) s3 := by
    rintro s3 rfl
    refine comp_turns (fun n s' => ∃ i acc H', Inv (X.comp sc cl hh.objs.size (t :: ys) s2 H2 fp) [] (none :: compS js σ) H' s' ∧ tn i s'.heap ∧ (∀ b ∈ fp, H' b = none) ∧ W i n acc H') ?_ m0
      ⟨0, [], _, Iin _, st1, fun b hb => by rw [upd_ne (fpD b hb)]; exact (f2 b hb).1, w0⟩
    rintro n s3 ⟨i, acc, H3, I3, st3, fr3, w3⟩
    obtain ⟨hD, hz, alt⟩ := turn i n acc H3 w3
    rcases alt with ⟨stop, q⟩ | ⟨go, step⟩
    · refine thn (T.done (X.comp sc cl hh.objs.size (t :: ys) s2 H2 fp) rfl rfl rfl hc i [] s3 _ H3 _ I3 (fpok fr3) st3 stop) fun r s4 ⟨hr, I4⟩ => ?_
      subst hr
      obtain ⟨m, hn, _⟩ := id I4.loc
      have ltC : ∀ b o, s2.heap.get? b = some o → b ≠ hh.objs.size := fun b o e => neC (Heap.lt_size e)
      have b4 : Un (frs X.stack) fp H2 H3 s2.heap s4.heap := I4.base
      have I5 : Inv X pins σ H3 s4 := I2.call' (s' := s4) (ch := fp) I4.os ⟨fun b o e n1 n2 n3 => b4.keep b o e n1 n2 n3, fun b o e n1 n2 n3 => b4.slot b o e n1 n2 n3, b4.free, fun b o e n1 => b4.there b o e n1, b4.tups, b4.frzs, b4.tbls⟩ (fun b ob e => I4.hok b ob e) I4.bare
        (fun b hb => ⟨(f2 b hb).2.2.2.1, (f2 b hb).2.1, (f2 b hb).2.2.2.2.1, (f2 b hb).2.2.2.2.2⟩)
      have fC : FpOk X pins H3 hh.objs.size := I2.fpOk hCle I4.free
      obtain ⟨oC, es, ep, hoC, dC, rC⟩ := id hn
      have I6 : Inv X (pins ++ [(hh.objs.size, oC)]) σ H3 s4 := I5.pins_of fun p hp => (List.mem_append.mp hp).elim (fun z => I5.pin p (List.mem_append_right _ z)) fun z => by
        rw [List.mem_singleton.mp z]
        exact ⟨hoC, fC.1, fC.2.1, fC.2.2.1, fun v z => by rw [dC] at z; cases z⟩
      show wpAny _ X.A (assign (.Name y py) X.env (.ref s2.heap.objs.size)) _ _ s4
      refine thn (hg _ s4 σ H3 (.ref s2.heap.objs.size) _ _ I6 rfl q) fun _ s7 ⟨σ7, H7, I7, q7⟩ => ?_
      obtain ⟨p1, p2, p3, p4, p5⟩ := I7.pin (hh.objs.size, oC) (List.mem_append_right _ (List.mem_append_right _ (List.mem_singleton.mpr rfl)))
      refine ⟨m, ⟨oC, es, ep, p1, dC, rC⟩, fun h' sb => ⟨σ7, H7, ?_, q7⟩⟩
      exact I7.unpinned.turned (t' := s7.toks) (fun b o hb e => (sb.2 b hb).trans e) p2 p3 fC.2.2.2.1 fC.2.2.2.2.1 fC.2.2.2.2.2
    · refine thn (T.item (X.comp sc cl hh.objs.size (t :: ys) s2 H2 fp) rfl rfl rfl hc i [] s3 _ H3 _ I3 (fpok fr3) st3 go) fun r s4 ⟨u, hr, h4⟩ => ?_
      subst hr
      refine thn h4 fun _ s5 ⟨x, H5, I5, r5, y5, st5, fr5⟩ => ?_
      have I5' := I5.pinned (fpok fr5) (T.obj _ _ st5)
      refine wpAny_assign_Name (store_ok (i := 0) I5' ndN rfl (.inl (lookup_relabel_local ck.tl)) r5 (fun s6 I6 => ?_) (.inr (lookup_relabel_local ck.tl)))
      have again : ∀ {H7 : Hp} {s7 : Shared} {m' : Nat} {acc' : List V}, Inv (X.comp sc cl hh.objs.size (t :: ys) s2 H2 fp) ([] ++ pinsAt fp s5.heap) (some x :: compS js σ) H7 s7 → m' < n → W (i + 1) m' acc' H7 →
          ∃ m, m < n ∧ ∃ i acc H', Inv (X.comp sc cl hh.objs.size (t :: ys) s2 H2 fp) [] (none :: compS js σ) H' s7 ∧ tn i s7.heap ∧ (∀ b ∈ fp, H' b = none) ∧ W i m acc H' := fun {H7 s7 m' acc'} I7 hm w7 => by
        refine ⟨m', hm, i + 1, acc', H7, (I7.unpinned).weak rfl (fun k v e => ?_), T.keep _ _ _ st5 fun b hb o e => (I7.pin (b, o) (List.mem_append_right _ (List.mem_append_right _ (mem_pinsAt hb e)))).1, fun b hb => ?_, w7⟩
        · cases k with
          | zero => simp at e
          | succ k => simpa using e
        · obtain ⟨o, e, d⟩ := T.obj _ _ st5 b hb
          exact (I7.pin (b, o) (List.mem_append_right _ (List.mem_append_right _ (mem_pinsAt hb e)))).2.1
      refine thn (hf _ _ _ _ _ _ s6 _ H5 _ I6 (step x H5 y5)) fun ok s7 ⟨H7, I7, q7⟩ => ?_
      cases ok with
      | false =>
        obtain ⟨m', hm, w7⟩ := q7
        exact again I7 hm w7
      | true =>
        refine thn (he _ _ _ _ _ _ s7 _ H7 _ I7 q7) fun uy s8 ⟨y, H8, I8, r8, hD8, m', hm, w8⟩ => ?_
        refine thn (mt_append (X := X.comp sc cl hh.objs.size (t :: ys) s2 H2 fp) _ s8 _ H8 (.ref s2.heap.objs.size) [y] (.ref s2.heap.objs.size) [uy] (fun _ H9 => W (i + 1) m' (acc ++ [y]) H9) I8 rfl (.cons r8 .nil) ⟨_, acc, y, rfl, rfl, hD8, hz, w8⟩) fun _ s9 ⟨_, H9, I9, _, q9⟩ => ?_
        exact again I9 hm q9
  exact codeAny_compStart_list (loop _ rfl) (T.self _ 0 _ _ _ st1 (loop _ rfl))
theorem qs_setC {X : Cx} {elt iter : Expr} {ifs : List Expr} {sc : Scope} {pos px py spos : Pos} {t y : Str} {ys : List Str} {js : List Nat} {wi : TI} {tc : TT} {te : TE} {g : TG} (hc : X.calm = true) (hck : compChk X.N X.env.scope sc t ys js = true)
    (hi : QI X (.Name t px) iter wi) (hf : ∀ cl C s H fp, QIf (X.comp sc cl C (t :: ys) s H fp) ifs tc) (he : ∀ cl C s H fp, QE (X.comp sc cl C (t :: ys) s H fp) elt te) (hg : QG X (.Name y py) g)
    (hsw : swapsWith (.ListComp elt [⟨.Name t px, iter, ifs, 0⟩] sc pos) (some (.Name y py)) spos.line X.env = pure true) (hs : ∀ x, foldedSetIterable iter X.env x = pure x := by intro _; rfl) :
    QS X (.Assign [.Name y py] (.ListComp elt [⟨.Name t px, iter, ifs, 0⟩] sc pos) spos) (tAsg (tComp wi js tc te) g) := ⟨ps_setC hc hck hi.h (fun cl C s H fp => (hf cl C s H fp).h) (fun cl C s H fp => (he cl C s H fp).h) hg.h hsw hs⟩
end L2
set_option Elab.async false
set_option linter.all false
set_option maxRecDepth 100000
set_option maxHeartbeats 4000000
namespace L2
open PySem PySem.Spec PyProof.Rows
def compChkT (N : List Str) (osc sc : Scope) (ts : List Str) (ys : List Str) (js : List Nat) : Bool :=
  sc.kind == .function && sc.names.all (fun y => y.2 != .cell) && sc.names.all (fun y => y.2 != .local || sc.names.lookup y.1 == some .local) &&
  sc.names.all (fun y => y.2 != .free || osc.names.lookup y.1 == some .cell) && (ys.map some == js.map fun j => N[j]?) &&
  ys.all (fun y => sc.names.lookup y == some .free)
structure CompOkT (N : List Str) (osc sc : Scope) (ys : List Str) (js : List Nat) : Prop where
  kind : sc.kind = .function
  ncell : ∀ y ∈ sc.names, y.2 ≠ .cell
  loc : ∀ y ∈ sc.names, y.2 = .local → sc.names.lookup y.1 = some .local
  fre : ∀ y ∈ sc.names, y.2 = .free → osc.names.lookup y.1 = some .cell
  ysj : ys.map some = js.map fun j => N[j]?
  ysf : ∀ y ∈ ys, sc.names.lookup y = some .free
theorem compOkT_of {N : List Str} {osc sc : Scope} {ts ys : List Str} {js : List Nat} (h : compChkT N osc sc ts ys js = true) : CompOkT N osc sc ys js := by
  unfold compChkT at h
  simp only [Bool.and_eq_true, List.all_eq_true, decide_eq_true_eq, Bool.or_eq_true, bne_iff_ne, beq_iff_eq] at h
  obtain ⟨⟨⟨⟨⟨a, b⟩, c⟩, d⟩, e⟩, f⟩ := h
  exact ⟨a, fun y hy => b y hy, fun y hy z => (c y hy).resolve_left fun q => q z, fun y hy z => (d y hy).resolve_left fun q => q z, e, f⟩
def CompWT (J : It) (g : TG) (n : Nat) (js : List Nat) (tc : TT) (te : TE) (σ : St) (Q : VK) (D : Addr) (H1 : Hp) : Prop := ∃ W : Nat → Nat → List V → Hp → Prop, (∃ m, W 0 m [] (upd H1 D (.lst []))) ∧
  ∀ i m acc H, W i m acc H → H D = some (.lst acc) ∧ acc.length < sizeLine ∧ ((J.stop i H ∧ Q (.ref D) H) ∨ (J.go i H ∧ ∀ x H', J.yld i H x H' → g x (List.replicate n none ++ compS js σ) H' fun σ6 H6 => ∃ us : List (Option V), us.length = n ∧ σ6 = us ++ compS js σ ∧ tc σ6 H6 fun c H3 =>
    if c = true then te σ6 H3 fun y H4 => H4 D = some (.lst acc) ∧ ∃ m', m' < m ∧ W (i + 1) m' (acc ++ [y]) (upd H4 D (.lst (acc ++ [y]))) else ∃ m', m' < m ∧ W (i + 1) m' acc H3))
def tCompT (wi : TI) (g : TG) (n : Nat) (js : List Nat) (tc : TT) (te : TE) : TE := fun σ H Q => wi σ H fun J H1 => ∀ D, H1 D = none → CompWT J g n js tc te σ Q D H1
theorem pe_compT {X : Cx} {elt iter tg : Expr} {ifs : List Expr} {sc : Scope} {pos : Pos} {ts : List Str} {ys : List Str} {js : List Nat} {wi : TI} {g : TG} {tc : TT} {te : TE} (hc : X.calm = true) (hck : compChkT X.N X.env.scope sc ts ys js = true)
    (hi : PI X tg iter wi) (hg : ∀ cl C s H fp, PG (X.comp sc cl C (ts ++ ys) s H fp) tg g) (hf : ∀ cl C s H fp, PIf (X.comp sc cl C (ts ++ ys) s H fp) ifs tc) (he : ∀ cl C s H fp, PE (X.comp sc cl C (ts ++ ys) s H fp) elt te)
    (hs : ∀ x, foldedSetIterable iter X.env x = pure x := by intro _; rfl) : PE X (.ListComp elt [⟨tg, iter, ifs, 0⟩] sc pos) (tCompT wi g ts.length js tc te) := by
  have ck := compOkT_of hck
  intro pins s σ H Q I h
  have hfr : ∀ x, (x, NameKind.free) ∈ sc.names → ∃ c, X.env.cells.lookup x = some c := fun x hx => I.ok.has x (.inl (ck.fre _ hx rfl))
  obtain ⟨cl, hcl, cl1, cl2⟩ := clos_ok hfr
  rw [eval_ListComp]
  refine wpAny_comprehension_free (use := none) rfl hs hcl ck.kind ck.loc (thn (hi pins s σ H _ I h) fun v s1 h1 => thn h1 fun itv s2 h2 => ?_)
  obtain ⟨it, fp, tn, J, H2, e, I2, T, st2, f2, hR⟩ := h2
  subst e
  refine wpAny_newObj_type (wpAny_newFunctionEnv ck.ncell (by intro y hy; simp at hy) (fun h1 hns hsb => ?_) ck.kind)
  dsimp only at hns hsb ⊢
  generalize hp : s2.heap.push { cls := .type "list", dict := none, data := .seq ([] : List Value).toArray } = hh at hns hsb ⊢
  have hC : hh.objs.size = s2.heap.objs.size + 1 := by rw [← hp, Heap.size_push]
  have neD : ∀ {b : Addr}, b < s2.heap.objs.size → b ≠ s2.heap.objs.size := fun hb => Nat.ne_of_lt hb
  have neC : ∀ {b : Addr}, b < s2.heap.objs.size → b ≠ hh.objs.size := fun hb => by rw [hC]; exact Nat.ne_of_lt (Nat.lt_succ_of_lt hb)
  have hDC : s2.heap.objs.size ≠ hh.objs.size := by rw [hC]; exact Nat.ne_of_lt (Nat.lt_succ_self _)
  have hCle : s2.heap.objs.size ≤ hh.objs.size := by rw [hC]; exact Nat.le_succ _
  have old : ∀ b o, s2.heap.get? b = some o → h1.get? b = some o := fun b o e => hsb.extBut b o (neC (Heap.lt_size e)) (Heap.get?_push_of_some _ (hp ▸ Heap.get?_push_of_some _ e))
  have hnew : h1.get? s2.heap.objs.size = some { cls := .type "list", dict := none, data := .seq ([] : List Value).toArray } := hsb.extBut _ _ hDC (Heap.get?_push_of_some _ (hp ▸ Heap.get?_push_size _ rfl))
  have fpH : ∀ b ∈ fp, ∃ o, s2.heap.get? b = some o := fun b hb => let ⟨o, e, _⟩ := T.obj 0 _ st2 b hb; ⟨o, e⟩
  have fpD : ∀ b ∈ fp, b ≠ s2.heap.objs.size := fun b hb => by obtain ⟨o, e⟩ := fpH b hb; exact neD (Heap.lt_size e)
  have fpC : ∀ b ∈ fp, b ≠ hh.objs.size := fun b hb => by obtain ⟨o, e⟩ := fpH b hb; exact neC (Heap.lt_size e)
  have fpS : ∀ b ∈ fp, b ∉ frs X.stack := fun b hb z => (List.mem_cons.mp (I2.stkSub b z)).elim (f2 b hb).2.1 (f2 b hb).2.2.1
  have hok' : (X.comp sc cl hh.objs.size (ts ++ ys) s2 H2 fp).Ok := by
    refine ⟨I2.ok.mod, ck.kind, I2.ok.glob, I2.ok.blt, hCle, fun x y c a b => I2.ok.inj x y c (cl1 x c a) (cl1 y c b), fun x hx => ?_, (fun x c z => nomatch z), I2.ok.hd, I2.ok.frames, .inl rfl, fun b hb => ⟨fpC b hb, fun x c a => (f2 b hb).2.2.2.2.1 x c (cl1 x c a)⟩,
      I2.bs, Nat.le_trans I2.ok.bsz I2.sz, fun b o e hb => ?_, fun b hb => fpS b hb, I2.stack, I2.stkFree⟩
    · have hx' : (sc.names.map fun (n, k) => if (k == NameKind.free && X.env.scope.kind == .function && X.env.kindOf n == some .cell) then (n, NameKind.cell) else (n, k)).lookup x = some .cell ∨ (sc.names.map fun (n, k) => if (k == NameKind.free && X.env.scope.kind == .function && X.env.kindOf n == some .cell) then (n, NameKind.cell) else (n, k)).lookup x = some .free := hx
      rcases hx' with z | z
      · rcases relabel_inv z with q | ⟨_, q⟩
        · exact absurd rfl (ck.ncell _ (PySem.mem_of_lookup q))
        · exact cl2 x (PySem.mem_of_lookup q)
      · rcases relabel_inv z with q | ⟨q, _⟩
        · exact cl2 x (PySem.mem_of_lookup q)
        · cases q
    · rcases (f2 b hb).2.2.2.1 with z | z
      · exact I2.ok.noex b o e z
      · exact absurd (Nat.lt_of_lt_of_le (Heap.lt_size e) (Nat.le_trans I2.ok.bsz z)) (Nat.lt_irrefl _)
  have Iin : ∀ tk : Nat, Inv (X.comp sc cl hh.objs.size (ts ++ ys) s2 H2 fp) [] (List.replicate ts.length none ++ compS js σ) (upd H2 s2.heap.objs.size (.lst [])) { s2 with heap := h1, toks := tk } := fun tk => by
    refine ⟨hok', rfl, I2.bare, Un.laid old (Nat.le_refl _) I2.fresh, ⟨_, hns, fun i x v e1 e2 e3 => ?_⟩, fun x c e => ?_, ?_, fun x c e => ?_, fun p hp => absurd (show p ∈ ([] : List (Addr × Obj)) from hp) (by simp), I2.hok.laid old (Nat.le_refl _) ⟨Nat.zero_le _, [], 0, .nil, hnew⟩, ?_⟩
    · by_cases hik : i < ts.length
      · rw [List.getElem?_append_left (by rw [List.length_replicate]; exact hik), List.getElem?_replicate, if_pos hik] at e2
        cases e2
      · obtain ⟨k, rfl⟩ : ∃ k, i = ts.length + k := ⟨i - ts.length, by omega⟩
        have e1' : ys[k]? = some x := by
          have : (ts ++ ys)[ts.length + k]? = some x := e1
          rw [List.getElem?_append_right (by omega)] at this
          rw [← this]
          congr 1
          omega
        have e2' : (compS js σ)[k]? = some (some v) := by
          rw [List.getElem?_append_right (by rw [List.length_replicate]; omega), List.length_replicate] at e2
          rw [← e2]
          congr 1
          omega
        unfold compS at e2'
        rw [List.getElem?_map] at e2'
        have q := congrArg (fun l => l[k]?) ck.ysj
        simp only [List.getElem?_map, e1', Option.map_some] at q
        cases hj : js[k]? with
        | none => rw [hj] at q; cases q
        | some j =>
          rw [hj] at q e2'
          have q1 : X.N[j]? = some x := (Option.some.inj q).symm
          have q2 : σ[j]? = some (some v) := by
            have z : (σ[j]?).join = some v := Option.some.inj e2'
            cases hz : σ[j]? with
            | none => rw [hz] at z; cases z
            | some y => rw [hz] at z; exact congrArg some z
          have hf' := ck.ysf x (List.mem_of_getElem? e1')
          have hcell := ck.fre _ (PySem.mem_of_lookup hf') rfl
          obtain ⟨m2, hn2, hl2⟩ := I2.loc
          obtain ⟨u, ru, lk⟩ := hl2 j x v q1 q2 (.inr (.inl hcell))
          refine ⟨u, ru, ?_⟩
          rcases lk with ⟨kk, _⟩ | ⟨_, c, ec, ic⟩
          · have kk' : X.env.scope.names.lookup x = some .local := kk
            have hcell' : X.env.scope.names.lookup x = some .cell := hcell
            rw [hcell'] at kk'; cases kk'
          · obtain ⟨c', ec'⟩ := cl2 x (PySem.mem_of_lookup hf')
            have : c' = c := Option.some.inj ((cl1 x c' ec').symm.trans ec)
            subst this
            refine .inr ⟨relabel_free hf', c', ec', ?_⟩
            obtain ⟨o, ho, hd⟩ := ic
            exact ⟨o, old _ o ho, hd⟩
    · obtain ⟨v, o, ho, hd⟩ := I2.cell x c (cl1 x c e)
      exact ⟨v, o, old _ o ho, hd⟩
    · show upd H2 s2.heap.objs.size _ hh.objs.size = none
      rw [upd_ne (Ne.symm hDC)]
      exact I2.hok.fresh hCle
    · obtain ⟨v, o, ho, hd⟩ := I2.cell x c (cl1 x c e)
      rw [upd_ne (neD (Heap.lt_size ho))]
      exact I2.freeC x c (cl1 x c e)
    · show (List.replicate ts.length none ++ compS js σ).length = (ts ++ ys).length
      have q := congrArg List.length ck.ysj
      simp only [List.length_map] at q
      unfold compS
      simp only [List.length_append, List.length_replicate, List.length_map]
      omega
  have st1 : tn 0 h1 := T.keep _ _ _ st2 fun b hb o e => old b o e
  obtain ⟨W, ⟨m0, w0⟩, turn⟩ := hR s2.heap.objs.size I2.fresh
  have fpok : ∀ {H' : Hp}, (∀ b ∈ fp, H' b = none) → ∀ b ∈ fp, FpOk (X.comp sc cl hh.objs.size (ts ++ ys) s2 H2 fp) [] H' b := fun hn b hb =>
    ⟨hn b hb, fpC b hb, fpS b hb, .inl hb, fun x c a => (f2 b hb).2.2.2.2.1 x c (cl1 x c a), fun p hp => absurd (show p ∈ ([] : List (Addr × Obj)) from hp) (by simp)⟩
  have loop : ∀ s3 : Shared, s3 = { s2 with heap := h1, toks := s2.toks + ([] : List (Str × Value)).length } →
      codeAny (model X.prog X.w) X.A (.compLoop (.ListComp elt [⟨tg, iter, ifs, 0⟩] sc pos) 0 (.ref it) (.ref s2.heap.objs.size) (compEnvC sc cl hh.objs.size X.env))
        (compPost (model X.prog X.w) X.A X.xe none (EP X pins σ Q) (.ref s2.heap.objs.size) hh.objs.size) s3 := by
    rintro s3 rfl
    refine comp_turns (fun n s' => ∃ i acc H', Inv (X.comp sc cl hh.objs.size (ts ++ ys) s2 H2 fp) [] (List.replicate ts.length none ++ compS js σ) H' s' ∧ tn i s'.heap ∧ (∀ b ∈ fp, H' b = none) ∧ W i n acc H') ?_ m0
      ⟨0, [], _, Iin _, st1, fun b hb => by rw [upd_ne (fpD b hb)]; exact (f2 b hb).1, w0⟩
    rintro n s3 ⟨i, acc, H3, I3, st3, fr3, w3⟩
    obtain ⟨hD, hz, alt⟩ := turn i n acc H3 w3
    rcases alt with ⟨stop, q⟩ | ⟨go, step⟩
    · refine thn (T.done (X.comp sc cl hh.objs.size (ts ++ ys) s2 H2 fp) rfl rfl rfl hc i [] s3 _ H3 _ I3 (fpok fr3) st3 stop) fun r s4 ⟨hr, I4⟩ => ?_
      subst hr
      obtain ⟨m, hn, _⟩ := id I4.loc
      refine ⟨m, hn, fun h' sb => ⟨.ref s2.heap.objs.size, H3, ?_, rfl, q⟩⟩
      have ltC : ∀ b o, s2.heap.get? b = some o → b ≠ hh.objs.size := fun b o e => neC (Heap.lt_size e)
      have b4 : Un (frs X.stack) fp H2 H3 s2.heap s4.heap := I4.base
      refine I2.call' (s' := { s4 with heap := h' }) (ch := fp) I4.os ⟨fun b o e n1 n2 n3 => (sb.2 b (ltC b o e)).trans (b4.keep b o e n1 n2 n3), fun b o e n1 n2 n3 => ?_, b4.free, fun b o e n1 => ?_, b4.tups, b4.frzs, b4.tbls⟩ (fun b ob e => ?_) I4.bare
        (fun b hb => ⟨(f2 b hb).2.2.2.1, (f2 b hb).2.1, (f2 b hb).2.2.2.2.1, (f2 b hb).2.2.2.2.2⟩)
      · obtain ⟨sl, e1⟩ := b4.slot b o e n1 n2 n3
        exact ⟨sl, (sb.2 b (ltC b o e)).trans e1⟩
      · obtain ⟨o', e1⟩ := b4.there b o e n1
        exact ⟨o', (sb.2 b (ltC b o e)).trans e1⟩
      · have hfree : H3 hh.objs.size = none := I4.free
        refine (I4.hok b ob e).stay (fun c w' hc' q' => (sb.2 c ?_).trans q') (fun _ q' => q') fun _ _ q' => q'
        rintro rfl
        rcases hc' with rfl | hc'
        · rw [hfree] at e; cases e
        · rw [hfree] at hc'; cases hc'
    · refine thn (T.item (X.comp sc cl hh.objs.size (ts ++ ys) s2 H2 fp) rfl rfl rfl hc i [] s3 _ H3 _ I3 (fpok fr3) st3 go) fun r s4 ⟨u, hr, h4⟩ => ?_
      subst hr
      refine thn h4 fun _ s5 ⟨x, H5, I5, r5, y5, st5, fr5⟩ => ?_
      have I5' := I5.pinned (fpok fr5) (T.obj _ _ st5)
      refine thn (hg _ _ _ _ _ _ s5 _ H5 x _ _ I5' r5 (step x H5 y5)) fun _ s6 ⟨σ6, H6, I6, us, hul, hus, q6⟩ => ?_
      subst hus
      have again : ∀ {H7 : Hp} {s7 : Shared} {m' : Nat} {acc' : List V}, Inv (X.comp sc cl hh.objs.size (ts ++ ys) s2 H2 fp) ([] ++ pinsAt fp s5.heap) (us ++ compS js σ) H7 s7 → m' < n → W (i + 1) m' acc' H7 →
          ∃ m, m < n ∧ ∃ i acc H', Inv (X.comp sc cl hh.objs.size (ts ++ ys) s2 H2 fp) [] (List.replicate ts.length none ++ compS js σ) H' s7 ∧ tn i s7.heap ∧ (∀ b ∈ fp, H' b = none) ∧ W i m acc H' := fun {H7 s7 m' acc'} I7 hm w7 => by
        refine ⟨m', hm, i + 1, acc', H7, (I7.unpinned).weak (by rw [List.length_append, List.length_append, List.length_replicate, hul]) (fun k v e => ?_), T.keep _ _ _ st5 fun b hb o e => (I7.pin (b, o) (List.mem_append_right _ (List.mem_append_right _ (mem_pinsAt hb e)))).1, fun b hb => ?_, w7⟩
        · by_cases hk : k < ts.length
          · rw [List.getElem?_append_left (by rw [List.length_replicate]; exact hk), List.getElem?_replicate, if_pos hk] at e
            cases e
          · rw [List.getElem?_append_right (by rw [List.length_replicate]; omega), List.length_replicate] at e
            rw [List.getElem?_append_right (by omega), hul]
            exact e
        · obtain ⟨o, e, d⟩ := T.obj _ _ st5 b hb
          exact (I7.pin (b, o) (List.mem_append_right _ (List.mem_append_right _ (mem_pinsAt hb e)))).2.1
      refine thn (hf _ _ _ _ _ _ s6 _ H6 _ I6 q6) fun ok s7 ⟨H7, I7, q7⟩ => ?_
      cases ok with
      | false =>
        obtain ⟨m', hm, w7⟩ := q7
        exact again I7 hm w7
      | true =>
        refine thn (he _ _ _ _ _ _ s7 _ H7 _ I7 q7) fun uy s8 ⟨y, H8, I8, r8, hD8, m', hm, w8⟩ => ?_
        refine thn (mt_append (X := X.comp sc cl hh.objs.size (ts ++ ys) s2 H2 fp) _ s8 _ H8 (.ref s2.heap.objs.size) [y] (.ref s2.heap.objs.size) [uy] (fun _ H9 => W (i + 1) m' (acc ++ [y]) H9) I8 rfl (.cons r8 .nil) ⟨_, acc, y, rfl, rfl, hD8, hz, w8⟩) fun _ s9 ⟨_, H9, I9, _, q9⟩ => ?_
        exact again I9 hm q9
  exact codeAny_compStart_list (loop _ rfl) (T.self _ 0 _ _ _ st1 (loop _ rfl))
theorem qe_compT {X : Cx} {elt iter tg : Expr} {ifs : List Expr} {sc : Scope} {pos : Pos} {ts : List Str} {ys : List Str} {js : List Nat} {wi : TI} {g : TG} {tc : TT} {te : TE} (hc : X.calm = true) (hck : compChkT X.N X.env.scope sc ts ys js = true)
    (hi : QI X tg iter wi) (hg : ∀ cl C s H fp, QG (X.comp sc cl C (ts ++ ys) s H fp) tg g) (hf : ∀ cl C s H fp, QIf (X.comp sc cl C (ts ++ ys) s H fp) ifs tc) (he : ∀ cl C s H fp, QE (X.comp sc cl C (ts ++ ys) s H fp) elt te)
    (hs : ∀ x, foldedSetIterable iter X.env x = pure x := by intro _; rfl) : QE X (.ListComp elt [⟨tg, iter, ifs, 0⟩] sc pos) (tCompT wi g ts.length js tc te) :=
  ⟨pe_compT hc hck hi.h (fun cl C s H fp => (hg cl C s H fp).h) (fun cl C s H fp => (hf cl C s H fp).h) (fun cl C s H fp => (he cl C s H fp).h) hs⟩
section
variable {K : PySem.W.Frag} {a : Addr} {xs ys : List V} {js : List Nat} {g : TG} {n : Nat} {te : TE} {σ : St} {Q : VK} {D : Addr} {H1 : Hp}
theorem compT_lst (hz : xs.length < sizeLine) (hlen : ys.length = xs.length) (ha : SqL K H1 a xs) (hD : H1 D = none)
    (he : ∀ (i : Nat) (x y : V) (H : Hp), xs[i]? = some x → ys[i]? = some y → Same H1 H → ∀ Q' : VK, (∀ H', Same H H' → Q' y H') → g x (List.replicate n none ++ compS js σ) H fun σ6 H6 => ∃ us : List (Option V), us.length = n ∧ σ6 = us ++ compS js σ ∧ te σ6 H6 Q')
    (hq : ∀ H', Same H1 H' → H' D = some (.lst ys) → Q (.ref D) H') : CompWT (Itl K a) g n js tYes te σ Q D H1 := by
  refine ⟨fun i m acc H => m = xs.length - i ∧ i ≤ xs.length ∧ acc = ys.take i ∧ Same H1 H ∧ H D = some (.lst acc), ⟨xs.length, by simp, Nat.zero_le _, rfl, same_new hD _, upd_same⟩, ?_⟩
  rintro i m acc H ⟨hm, hi, e, s, d⟩
  refine ⟨d, by rw [e, List.length_take]; omega, ?_⟩
  by_cases hlt : i < xs.length
  · refine .inr ⟨?_, fun x H' y => ?_⟩
    · obtain ⟨x, hx⟩ := some_of_lt hlt
      exact ⟨xs, x, Same.seq s ha, hx⟩
    · obtain ⟨rfl, hx⟩ := y
      have hx' := hx xs (Same.seq s ha)
      obtain ⟨y, hy⟩ := some_of_lt (xs := ys) (i := i) (by omega)
      refine he i x y H' hx' hy s _ fun H4 s4 => ⟨s4 _ _ d, xs.length - (i + 1), by omega, rfl, hlt, by rw [e, take_snoc hy], same_upd hD (s.trans s4), upd_same⟩
  · refine .inl ⟨⟨xs, Same.seq s ha, by omega⟩, hq H s ?_⟩
    rw [d, e, List.take_of_length_le (by omega)]
end
end L2
set_option Elab.async false
set_option linter.all false
set_option maxRecDepth 100000
set_option maxHeartbeats 4000000
namespace L2
open PySem PySem.Spec PyProof.Rows
theorem lri_nolen : typeLookup (.type "list_reverseiterator") "__len__" = pure none := by rw [typeLookup_type, builtinLookup_eq_fast]; kernel_rfl
theorem lri_hint : typeLookup (.type "list_reverseiterator") "__length_hint__" = pure (some (.builtin "list_reverseiterator.__length_hint__")) := by rw [typeLookup_type, builtinLookup_eq_fast]; kernel_rfl
section
variable {prog : Program} {w : World} {A : Around} {E : Value → Shared → Prop} {s : Shared}
end
section
variable {X : Cx} {e : Expr} {te : TE} {p1 p2 q1 q2 : Pos}
theorem rev_items {vs : List Value} {acc : Array Value} (h : ItemsOf (fun i v => vs.toArray[vs.toArray.size - 1 - i]? = some v) acc vs.toArray.size) : acc.toList = vs.reverse := by
  obtain ⟨h1, h2⟩ := h
  have hz : vs.toArray.size = vs.length := by simp
  rw [hz] at h1 h2
  refine List.ext_getElem? fun i => ?_
  by_cases hi : i < vs.length
  · have e : acc.toList[i]? = some (acc[i]'(by omega)) := by simp [h1, hi]
    have e2 := h2 i (acc[i]'(by omega)) (by simp [h1, hi])
    rw [e, List.getElem?_reverse hi, ← e2]
    simp
  · rw [List.getElem?_eq_none (by simp [h1]; omega), List.getElem?_eq_none (by simp; omega)]
end
end L2
set_option Elab.async false
set_option linter.all false
set_option maxRecDepth 100000
set_option maxHeartbeats 4000000
namespace TM
open PySem L2
def SameT (H H' : Hp) : Prop := ∀ b xs, H b = some (.tup xs) → H' b = some (.tup xs)
theorem sameT {H H' : Hp} (e : Same H H') : SameT H H' := fun b xs h => e b _ h
theorem SameT.trans {H H1 H2 : Hp} (a : SameT H H1) (b : SameT H1 H2) : SameT H H2 := fun c xs h => b c xs (a c xs h)
theorem sameT_lst {H : Hp} {r : Addr} {xs ys : List V} (h : H r = some (.lst xs)) : SameT H (upd H r (.lst ys)) := fun b zs q => by
  rw [upd_ne (ne_of q h (fun z => nomatch z))]
  exact q
end TM
set_option Elab.async false
set_option linter.all false
set_option maxRecDepth 100000
set_option maxHeartbeats 4000000
namespace L2
open PySem PySem.Spec PyProof.Rows
section
variable {X : Cx} {o e value a : Expr} {f : Str} {pos pos' tpos : Pos} {ta tv : TE}
theorem qe_fld (he : QE X e ta) (hb : attributeBase e f X.env (eval e X.env) = eval e X.env) : QE X (.Attribute e f pos) (tFld X.K ta f) := ⟨pe_fld he.h hb⟩
theorem qs_fld (ha : QE X o ta) (hv : QE X value tv) (hs : swapsWith value (some (.Attribute o f pos')) pos.line X.env = pure false) : QS X (.Assign [.Attribute o f pos'] value pos) (sFld X.K ta tv f) := ⟨ps_fld ha.h hv.h hs⟩
end
section
variable {X : Cx} {CX : CXT} {k : Nat} {f C : Addr} {fd : FuncData} {ps : List Str} {sp : Sp} {ds : List Value} {dvs : List V} {E : XK} {x m : Str} {p pos apos : Pos} {e o : Expr} {es : List Expr} {ta : TE} {t : TA}
theorem qe_meth {pl : Sem Bool} (he : QE X o ta) (c : Cls X.K C) (hm : Meth X.K C m f) (F : FnOk X.prog X.w X.K X.mg X.base CX k f fd ps sp) (hr : Room k X.A) (hb : Binds X.K fd ps ds) (hd : Vals dvs ds) (hx : Passes CX X E) (ha : QA X (e :: es) t)
    (hst : starEach (e :: es) X.env = (false, eval e X.env) :: starEach es X.env := by rfl) (hpl : (backTo pos (starEach es X.env)).any (·.1) = false := by rfl)
    (ht : eval (.Call (.Attribute o m apos) (e :: es) [] pos) X.env = (do
      let ov ← eval o X.env
      standAt apos.atName
      let (f, first) ← holding [ov] (getMethod ov m pl)
      callWith pos f first (backTo pos (starEach (e :: es) X.env)) (backToKw pos (keywordEach [] X.env))) := by rfl) :
    QE X (.Call (.Attribute o m apos) (e :: es) [] pos) (tMeth C m sp dvs E ta t) := ⟨pe_meth he.h c hm F hr hb hd hx ha.h hst hpl ht⟩
theorem qe_meth0 {pl : Sem Bool} (he : QE X o ta) (c : Cls X.K C) (hm : Meth X.K C m f) (F : FnOk X.prog X.w X.K X.mg X.base CX k f fd ps sp) (hr : Room k X.A) (hb : Binds X.K fd ps ds) (hd : Vals dvs ds) (hx : Passes CX X E)
    (ht : eval (.Call (.Attribute o m apos) [] [] pos) X.env = (do
      let ov ← eval o X.env
      standAt apos.atName
      let (f, first) ← holding [ov] (getMethod ov m pl)
      callWith pos f first (backTo pos (starEach [] X.env)) (backToKw pos (keywordEach [] X.env))) := by rfl) :
    QE X (.Call (.Attribute o m apos) [] [] pos) (tMeth C m sp dvs E ta tNil) := ⟨pe_meth0 he.h c hm F hr hb hd hx ht⟩
theorem qe_make0 (M : Mk X.K C f) (F : FnOk X.prog X.w X.K X.mg X.base CX k f fd ps sp) (hr : Room (k + 1) X.A) (hg : Gl X x) (hm : X.mg x = some (.ref C)) (hb : Binds X.K fd ps ds) (hd : Vals dvs ds) (hx : Passes CX X E)
    (hdb : (x == ("__debug__" : Str)) = false := by decide) : QE X (.Call (.Name x p) [] [] pos) (tMake C sp dvs E tNil) := ⟨pe_make0 M F hr hg hm hb hd hx hdb⟩
theorem call_int_txt : CallR X (.type "int") (fun xs H Q => ∃ z n, xs = [.str z] ∧ PySem.intText? z = some n ∧ z.length ≤ 640 ∧ Q (.int n) H) := by
  intro pins s σ H vs us Q I r q
  obtain ⟨z, n, rfl, hn, hl, q⟩ := q
  cases r with
  | cons r rr =>
    cases rr
    obtain ⟨t, rfl⟩ := r
    exact PySem.W.KIN.call_text hn hl ⟨.int n, H, I.tok _, ⟨_, rfl⟩, q⟩
end
open PySem.W PySem.W.KIN PySem.NumText in
theorem num_reads' {n : Int} (h0 : 0 ≤ n) (hl : (PySem.Str.ofString (toString n)).length ≤ 640) : PySem.intText? (PySem.Str.ofString (toString n)) = some n := by
  obtain ⟨m, rfl⟩ := Int.eq_ofNat_of_zero_le h0
  have e1 := signs_num m
  have hne : (Nat.toDigits 10 m) ≠ [] := fun z => by
    have h := toDigits_len_ge 10 m
    rw [z] at h
    exact absurd h (by decide)
  have e := intText_digits (x := PySem.Str.ofString (toString ((m : Nat) : Int))) (fun c hc => by
    rw [e1] at hc
    obtain ⟨ch, hch, q⟩ := List.mem_map.mp hc
    rw [← q]
    exact digit_range (Nat.isDigit_of_mem_toDigits (by decide) (by decide) hch)) (by rw [e1]; exact fun z => hne (List.map_eq_nil_iff.mp z)) (Nat.le_trans hl (by decide))
  rw [e1, val_back] at e
  exact e
end L2
set_option Elab.async false
set_option linter.all false
set_option maxRecDepth 100000
set_option maxHeartbeats 4000000
namespace TM
open PySem L2
open PySem.W PySem.W.KIN PySem.NumText in
theorem dig_range {ch : Char} {m : Nat} (h : ch ∈ Nat.toDigits 10 m) : 48 ≤ ch.toNat ∧ ch.toNat ≤ 57 := PyProof.Rows.digit_range (Nat.isDigit_of_mem_toDigits (by decide) (by decide) h)
open PySem.W PySem.W.KIN PySem.NumText in
theorem digs_ge (m : Nat) : 1 ≤ (Nat.toDigits 10 m).length := toDigits_len_ge 10 m
theorem app_list (a b : Str) : (a ++ b).cps.toList = a.cps.toList ++ b.cps.toList := by
  show (a.cps ++ b.cps).toList = _
  simp
theorem len_list (a : Str) : a.length = a.cps.toList.length := by simp [Str.length]
def mkS (l : List Nat) : Str := ⟨l.toArray⟩
theorem mk_list (l : List Nat) : (mkS l).cps.toList = l := by simp [mkS]
theorem str_ext {a b : Str} (h : a.cps.toList = b.cps.toList) : a = b := by
  cases a with | mk x => cases b with | mk y => exact congrArg Str.mk (Array.toList_inj.mp h)
theorem mk_eq {l : List Nat} {x : Str} (h : x.cps.toList = l) : x = mkS l := str_ext (by rw [h, mk_list])
def letOk (c : Nat) : Bool := decide (97 ≤ c) && decide (c ≤ 122)
def figOk (c : Nat) : Bool := decide (48 ≤ c) && decide (c ≤ 57)
def sgnOk (c : Nat) : Bool := letOk c || figOk c
theorem num_list (m : Nat) : (Str.ofString (toString ((m : Nat) : Int))).cps.toList = (Nat.toDigits 10 m).map Char.toNat := PySem.W.KIN.signs_num m
theorem num_figs {n : Int} (h : 0 ≤ n) : ∀ c ∈ (Str.ofString (toString n)).cps.toList, figOk c = true := by
  obtain ⟨m, rfl⟩ := Int.eq_ofNat_of_zero_le h
  intro c hc
  rw [num_list] at hc
  obtain ⟨ch, hch, e⟩ := List.mem_map.mp hc
  have r := dig_range hch
  unfold figOk
  rw [Bool.and_eq_true, decide_eq_true_eq, decide_eq_true_eq, ← e]
  exact r
theorem digs_len : ∀ (k m : Nat), m < 10 ^ (k + 1) → (Nat.toDigits 10 m).length ≤ k + 1 := by
  intro k
  induction k with
  | zero =>
    intro m h
    rw [Nat.toDigits_of_lt_base (by simpa using h)]
    exact Nat.le_refl _
  | succ k ih =>
    intro m h
    by_cases h10 : m < 10
    · rw [Nat.toDigits_of_lt_base h10]
      simp
    · have hm : m % 10 < 10 := Nat.mod_lt m (by decide)
      have t : Nat.toDigits 10 (m / 10) ++ Nat.toDigits 10 (m % 10) = Nat.toDigits 10 (10 * (m / 10) + m % 10) := Nat.toDigits_append_toDigits (by decide) (by omega) hm
      rw [Nat.div_add_mod] at t
      rw [← t, List.length_append, Nat.toDigits_of_lt_base hm]
      have := ih (m / 10) (by rw [Nat.pow_succ] at h; omega)
      simp only [List.length_cons, List.length_nil]
      omega
theorem digs_ne (m : Nat) : Nat.toDigits 10 m ≠ [] := fun z => by
  have h := digs_ge m
  rw [z] at h
  exact absurd h (by decide)
theorem num_len {n : Int} (h0 : 0 ≤ n) (h1 : n < 1000000000000000000) : (Str.ofString (toString n)).cps.toList ≠ [] ∧ (Str.ofString (toString n)).cps.toList.length ≤ 18 := by
  obtain ⟨m, rfl⟩ := Int.eq_ofNat_of_zero_le h0
  rw [num_list]
  refine ⟨fun z => digs_ne m (List.map_eq_nil_iff.mp z), ?_⟩
  rw [List.length_map]
  exact digs_len 17 m (by omega)
theorem head_app {α : Type} {a b : List α} (h : a ≠ []) : (a ++ b).head? = a.head? := by
  cases a with
  | nil => exact absurd rfl h
  | cons x r => rfl
theorem digs_head : ∀ (m : Nat), 0 < m → (Nat.toDigits 10 m).head? ≠ some '0' := by
  intro m
  induction m using Nat.strongRecOn with
  | _ m ih =>
    intro hp
    by_cases h10 : m < 10
    · rw [Nat.toDigits_of_lt_base h10]
      have : m = 1 ∨ m = 2 ∨ m = 3 ∨ m = 4 ∨ m = 5 ∨ m = 6 ∨ m = 7 ∨ m = 8 ∨ m = 9 := by omega
      rcases this with rfl | rfl | rfl | rfl | rfl | rfl | rfl | rfl | rfl <;> decide
    · have hm : m % 10 < 10 := Nat.mod_lt m (by decide)
      have t : Nat.toDigits 10 (m / 10) ++ Nat.toDigits 10 (m % 10) = Nat.toDigits 10 (10 * (m / 10) + m % 10) := Nat.toDigits_append_toDigits (by decide) (by omega) hm
      rw [Nat.div_add_mod] at t
      rw [← t, head_app (digs_ne _)]
      exact ih (m / 10) (by omega) (by omega)
theorem num_head {n : Int} (h0 : 0 ≤ n) (h : (Str.ofString (toString n)).cps.toList.head? = some 48) : n = 0 := by
  obtain ⟨m, rfl⟩ := Int.eq_ofNat_of_zero_le h0
  rw [num_list, List.head?_map] at h
  by_cases hp : 0 < m
  · exfalso
    cases e : (Nat.toDigits 10 m).head? with
    | none => rw [e] at h; cases h
    | some ch =>
      rw [e] at h
      have h2 : ch.toNat = 48 := Option.some.inj h
      have h3 : ch = '0' := Char.toNat_inj.mp (by rw [h2]; rfl)
      exact digs_head m hp (by rw [e, h3])
  · omega
end TM
set_option Elab.async false
set_option linter.all false
set_option maxRecDepth 100000
set_option maxHeartbeats 4000000
namespace TM
open PySem L2
open PySem.Builtin.Str (strSub occurrences partsBetween)
theorem cut_uniq {c : Nat} : ∀ {a a' b b' : List Nat}, c ∉ a → c ∉ a' → a ++ c :: b = a' ++ c :: b' → a = a' ∧ b = b'
  | [], [], b, b', _, _, h => ⟨rfl, by simpa using h⟩
  | [], x :: a', b, b', _, h2, h => by
    simp only [List.nil_append, List.cons_append, List.cons.injEq] at h
    exact absurd (by rw [h.1]; simp) h2
  | x :: a, [], b, b', h1, _, h => by
    simp only [List.nil_append, List.cons_append, List.cons.injEq] at h
    exact absurd (by rw [h.1]; simp) h1
  | x :: a, y :: a', b, b', h1, h2, h => by
    simp only [List.cons_append, List.cons.injEq] at h
    obtain ⟨e1, e2⟩ := cut_uniq (fun z => h1 (by simp [z])) (fun z => h2 (by simp [z])) h.2
    exact ⟨by rw [h.1, e1], e2⟩
theorem part_at {c : Nat} {a b : Str} (hf : c ∉ a.cps.toList) : Txt.partition (a ++ ⟨#[c]⟩ ++ b) ⟨#[c]⟩ = (a, ⟨#[c]⟩, b) := by
  have hs := StrLaws.partition_sum (a ++ ⟨#[c]⟩ ++ b) ⟨#[c]⟩
  have hm : c ∈ (a ++ ⟨#[c]⟩ ++ b).cps.toList := by rw [app_list, app_list]; simp
  have hfo := StrLaws.found_one (a ++ ⟨#[c]⟩ ++ b) c
  have hl := congrArg (fun s : Str => s.cps.toList) hs
  have h2 : (Txt.partition (a ++ ⟨#[c]⟩ ++ b) ⟨#[c]⟩).2.1 = ⟨#[c]⟩ := by
    unfold Txt.partition
    cases e : occurrences (a ++ ⟨#[c]⟩ ++ b) ⟨#[c]⟩ 0 (a ++ ⟨#[c]⟩ ++ b).length 1 with
    | nil => rw [e, decide_eq_true hm] at hfo; exact absurd hfo (by decide)
    | cons i r => rfl
  have h1 : c ∉ (Txt.partition (a ++ ⟨#[c]⟩ ++ b) ⟨#[c]⟩).1.cps.toList := by
    rcases PyProof.Rows.partition_head (a ++ ⟨#[c]⟩ ++ b) ⟨#[c]⟩ with ⟨_, h⟩ | ⟨i, e, hi, h⟩
    · obtain ⟨i, hi⟩ := List.getElem?_of_mem hm
      exact absurd ((StrLaws.subAt_one _ c i).mpr hi) (h i)
    · rw [e]
      exact StrLaws.part_free _ c 0 i (by have := hi.1; omega) fun k _ hk => h k hk
  simp only [app_list, h2] at hl
  rw [List.append_assoc, List.append_assoc] at hl
  obtain ⟨e1, e2⟩ := cut_uniq h1 hf (b := (Txt.partition (a ++ ⟨#[c]⟩ ++ b) ⟨#[c]⟩).2.2.cps.toList) (b' := b.cps.toList) (by simpa using hl)
  exact Prod.ext (str_ext e1) (Prod.ext h2 (str_ext e2))
end TM
set_option Elab.async false
set_option linter.all false
set_option maxRecDepth 100000
set_option maxHeartbeats 4000000
namespace L2
open PySem PySem.Spec PyProof.Rows
open PySem.Builtin.Str (strSub occurrences)
section
variable {X : Cx}
def rPart : V → List V → Hp → VK → Prop := fun x xs H Q => ∃ z y, x = .str z ∧ xs = [.str y] ∧ (y.length == 0) = false ∧ z.length ≤ sizeLine ∧
  ∀ l, H l = none → Q (.ref l) (upd H l (.tup [.str (Txt.partition z y).1, .str (Txt.partition z y).2.1, .str (Txt.partition z y).2.2]))
theorem mt_partition : MtR X "str.partition" rPart := by
  intro pins s σ H x vs v us Q I rx rv h
  obtain ⟨z, y, rfl, rfl, hy, hz, q⟩ := h
  obtain ⟨t, rfl⟩ := rx
  obtain ⟨u', rfl, ru⟩ := rv.one
  obtain ⟨u, rfl⟩ := ru
  have fin : ∀ (a b c : Str) (ta tb tc : Tok) (tk : Nat), Txt.partition z y = (a, b, c) → EP X pins σ Q (.ref s.heap.objs.size) { s with toks := tk, heap := s.heap.push { cls := .type "tuple", data := .seq [Value.str a ta, .str b tb, .str c tc].toArray } } := fun a b c ta tb tc tk e => by
    rw [e] at q
    exact ⟨.ref _, _, I.laid (t' := tk) (fun b o e => Heap.get?_push_of_some _ e) (Nat.le_refl _) (show ObjOk X.prog X.w _ _ _ (.tup [.str a, .str b, .str c]) from ⟨(by show 3 ≤ sizeLine; decide), _, .cons ⟨ta, rfl⟩ (.cons ⟨tb, rfl⟩ (.cons ⟨tc, rfl⟩ .nil)), IsTup.new _ _⟩), rfl, q _ I.fresh⟩
  refine call_meets F.slot_str_partition (typeIs_str _ _ _) F.entry_str_partition (F.args_str_partition_2 _ _) (meets_str_partition z y t u hy hz) ?_
  cases e : occurrences z y 0 z.length 1 with
  | nil => exact fin _ _ _ _ _ _ _ (by unfold Txt.partition; rw [e])
  | cons i r => exact fin _ _ _ _ _ _ _ (by unfold Txt.partition; rw [e])
def rInsert : V → List V → Hp → VK → Prop := fun x vs H Q => ∃ l xs k y, x = .ref l ∧ vs = [.int k, y] ∧ H l = some (.lst xs) ∧ 0 ≤ k ∧ k ≤ xs.length ∧ xs.length < sizeLine ∧ Q .non (upd H l (.lst (xs.take k.toNat ++ y :: xs.drop k.toNat)))
theorem mt_insert : MtM X "list.insert" rInsert := by
  intro pins s σ H x vs v us Q I rx rv h
  obtain ⟨l, xs, k, y, rfl, rfl, hH, h0, hk, hz, q⟩ := h
  cases rx
  cases rv with
  | cons rk rr =>
    obtain ⟨t, rfl⟩ := rk
    obtain ⟨u, rfl, ru⟩ := Vals.one rr
    obtain ⟨z, its, n, r, hl, e⟩ := I.lstM hH
    have hlen := r.length
    have hfit : ¬ (!Builtin.List.listFitsIndex k) = true := by
      have hs : (sizeLine : Int) < 2 ^ 63 := by decide
      have := fitsIndex_both (k := k) (by omega) (by omega)
      rw [this]
      decide
    refine call_meets F.slot_list_insert ⟨_, e, rfl⟩ F.entry_list_insert (F.args_list_insert_3 _ _ _) (AutoListH.list_insert_list_int_val_1 l its.toArray n k t u hfit (by rw [List.size_toArray]; omega)) ⟨e, ?_⟩
    refine ⟨.non, _, I.lset (its' := its.take k.toNat ++ u :: its.drop k.toNat) hH e ?_ (Vals.append (r.take _) (.cons ru (r.drop _))) ?_, rfl, q⟩
    · show (its.toArray.extract 0 (if k < 0 then (k + ((its.toArray.size : Nat) : Int)).toNat else min k.toNat its.toArray.size)).push u ++ its.toArray.extract (if k < 0 then (k + ((its.toArray.size : Nat) : Int)).toNat else min k.toNat its.toArray.size) = _
      rw [if_neg (by omega)]
      have em : min k.toNat its.toArray.size = k.toNat := by rw [List.size_toArray]; omega
      rw [em]
      apply Array.toList_inj.mp
      simp
      rw [List.take_of_length_le (by simp)]
    · rw [List.length_append, List.length_cons, List.length_take, List.length_drop]
      omega
end
section
variable {X : Cx} {tg : Expr}
end
theorem qg_tupC {X : Cx} {pos : Pos} {es : List Expr} {k : Nat} {t : TGs} {n : Nat} {K : PySem.W.Frag} (hK : X.K = K) (hc : X.calm = true) (h : QGs X es t) (hn : (assignEach es X.env).length = n := by rfl) (hst : (assignEach es X.env).findIdx? (·.1) = none := by rfl) : QG X (.Tuple es k pos) (gTup K n t) := by
  subst hK
  exact qg_tup hc h hn hst
theorem qe_bmC {X : L2.Cx} {K : PySem.W.Frag} {o : PySem.Expr} {e : PySem.Expr} {es : List PySem.Expr} {to : L2.TE} {t : L2.TA} {name : PySem.Str} {apos : PySem.Pos} {cpos : PySem.Pos} {T : String} {id : String} {r : L2.V → List L2.V → L2.Hp → L2.VK → Prop} (hK : X.K = K) (pa : PySem.PlainAttrs T) (slot : PySem.Slot T name id) (hty : PySem.typeOf (PySem.Value.builtin id) = Pure.pure (PySem.Value.type "method_descriptor")) (hm : L2.MtR X id r) (ho : QE X o to) (ha : QA X (e :: es) t) (hbase : PySem.attributeBase o name (L2.Cx.env X) (PySem.eval o (L2.Cx.env X)) = PySem.eval o (L2.Cx.env X) := by rfl) (hfew : (((List.all (PySem.backTo cpos (PySem.starEach (e :: es) (L2.Cx.env X))) fun (x : Bool × PySem.Sem PySem.Value) => !Prod.fst x) && List.all (PySem.backToKw cpos (PySem.keywordEach [] (L2.Cx.env X))) fun (x : Option PySem.Str × PySem.Sem PySem.Value) => Option.isSome (Prod.fst x)) && Decidable.decide ((List.length (e :: es) + List.length ([] : List PySem.Keyword) + if List.isEmpty ([] : List PySem.Keyword) = Bool.true then 0 else 1) < 30)) = Bool.true := by rfl) (hline : (PySem.Pos.endLine apos == PySem.Pos.line cpos) = Bool.true := by rfl) (hs : PySem.starEach (e :: es) (L2.Cx.env X) = (Bool.false, PySem.eval e (L2.Cx.env X)) :: PySem.starEach es (L2.Cx.env X) := by rfl) (hplain : (List.any (PySem.backTo cpos (PySem.starEach es (L2.Cx.env X))) fun (x : Bool × PySem.Sem PySem.Value) => Prod.fst x) = Bool.false := by rfl) : QE X (PySem.Expr.Call (PySem.Expr.Attribute o name apos) (e :: es) [] cpos) (L2.tBM K T r to t) := by
  subst hK
  exact qe_bm pa slot hty hm ho ha hbase hfew hline hs hplain
end L2
set_option Elab.async false
set_option linter.all false
set_option maxRecDepth 100000
set_option maxHeartbeats 4000000
namespace TM
open PySem L2
inductive L2R {α : Type} (R : α → V → Prop) : List α → List V → Prop
  | nil : L2R R [] []
  | cons {a : α} {v : V} {as : List α} {vs : List V} : R a v → L2R R as vs → L2R R (a :: as) (v :: vs)
namespace L2R
variable {α : Type} {R R' : α → V → Prop}
theorem imp (h : ∀ a v, R a v → R' a v) : ∀ {as : List α} {vs : List V}, L2R R as vs → L2R R' as vs
  | _, _, .nil => .nil
  | _, _, .cons x y => .cons (h _ _ x) (imp h y)
theorem len : ∀ {as : List α} {vs : List V}, L2R R as vs → vs.length = as.length
  | _, _, .nil => rfl
  | _, _, .cons _ y => by rw [List.length_cons, List.length_cons, len y]
theorem get : ∀ {as : List α} {vs : List V} {i : Nat} {v : V}, L2R R as vs → vs[i]? = some v → ∃ a, as[i]? = some a ∧ R a v
  | _, _, i, v, .nil, e => by simp at e
  | _, _, 0, v, .cons (a := a) x y, e => by
    simp at e
    subst e
    exact ⟨a, rfl, x⟩
  | _, _, i + 1, v, .cons x y, e => by
    obtain ⟨b, hb, r⟩ := get (i := i) y (by simpa using e)
    exact ⟨b, by simpa using hb, r⟩
theorem app : ∀ {as bs : List α} {vs us : List V}, L2R R as vs → L2R R bs us → L2R R (as ++ bs) (vs ++ us)
  | _, _, _, _, .nil, g => g
  | _, _, _, _, .cons x y, g => .cons x (app y g)
theorem one {a : α} {v : V} (h : R a v) : L2R R [a] [v] := .cons h .nil
theorem snoc {as : List α} {vs : List V} {a : α} {v : V} (h : L2R R as vs) (g : R a v) : L2R R (as ++ [a]) (vs ++ [v]) := h.app (one g)
theorem nil_of {vs : List V} (h : L2R R [] vs) : vs = [] := by cases h; rfl
theorem inv_cons {a : α} {as : List α} {vs : List V} (h : L2R R (a :: as) vs) : ∃ v r, vs = v :: r ∧ R a v ∧ L2R R as r := by
  cases h with
  | cons x y => exact ⟨_, _, rfl, x, y⟩
end L2R
section
variable {H H' : Hp}
end
def NmOk (z : Str) : Prop := z.cps.toList ≠ [] ∧ z.cps.toList.length ≤ 8 ∧ ∀ c ∈ z.cps.toList, letOk c = true
def tl (c : Nat) (zs : List Str) : List Nat := (zs.map fun z => c :: z.cps.toList).flatten
theorem tl_cons (c : Nat) (a : Str) (b : List Str) : tl c (a :: b) = c :: a.cps.toList ++ tl c b := rfl
theorem glueC (c : Nat) : ∀ (zs : List Str) (acc : Array Nat), (zs.foldl (fun acc p => acc ++ (⟨#[c]⟩ : Str).cps ++ p.cps) acc).toList = acc.toList ++ tl c zs
  | [], acc => by simp [tl]
  | p :: zs, acc => by
    rw [List.foldl_cons, glueC c zs, tl_cons]
    simp
theorem joinC (c : Nat) (z : Str) (zs : List Str) : (Txt.join ⟨#[c]⟩ (z :: zs)).cps.toList = z.cps.toList ++ tl c zs := glueC c zs z.cps
theorem blank : (Str.ofString " ") = ⟨#[32]⟩ := by decide
theorem colon : (Str.ofString ":") = ⟨#[58]⟩ := by decide
end TM
set_option Elab.async false
set_option linter.all false
set_option maxRecDepth 100000
set_option maxHeartbeats 4000000
namespace L2
open PySem PySem.Spec PyProof.Rows TM
theorem take_snocA {α : Type} {xs : List α} {i : Nat} {x : α} (h : xs[i]? = some x) : xs.take (i + 1) = xs.take i ++ [x] := by
  rw [List.take_succ, h]
  rfl
section
variable {K : PySem.W.Frag} {a : Addr} {xs : List V} {js : List Nat} {g : TG} {n : Nat} {te : TE} {σ : St} {Q : VK} {D : Addr} {H1 : Hp} {α : Type} {R : Hp → α → V → Prop} {as : List α}
end
end L2
set_option Elab.async false
set_option linter.all false
set_option maxRecDepth 100000
set_option maxHeartbeats 4000000
namespace L2
open PySem PySem.Spec PyProof.Rows
end L2
set_option Elab.async false
set_option linter.all false
set_option maxRecDepth 100000
set_option maxHeartbeats 4000000
namespace L2
open PySem PySem.Spec PyProof.Rows
section
variable {prog : Program} {w : World} {A : Around} {E : Value → Shared → Prop} {s : Shared}
end
end L2
set_option Elab.async false
set_option linter.all false
set_option maxRecDepth 100000
set_option maxHeartbeats 4000000
namespace L2
open PySem PySem.Spec PyProof.Rows
section
variable {prog : Program} {w : World} {A : Around} {E : Value → Shared → Prop} {s : Shared}
end
section
variable {X : Cx} {e : Expr} {te : TE} {p1 p2 q1 q2 : Pos}
end
end L2
set_option Elab.async false
set_option linter.all false
set_option maxRecDepth 100000
set_option maxHeartbeats 4000000
namespace L2
open PySem PySem.Spec PyProof.Rows
section
variable {X : Cx} {elts : List Expr} {k : Nat} {tpos : Pos}
end
end L2
set_option Elab.async false
set_option linter.all false
set_option maxRecDepth 100000
set_option maxHeartbeats 4000000
namespace L2
open PySem PySem.Spec PyProof.Rows
section
variable {X : Cx}
theorem qe_dget {o i : Expr} {pos : Pos} {td ty : TE} (hu : X.A.units + 1 < cLine) (ho : QE X o td) (hi : QE X i ty) (hs : NoSl i := by intro _ _; rfl) : QE X (.Subscript o i pos) (tDGet td ty) := ⟨pe_dget hu ho.h hi.h hs⟩
theorem qs_dput {o i value : Expr} {pos pos' : Pos} {td ty tv : TE} (hu : X.A.units + 1 < cLine) (ho : QE X o td) (hi : QE X i ty) (hv : QE X value tv) (hs : swapsWith value (some (.Subscript o i pos')) pos.line X.env = pure false := by rfl) : QS X (.Assign [.Subscript o i pos'] value pos) (sDPut td ty tv) := ⟨ps_dput hu ho.h hi.h hv.h hs⟩
end
end L2
set_option Elab.async false
set_option linter.all false
set_option maxRecDepth 100000
set_option maxHeartbeats 4000000
namespace L2
open PySem PySem.Spec PyProof.Rows
section
variable {X : Cx}
theorem all_nilT (us : List Value) (f : Nat → Bool) : ((List.range (min us.toArray.size ([] : List Value).toArray.size)).all f && us.toArray.size == ([] : List Value).toArray.size) = decide (us = []) := by
  cases us with
  | nil => rfl
  | cons x xs =>
    have : min (x :: xs).toArray.size ([] : List Value).toArray.size = 0 := by simp
    rw [this]
    rfl
theorem op_eqNilT (hu : X.A.units + 64 < cLine) : OpR X (compareOp .Eq) (fun x y H Q => ∃ a b xs, x = .ref a ∧ y = .ref b ∧ SqT X.K H a xs ∧ SqT X.K H b [] ∧ Q (.bl (decide (xs = []))) H) := by
  intro pins s σ H x y v u Q I rx ry h
  obtain ⟨a, b, xs, rfl, rfl, ha, hb, q⟩ := h
  cases rx
  cases ry
  obtain ⟨us, r1, p1, _⟩ := I.tuple ha
  obtain ⟨ws, r2, p2, _⟩ := I.tuple hb
  cases r2
  refine SeqAt.eq_tupleAt (e := fun _ => true) (show s.heap.IsTuple a us.toArray from p1) (show s.heap.IsTuple b ([] : List Value).toArray from p2) (by omega) (fun j _ h2 => absurd h2 (Nat.not_lt_zero _)) ?_
  rw [all_nilT]
  refine ⟨.bl _, H, I, ?_, q⟩
  have e : decide (xs = []) = decide (us = []) := by
    by_cases hx : xs = []
    · rw [decide_eq_true hx, decide_eq_true ((Vals.nil_iff r1).mpr hx)]
    · rw [decide_eq_false hx, decide_eq_false (fun z => hx ((Vals.nil_iff r1).mp z))]
  rw [e]
  rfl
def rGetL (K : PySem.W.Frag) : V → V → Hp → VK → Prop := fun o i H Q => ∃ p xs k v, o = .ref p ∧ i = .int k ∧ k < 0 ∧ SqL K H p xs ∧ atI xs k = some v ∧ Q v H
theorem get_list : PGet X (rGetL X.K) := by
  intro pins s σ H o i ov iv Q I ro ri h
  obtain ⟨p, xs, k, z, rfl, rfl, hk, hq, he, q⟩ := h
  cases ro
  obtain ⟨t, rfl⟩ := ri
  obtain ⟨its, r, pl, hz⟩ := I.list hq
  obtain ⟨j, h1, h2, h3, h4, h5⟩ := atI_get he
  obtain ⟨w, ew, rw'⟩ := r.get h2
  have hl := r.length
  have hn := line63
  have hj : (k + (its.toArray.size : Int)).toNat = j := by
    rw [seqIndex_neg (by omega) h4] at h1
    rw [List.size_toArray, ← hl]
    exact Option.some.inj h1
  exact wpAny_getItem_list_neg pl.isList (by omega) (by rw [List.size_toArray] <;> omega) (by omega) (by rw [hj]; simpa using ew) ⟨z, H, I, rw', q⟩
theorem qs_augS {o i e : Expr} {to ti te : TE} {tget : V → V → Hp → VK → Prop} {tip : TIp} {tset : TSet} {op : Operator} {tpos pos : Pos} (ho : QE X o to) (hi : QE X i ti) (hg : PGet X tget) (he : QE X e te) (hp : PIp X op tip) (hs : PSet X tset)
    (ha : ∀ ov iv new, augStore i ov iv new = (do holding [new, ov, iv] (setItem ov iv new); release [new, ov, iv] []; pure .next) := by intros; rfl) : QS X (.AugAssign (.Subscript o i tpos) op e pos) (tAugS to ti te tget tip tset) := ⟨ps_augS ho.h hi.h hg he.h hp hs ha⟩
end
theorem rvOther {n : String} (h : n = "reversed" ∨ n = "range_iterator") : ["enumerate", "zip", "dict_itemiterator", "dict_reverseitemiterator", "odict_iterator", "itertools.zip_longest", "itertools.pairwise"].contains n = false := by
  rcases h with rfl | rfl <;> decide
section
variable {X : Cx} {tg e : Expr} {te : TE} {p q : Pos}
end
theorem sub_ri : isSubtype (.type "range_iterator") (.type "reversed") = pure false := by rw [isSubtype_type]; kernel_rfl
section
variable {prog : Program} {w : World} {A : Around} {E : Value → Shared → Prop} {s : Shared}
def rgi (n : Nat) : Obj := { cls := .type "range_iterator", data := .fields #[rawInt ((n : Int) - 1), rawInt n, rawInt (-1)] }
theorem rg_rev {r : Addr} {n : Nat} {t u v : Tok} {Q : Value → Shared → Prop} (hr : IsRange s.heap r 0 (n : Int) 1 t u v) (hn : n ≤ 100000) (h : Q (.ref s.heap.objs.size) { s with heap := s.heap.push (rgi n) }) :
    wpAny (model prog w) A (call (.builtin "range.__reversed__") [.ref r]) Q E s := by
  have hT : s.TypeIs (.ref r) "range" := ⟨_, hr, rfl⟩
  refine wpAny_call_entry F.slot_range_reversed hT F.entry_range_reversed ?_ (F.args_range_reversed_1 _)
  unfold Builtin.«range.__reversed__»
  refine wpAny_bind (wpAny_of_eq (a := Value.ref r) rfl ?_)
  have hsz : Builtin.Range.rangeSize 0 (n : Int) 1 = n := by
    unfold Builtin.Range.rangeSize
    rw [if_pos (by decide)]
    split <;> omega
  have hsm : (Builtin.Range.rangeFitsLong 0 && Builtin.Range.rangeFitsLong (n : Int) && Builtin.Range.rangeFitsLong 1 && Builtin.Range.rangeFitsLong (-1) && Builtin.Range.rangeFitsLong (0 - 1) && Builtin.Range.rangeFitsLong (Builtin.Range.rangeSize 0 (n : Int) 1)) = true := by
    rw [hsz]
    simp only [Builtin.Range.rangeFitsLong, Bool.and_eq_true, decide_eq_true_eq]
    omega
  have hf : wpAny (model prog w) A.in1 (Builtin.Range.rangeFields (.ref r)) (fun x s' => x = (0, (n : Int), 1) ∧ s' = s) (fun _ _ => False) s := by
    unfold Builtin.Range.rangeFields
    refine wpAny_bind (wpAny_field hr rfl (x := .int 0 t) rfl (wpAny_bind (wpAny_of_eq (a := some 0) rfl ?_)))
    refine wpAny_bind (wpAny_field hr rfl (x := .int n u) rfl (wpAny_bind (wpAny_of_eq (a := some (n : Int)) rfl ?_)))
    refine wpAny_bind (wpAny_field hr rfl (x := .int 1 v) rfl (wpAny_bind (wpAny_of_eq (a := some 1) rfl ?_)))
    exact wpAny_pure ⟨rfl, rfl⟩
  refine wpAny_bind (wpAny_mono hf (fun x s' hx => ?_) fun _ _ z => z.elim)
  obtain ⟨rfl, rfl⟩ := hx
  dsimp only
  rw [hsm, hsz]
  refine wpAny_bind (wpAny_newObj_type (wpAny_pure ⟨_, rfl, ?_⟩) (by size_fits))
  have e : (0 : Int) + ((n : Int) - 1) * 1 = (n : Int) - 1 := by omega
  show Q _ { s' with heap := s'.heap.push { cls := .type "range_iterator", data := .fields #[rawInt (0 + ((n : Int) - 1) * 1), rawInt n, rawInt (-1)] } }
  rw [e]
  exact h
theorem rg_new {r : Addr} {n : Nat} {t u v : Tok} {Q₁ : Value → Shared → Prop} (hr : IsRange s.heap r 0 (n : Int) 1 t u v) (hn : n ≤ 100000) (h : Q₁ (.ref s.heap.objs.size) { s with heap := s.heap.push (rgi n) }) :
    codeAny (model prog w) A (.call (.builtin "reversed.__new__") ⟨[.type "reversed", .ref r], []⟩) (wants Q₁ E) s := by
  have hT : s.TypeIs (.ref r) "range" := ⟨_, hr, rfl⟩
  refine codeAny_of_tree (show wpAny _ A.in1 (do checkBuiltinCall "reversed.__new__" ⟨[.type "reversed", .ref r], []⟩; again (.builtin "reversed.__new__" ⟨[.type "reversed", .ref r], []⟩)) _ _ s from wpAny_bind (wpAny_of_eq (F.newCall_reversed_1 _) (wpAny_pure ⟨plainId_quiet F.plain_reversed_new _, codeAny_builtin F.entry_reversed_new ?_⟩)))
  rw [Around.under_plainId F.plain_reversed_new _, Builtin.«reversed.__new__»]
  refine wpAny_bind (wpAny_of_eq (newClass_reversed _) (show wpAny _ _ (_ >>= _) _ _ _ from wpAny_bind (wpAny_of_eq (a := ()) (by first | rfl | kernel_rfl) (wpAny_bind (wpAny_of_eq (a := ()) (by first | rfl | kernel_rfl) ?_)))))
  refine (show wpAny _ _ (_ >>= _) _ _ _ from wpAny_bind (wpAny_specialOf hT F.slot_range_reversed.lookup (show wpAny _ _ (_ >>= _) _ _ _ from wpAny_bind (wpAny_of_eq (F.slot_range_reversed.bind _) ?_))))
  show wpAny _ _ (if (Value.builtin "range.__reversed__" == Value.none) = true then _ else _) _ _ _
  rw [if_neg (by decide)]
  refine wpAny_bind (wpAny_rule (wpAny_bind (m := runValue (.call (.builtin "range.__reversed__") ⟨[.ref r], []⟩)) (show wpAny _ _ (call (.builtin "range.__reversed__") [.ref r]) _ _ _ from rg_rev hr hn ?_)))
  first | exact wpAny_pure h | exact wpAny_bind (wpAny_pure (wpAny_pure h))
theorem rg_call {r : Addr} {n : Nat} {t u v : Tok} {Q : Value → Shared → Prop} (hr : IsRange s.heap r 0 (n : Int) 1 t u v) (hn : n ≤ 100000) (h : Q (.ref s.heap.objs.size) { s with heap := s.heap.push (rgi n) }) : wpAny (model prog w) A (call (.type "reversed") [.ref r]) Q E s := by
  refine callType_other (T := "reversed") (U := "range_iterator") (Q₁ := fun obj s₁ => obj = .ref s.heap.objs.size ∧ s₁ = { s with heap := s.heap.push (rgi n) }) (by decide +kernel) F.create_reversed ⟨_, _, F.mro_reversed⟩ F.made_reversed sub_ri (F.typeCall_reversed_1 _) (rg_new hr hn ⟨rfl, rfl⟩) ?_
  intro obj s₁ hq
  obtain ⟨e1, e2⟩ := hq
  subst e1 e2
  exact ⟨⟨_, Heap.get?_push_size _ rfl, rfl⟩, h⟩
end
def ItRR (n : Nat) : It := ⟨fun i _ => i < n, fun i H x H' => H' = H ∧ x = .int ((n : Int) - 1 - (i : Nat)), fun i _ => n ≤ i⟩
theorem turn_revR {P : Program} {w : World} {K : PySem.W.Frag} {tg : Expr} (it : Addr) (n : Nat) : Turn P w K tg (ItRR n) [it] it (fun i h => IsRangeIter h it (((n : Int) - 1) + (i : Nat) * (-1)) ((n : Int) - (i : Nat)) (-1)) where
  mem := by simp
  obj := fun i h st b hb => by
    have e : b = it := by simpa using hb
    subst e
    exact ⟨_, st, fun v z => by
      have z' : Data.fields _ = Data.cell v := z
      cases z'⟩
  keep := fun i h h' st k => k it (by simp) _ st
  item := by
    intro X hP hw hK hc i pins s σ H E I hf st hg
    subst hP hw hK
    obtain ⟨f0, f1, f2, f3, f4, f5⟩ := hf it (by simp)
    have W := Walks.range (prog := X.prog) (w := X.w) (I.ok.hd hc) it ((n : Int) - 1) (-1) n
    refine W.item i s _ _ hg st fun v h' tk hv st' kk => ?_
    obtain ⟨t, rfl⟩ := hv
    have I1 : Inv X pins σ H { s with heap := h', toks := tk } := I.turned (fun b o hb e => kk b o (by simpa using hb) e) f0 f1 f3 f4 f5
    have e1 : ((n : Int) - 1) + (i : Nat) * (-1) = (n : Int) - 1 - (i : Nat) := by omega
    refine ⟨_, rfl, go_of (s := { s with heap := h', toks := tk }) (n := "range_iterator") st' rfl rfl (rvOther (.inr rfl)) ⟨.int (((n : Int) - 1) + (i : Nat) * (-1)), H, I1, ⟨t, rfl⟩, ⟨rfl, by rw [e1]⟩, st', fun b hb => (hf b hb).1⟩⟩
  done := by
    intro X hP hw hK hc i pins s σ H E I hf st hg
    subst hP hw hK
    obtain ⟨f0, f1, f2, f3, f4, f5⟩ := hf it (by simp)
    exact wpAny_pyNext_range_end (I.ok.hd hc) st (by have : n ≤ i := hg; omega) fun h' eb => ⟨rfl, I.turned (t' := s.toks) (fun b o hb e => eb b o hb e) f0 f1 f3 f4 f5⟩
  self := fun _ _ _ _ _ st h => wpAny_pyIter_rangeiter st h
section
variable {X : Cx} {tg e : Expr} {te : TE} {p1 p2 q1 q2 : Pos}
def iRevR (te : TE) : TI := fun σ H R => te σ H fun x H1 => ∃ n : Nat, x = .int (n : Int) ∧ n ≤ 100000 ∧ R (ItRR n) H1
theorem pi_revR (hc : X.calm = true) (g1 : Gl X "reversed") (m1 : X.mg "reversed" = none) (g2 : Gl X "range") (m2 : X.mg "range" = none) (he : PE X e te)
    (hs2 : starEach [e] X.env = [(false, eval e X.env)] := by rfl) (hs1 : starEach [.Call (.Name "range" p2) [e] [] q2] X.env = [(false, eval (.Call (.Name "range" p2) [e] [] q2) X.env)] := by rfl) :
    PI X tg (.Call (.Name "reversed" p1) [.Call (.Name "range" p2) [e] [] q2] [] q1) (iRevR te) := by
  intro pins s σ H R I h
  refine Call_ (ld_blt I g1 m1 boot_reversed (PyProof.Rows.callWith_type1 ?_ hs1 rfl))
  rw [hs1]
  show wpAny _ _ (spliced ((false, eval (.Call (.Name "range" p2) [e] [] q2) X.env) :: backTo q1 [])) _ _ s
  refine Calls.spliced_cons (Call_ (ld_blt I g2 m2 boot_range (PyProof.Rows.callWith_type1 ?_ hs2 rfl)))
  rw [hs2]
  show wpAny _ _ (spliced ((false, eval e X.env) :: backTo q2 [])) _ _ s
  refine Calls.spliced_cons (thn (he pins s σ H _ I h) fun u s1 ⟨x, H1, I1, r1, n, ex, hn, k⟩ => ?_)
  subst ex
  obtain ⟨t, rfl⟩ := r1
  refine Calls.spliced_nil ?_
  refine call_range_1 (Calls.spliced_nil ?_)
  have I2 : Inv X pins σ H1 { s1 with heap := s1.heap.push { cls := .type "range", data := .fields #[.int 0 s1.toks, .int n t, .int 1 (s1.toks + 1)] }, toks := s1.toks + 1 + 1 } := I1.kept fun b o e => Heap.get?_push_of_some _ e
  refine rg_call (s := { s1 with heap := s1.heap.push { cls := .type "range", data := .fields #[.int 0 s1.toks, .int n t, .int 1 (s1.toks + 1)] }, toks := s1.toks + 1 + 1 }) (IsRange.new ..) hn ?_
  have st : IsRangeIter ((s1.heap.push { cls := .type "range", data := .fields #[.int 0 s1.toks, .int n t, .int 1 (s1.toks + 1)] }).push (rgi n)) (s1.heap.push { cls := .type "range", data := .fields #[.int 0 s1.toks, .int n t, .int 1 (s1.toks + 1)] }).objs.size (((n : Int) - 1) + ((0 : Nat) : Int) * (-1)) ((n : Int) - ((0 : Nat) : Int)) (-1) := by
    have e1 : ((n : Int) - 1) + ((0 : Nat) : Int) * (-1) = (n : Int) - 1 := by simp
    have e2 : (n : Int) - ((0 : Nat) : Int) = n := by simp
    rw [e1, e2]
    exact Heap.get?_push_size _ rfl
  refine wpAny_pyIter_rangeiter st ⟨_, [(s1.heap.push { cls := .type "range", data := .fields #[.int 0 s1.toks, .int n t, .int 1 (s1.toks + 1)] }).objs.size], _, _, H1, rfl, I2.kept (t' := s1.toks + 1 + 1) fun b o e => Heap.get?_push_of_some _ e, turn_revR _ n, st, fun b hb => ?_, k⟩
  have e : b = (s1.heap.push { cls := .type "range", data := .fields #[.int 0 s1.toks, .int n t, .int 1 (s1.toks + 1)] }).objs.size := by simpa using hb
  subst e
  exact I2.fpOk (Nat.le_refl _) (I2.hok.fresh (Nat.le_refl _))
theorem qi_revR (hc : X.calm = true) (g1 : Gl X "reversed") (m1 : X.mg "reversed" = none) (g2 : Gl X "range") (m2 : X.mg "range" = none) (he : QE X e te)
    (hs2 : starEach [e] X.env = [(false, eval e X.env)] := by rfl) (hs1 : starEach [.Call (.Name "range" p2) [e] [] q2] X.env = [(false, eval (.Call (.Name "range" p2) [e] [] q2) X.env)] := by rfl) :
    QI X tg (.Call (.Name "reversed" p1) [.Call (.Name "range" p2) [e] [] q2] [] q1) (iRevR te) := ⟨pi_revR hc g1 m1 g2 m2 he.h hs2 hs1⟩
theorem for_revR {n : Nat} {g : TG} {tb : TS} {D : Ends} {σ : St} {H : Hp} (Pv : Nat → St → Hp → Prop) (h0 : Pv 0 σ H)
    (hs : ∀ i σ H, i < n → Pv i σ H → g (.int ((n : Int) - 1 - (i : Nat))) σ H fun σ2 H2 => tb { D with nx := Pv (i + 1), ct := Pv (i + 1), bk := D.nx } σ2 H2) (hd : ∀ σ H, Pv n σ H → D.nx σ H) :
    ∃ W : Nat → Nat → St → Hp → Prop, (∃ m, W 0 m σ H) ∧ ∀ i m σ H, W i m σ H →
      ((ItRR n).stop i H ∧ D.nx σ H) ∨ ((ItRR n).go i H ∧ ∃ N : St → Hp → Prop, (∀ σ' H', N σ' H' → ∃ m', m' < m ∧ W (i + 1) m' σ' H') ∧ ∀ x H', (ItRR n).yld i H x H' → g x σ H' fun σ2 H2 => tb { D with nx := N, ct := N, bk := D.nx } σ2 H2) := by
  refine ⟨fun i m σ H => m = n - i ∧ i ≤ n ∧ Pv i σ H, ⟨n, by simp, Nat.zero_le _, h0⟩, ?_⟩
  rintro i m σ H ⟨rfl, hi, p⟩
  by_cases hlt : i < n
  · refine .inr ⟨hlt, Pv (i + 1), fun σ' H' q => ⟨n - (i + 1), by omega, rfl, hlt, q⟩, ?_⟩
    rintro x H' ⟨rfl, rfl⟩
    exact hs i σ H' hlt p
  · have e : i = n := by omega
    subst e
    exact .inl ⟨Nat.le_refl _, hd σ H p⟩
end
end L2
set_option Elab.async false
set_option linter.all false
set_option maxRecDepth 100000
set_option maxHeartbeats 4000000
namespace L2
open PySem PySem.Spec PyProof.Rows
section
variable {X : Cx} {Dc : Addr} {dn n : Str} {i : Nat} {np hpos : Pos} {ts : TS} {b0 : Stmt} {suite : List Stmt} {pins : List (Addr × Obj)} {σ : St} {H1 : Hp} {s1 s' : Shared} {D : Ends} {ev : Value} {Q : Flow → Shared → Prop}
variable {k : Nat} {f : Addr} {fd : FuncData} {ps : List Str} {sp : Sp} {x : Str} {p cpos epos : Pos} {e : Expr} {es : List Expr} {t : TA} {EX : XK} {N : Hp → Prop} {H : Hp} {s : Shared}
end
section
variable {X : Cx} {Dc : Addr} {dn n : Str} {i : Nat} {np hpos pos ipos : Pos} {ts : TS} {b0 : Stmt} {suite : List Stmt} {c : Expr} {tc : TT}
  {k1 k2 : Nat} {f1 f2 : Addr} {fd1 fd2 : FuncData} {ps1 ps2 : List Str} {sp1 sp2 : Sp} {x1 x2 : Str} {p1 p2 c1 c2 q1 q2 : Pos} {e1 e2 : Expr} {es1 es2 : List Expr} {t1 t2 : TA}
end
end L2
set_option Elab.async false
set_option linter.all false
set_option maxRecDepth 100000
set_option maxHeartbeats 4000000
namespace L2
open PySem PySem.Spec PyProof.Rows
section
variable {prog : Program} {w : World} {A : Around} {E : Value → Shared → Prop} {s : Shared}
theorem tupNext_yes {it t : Addr} {i : Nat} {vs : Array Value} {x : Value} {Q : Value → Shared → Prop} (hi : s.heap.IsTupleIter it t i) (ht : s.heap.IsTuple t vs) (hx : vs[i]? = some x)
    (q : ∀ h', h'.IsTupleIter it t (i + 1) → Heap.SameBut it s.heap h' → Q x { s with heap := h' }) : wpAny (model prog w) A (Builtin.SmallTypes.nextOf (.ref it)) Q E s := by
  obtain ⟨o, ho, hc, hd⟩ := id hi
  obtain ⟨ot, hot, _, nt, hdt⟩ := ht
  unfold Builtin.SmallTypes.nextOf
  refine wpAny_bind (wpAny_callSpecial?_slot (name := Str.ofString "__next__") hi.typeIs F.slot_tuple_iterator_next (wpAny_call_entry F.slot_tuple_iterator_next hi.typeIs F.entry_tuple_iterator_next ?_ (F.args_tuple_iterator_next_1 _)))
  show wpAny _ _ (field (.ref it) 0 >>= _) _ _ s
  refine wpAny_bind (wpAny_field ho hd (x := .ref t) rfl (show wpAny _ _ (if (Value.ref t == Value.none) = true then _ else _) _ _ s from ?_))
  rw [if_neg (show ¬ ((Value.ref t == Value.none) = true) from Bool.false_ne_true)]
  show wpAny _ _ (field (.ref it) 1 >>= _) _ _ s
  refine wpAny_bind (wpAny_field ho hd (x := .int i 0) rfl (show wpAny _ _ (seqItems? (.ref t) >>= _) _ _ s from wpAny_bind (wpAny_seqItems hot hdt ?_)))
  simp only [Int.toNat_natCast, hx]
  refine wpAny_bind (wpAny_setField ho hd (by simp) (wpAny_pure ⟨x, rfl, wpAny_pure (q _ ⟨_, Heap.get?_update_self _ ho (Obj.isFreed_of_fields (Obj.data_mapFields hd _)), (Obj.cls_mapFields ..).trans hc, ?_⟩ (Heap.SameBut.update ..))⟩))
  rw [Obj.data_mapFields hd]
  simp [rawInt]
theorem tupNext_no {it t : Addr} {i : Nat} {vs : Array Value} {Q : Value → Shared → Prop} (hh : A.handled = none) (hi : s.heap.IsTupleIter it t i) (ht : s.heap.IsTuple t vs) (hx : vs[i]? = none)
    (q : ∀ h' e, Heap.ExtBut it s.heap h' → (∃ o, h'.get? e = some o ∧ o.cls = .type "StopIteration") → E (.ref e) { s with heap := h' }) : wpAny (model prog w) A (Builtin.SmallTypes.nextOf (.ref it)) Q E s := by
  obtain ⟨o, ho, hc, hd⟩ := id hi
  obtain ⟨ot, hot, _, nt, hdt⟩ := ht
  unfold Builtin.SmallTypes.nextOf
  refine wpAny_bind (wpAny_callSpecial?_slot (name := Str.ofString "__next__") hi.typeIs F.slot_tuple_iterator_next (wpAny_call_entry F.slot_tuple_iterator_next hi.typeIs F.entry_tuple_iterator_next ?_ (F.args_tuple_iterator_next_1 _)))
  show wpAny _ _ (field (.ref it) 0 >>= _) _ _ s
  refine wpAny_bind (wpAny_field ho hd (x := .ref t) rfl (show wpAny _ _ (if (Value.ref t == Value.none) = true then _ else _) _ _ s from ?_))
  rw [if_neg (show ¬ ((Value.ref t == Value.none) = true) from Bool.false_ne_true)]
  show wpAny _ _ (field (.ref it) 1 >>= _) _ _ s
  refine wpAny_bind (wpAny_field ho hd (x := .int i 0) rfl (show wpAny _ _ (seqItems? (.ref t) >>= _) _ _ s from wpAny_bind (wpAny_seqItems hot hdt ?_)))
  simp only [Int.toNat_natCast, hx]
  refine wpAny_bind (wpAny_rule (wpAny_bind (wpAny_setField ho hd (by simp) (show wpAny _ _ (newExc (.type "StopIteration") [] >>= _) _ _ _ from wpAny_bind ?_))))
  simp only [newExc, newTuple]
  refine wpAny_bind (wpAny_newObj_type (wpAny_bind (m := firstArgMember _ _) (wpAny_of_eq (a := Value.none) (by first | rfl | (simp only [firstArgMember]; rfl)) (wpAny_newObj_type ?_ (by size_fits)))) (by size_fits))
  simp only [raiseNew]
  refine wpAny_bind (wpAny_handled ?_)
  first | rw [show A.in1.handled = none from hh] | rw [hh]
  exact wpAny_bind (wpAny_pure (wpAny_throw (q _ _ (((Heap.SameBut.update ..).extBut.push _).push _) ⟨_, Heap.get?_push_size _ rfl, rfl⟩)))
structure ZAp (z TI TO i1 i2 t1 t2 : Addr) : Prop where
  a1 : TI ≠ z
  a2 : TO ≠ z
  a3 : i1 ≠ z
  a4 : i2 ≠ z
  a5 : TI ≠ TO
  a6 : TI ≠ i1
  a7 : TI ≠ i2
  a8 : TO ≠ i1
  a9 : TO ≠ i2
  b1 : i1 ≠ i2
  c1 : t1 ≠ z
  c2 : t1 ≠ TO
  c3 : t1 ≠ i1
  c4 : t1 ≠ i2
  d1 : t2 ≠ z
  d2 : t2 ≠ TO
  d3 : t2 ≠ i1
  d4 : t2 ≠ i2
structure ZSt (h : Heap) (z TI TO i1 i2 t1 t2 : Addr) (k : Nat) (vs us : Array Value) (f : Value) : Prop where
  zz : IsZip h z TI TO f
  ti : IsPair h TI (.ref i1) (.ref i2)
  to : ∃ a b, IsPair h TO a b
  n1 : h.IsTupleIter i1 t1 k
  n2 : h.IsTupleIter i2 t2 k
  g1 : h.IsTuple t1 vs
  g2 : h.IsTuple t2 us
theorem ndA {a b : Nat} (h : a < b ∨ b < a) : a ≠ b := by omega
theorem itAt {h h' : Heap} {it t : Addr} {i : Nat} (x : h.IsTupleIter it t i) (k : ∀ o, h.get? it = some o → h'.get? it = some o) : h'.IsTupleIter it t i := let ⟨o, ho, r⟩ := x; ⟨o, k o ho, r⟩
theorem tpAt {h h' : Heap} {t : Addr} {vs : Array Value} (x : h.IsTuple t vs) (k : ∀ o, h.get? t = some o → h'.get? t = some o) : h'.IsTuple t vs := let ⟨o, ho, r⟩ := x; ⟨o, k o ho, r⟩
theorem zipNext_yes {z TI TO i1 i2 t1 t2 : Addr} {k : Nat} {vs us : Array Value} {x y : Value} {Q : Option Value → Shared → Prop} (D : ZAp z TI TO i1 i2 t1 t2) (S : ZSt s.heap z TI TO i1 i2 t1 t2 k vs us .none) (hx : vs[k]? = some x) (hy : us[k]? = some y)
    (q : ∀ h', ZSt h' z TI TO i1 i2 t1 t2 (k + 1) vs us (rawInt s.heap.objs.size) → IsPair h' s.heap.objs.size x y → (∀ c o, c ≠ z → c ≠ TO → c ≠ i1 → c ≠ i2 → s.heap.get? c = some o → h'.get? c = some o) → Q (some (.ref s.heap.objs.size)) { s with heap := h' }) :
    wpAny (model prog w) A (pyNext (.ref z)) Q E s := by
  obtain ⟨zz, ti, ⟨a, b, to⟩, n1, n2, g1, g2⟩ := S
  have ty : s.TypeIs (.ref z) "zip" := ⟨_, zz, rfl⟩
  unfold pyNext
  refine wpAny_bind (wpAny_attempt (wpAny_callSpecial?_slot (name := Str.ofString "__next__") ty F.slot_zip_next (wpAny_call_entry F.slot_zip_next ty F.entry_zip_next ?_ (F.args_zip_next_1 _))))
  show wpAny _ _ (field (.ref z) 2 >>= _) _ _ _
  refine wpAny_bind (wpAny_field zz rfl (x := .bool false) rfl (show wpAny _ _ (field (.ref z) 3 >>= _) _ _ _ from wpAny_bind (wpAny_field zz rfl (x := .ref TI) rfl (wpAny_bind (wpAny_seqItems ti rfl ?_)))))
  refine wpAny_bind (show wpAny _ _ (Builtin.SmallTypes.ownedTupleIsFree (.ref z)) _ _ _ from ?_)
  unfold Builtin.SmallTypes.ownedTupleIsFree
  refine wpAny_bind (wpAny_field zz rfl (x := .none) rfl (wpAny_pure ?_))
  simp only [if_true]
  refine wpAny_bind (wpAny_rule (wpAny_bind (wpAny_field zz rfl (x := .ref TO) rfl (wpAny_bind (wpAny_setField_rec zz (by simp) fun u1 z1 k1 => ?_)))))
  have e1 : ∀ c o, c ≠ z → s.heap.get? c = some o → u1.get? c = some o := k1.extBut
  have m1 : u1.objs.size = s.heap.objs.size := k1.1
  refine wpAny_bind ?_
  simp only [List.zipIdx_nil, List.zipIdx_cons, List.forIn_nil, List.forIn_cons]
  -- the first one
  refine wpAny_bind (wpAny_bind (wpAny_onRaise (show wpAny _ _ (Builtin.SmallTypes.nextOf (.ref i1) >>= _) _ _ _ from wpAny_bind (tupNext_yes (itAt n1 fun o => e1 i1 o D.a3) (tpAt g1 fun o => e1 t1 o D.c1) hx fun u2 j1 k2 => wpAny_pure ?_))))
  have e2 : ∀ c o, c ≠ z → c ≠ i1 → s.heap.get? c = some o → u2.get? c = some o := fun c o h1 h2 e => k2.extBut c o h2 (e1 c o h1 e)
  have z2 := k2.extBut _ _ D.a3.symm z1
  have to2 : IsPair u2 TO a b := e2 _ _ D.a2 D.a8 to
  refine wpAny_bind (wpAny_seqItems to2 rfl (wpAny_bind (wpAny_updateSeq_pair to2 fun u3 to3 k3 => wpAny_bind (wpAny_letGo (wpAny_pure ?_)))))
  have to3' : IsPair u3 TO x b := to3
  have e3 : ∀ c o, c ≠ z → c ≠ i1 → c ≠ TO → s.heap.get? c = some o → u3.get? c = some o := fun c o h1 h2 h3 e => k3.extBut c o h3 (e2 c o h1 h2 e)
  have z3 := k3.extBut _ _ D.a2.symm z2
  -- the second one
  refine wpAny_bind (wpAny_bind (wpAny_onRaise (show wpAny _ _ (Builtin.SmallTypes.nextOf (.ref i2) >>= _) _ _ _ from wpAny_bind (tupNext_yes (itAt n2 fun o => e3 i2 o D.a4 D.b1.symm D.a9.symm) (tpAt g2 fun o => e3 t2 o D.d1 D.d3 D.d2) hy fun u4 j2 k4 => wpAny_pure ?_))))
  have to4 : IsPair u4 TO x b := k4.extBut _ _ D.a9 to3'
  refine wpAny_bind (wpAny_seqItems to4 rfl (wpAny_bind (wpAny_updateSeq_pair to4 fun u5 to5 k5 => wpAny_bind (wpAny_letGo (wpAny_pure (wpAny_pure ?_))))))
  have to5' : IsPair u5 TO x y := to5
  have e5 : ∀ c o, c ≠ z → c ≠ i1 → c ≠ TO → c ≠ i2 → s.heap.get? c = some o → u5.get? c = some o := fun c o h1 h2 h3 h4 e => k5.extBut c o h3 (k4.extBut c o h4 (e3 c o h1 h2 h3 e))
  have z5 := k5.extBut _ _ D.a2.symm (k4.extBut _ _ D.a4.symm z3)
  have m5 : u5.objs.size = s.heap.objs.size := by rw [k5.1, k4.1, k3.1, k2.1, m1]
  have lz : z < s.heap.objs.size := Heap.lt_size zz
  -- the new pair
  refine wpAny_bind (wpAny_seqItems to5' rfl (wpAny_bind (wpAny_newTuple ?_)))
  refine wpAny_bind (show wpAny _ _ (Builtin.SmallTypes.ownedTupleHandOut (.ref z) (.ref u5.objs.size)) _ _ _ from ?_)
  unfold Builtin.SmallTypes.ownedTupleHandOut
  have z6 := Heap.get?_push_of_some { cls := .type "tuple", data := .seq #[x, y] } z5
  refine wpAny_bind (wpAny_setField_rec z6 (by simp) fun u7 z7 k7 => wpAny_setField_rec z7 (by simp) fun u8 z8 k8 => wpAny_pure ⟨_, rfl, ?_⟩)
  have e8 : ∀ c o, c ≠ z → u5.get? c = some o → u8.get? c = some o := fun c o h e => k8.extBut c o h (k7.extBut c o h (Heap.get?_push_of_some _ e))
  have p8 : IsPair u8 u5.objs.size x y := k8.extBut _ _ (by rw [m5]; exact Nat.ne_of_gt lz) (k7.extBut _ _ (by rw [m5]; exact Nat.ne_of_gt lz) (Heap.get?_push_size _ rfl))
  refine wpAny_pure ?_
  show Q (some (.ref u5.objs.size)) { s with heap := u8 }
  have z8' : IsZip u8 z TI TO (rawInt u5.objs.size) := z8
  rw [m5] at p8 z8' ⊢
  refine q u8 ⟨z8', e8 _ _ D.a1 (e5 _ _ D.a1 D.a6 D.a5 D.a7 ti), ⟨x, y, e8 _ _ D.a2 to5'⟩, ?_, ?_, tpAt g1 fun o e => e8 _ _ D.c1 (e5 _ _ D.c1 D.c3 D.c2 D.c4 e), tpAt g2 fun o e => e8 _ _ D.d1 (e5 _ _ D.d1 D.d3 D.d2 D.d4 e)⟩ p8 fun c o h1 h2 h3 h4 e => e8 c o h1 (e5 c o h1 h3 h2 h4 e)
  · exact itAt j1 fun o e => e8 _ _ D.a3 (k5.extBut _ _ D.a8.symm (k4.extBut _ _ D.b1 (k3.extBut _ _ D.a8.symm e)))
  · exact itAt j2 fun o e => e8 _ _ D.a4 (k5.extBut _ _ D.a9.symm e)
theorem zipNext_no {z TI TO i1 i2 t1 t2 : Addr} {k : Nat} {vs us : Array Value} {Q : Option Value → Shared → Prop} (hh : A.handled = none) (D : ZAp z TI TO i1 i2 t1 t2) (S : ZSt s.heap z TI TO i1 i2 t1 t2 k vs us .none) (hx : vs[k]? = none)
    (q : ∀ h', (∀ c o, c ≠ z → c ≠ TO → c ≠ i1 → c ≠ i2 → s.heap.get? c = some o → h'.get? c = some o) → Q none { s with heap := h' }) : wpAny (model prog w) A (pyNext (.ref z)) Q E s := by
  obtain ⟨zz, ti, ⟨a, b, to⟩, n1, n2, g1, g2⟩ := S
  have ty : s.TypeIs (.ref z) "zip" := ⟨_, zz, rfl⟩
  unfold pyNext
  refine wpAny_bind (wpAny_attempt (wpAny_callSpecial?_slot (name := Str.ofString "__next__") ty F.slot_zip_next (wpAny_call_entry F.slot_zip_next ty F.entry_zip_next ?_ (F.args_zip_next_1 _))))
  show wpAny _ _ (field (.ref z) 2 >>= _) _ _ _
  refine wpAny_bind (wpAny_field zz rfl (x := .bool false) rfl (show wpAny _ _ (field (.ref z) 3 >>= _) _ _ _ from wpAny_bind (wpAny_field zz rfl (x := .ref TI) rfl (wpAny_bind (wpAny_seqItems ti rfl ?_)))))
  refine wpAny_bind (show wpAny _ _ (Builtin.SmallTypes.ownedTupleIsFree (.ref z)) _ _ _ from ?_)
  unfold Builtin.SmallTypes.ownedTupleIsFree
  refine wpAny_bind (wpAny_field zz rfl (x := .none) rfl (wpAny_pure ?_))
  simp only [if_true]
  refine wpAny_bind (wpAny_rule (wpAny_bind (wpAny_field zz rfl (x := .ref TO) rfl (wpAny_bind (wpAny_setField_rec zz (by simp) fun u1 z1 k1 => ?_)))))
  refine wpAny_bind ?_
  simp only [List.zipIdx_nil, List.zipIdx_cons, List.forIn_nil, List.forIn_cons]
  refine wpAny_bind (wpAny_bind (wpAny_onRaise (show wpAny _ _ (Builtin.SmallTypes.nextOf (.ref i1) >>= _) _ _ _ from wpAny_bind (tupNext_no hh (itAt n1 fun o => k1.extBut i1 o D.a3) (tpAt g1 fun o => k1.extBut t1 o D.c1) hx fun u2 e k2 he => ?_))))
  obtain ⟨oe, hoe, hce⟩ := he
  have z2 := k2 _ _ D.a3.symm z1
  have nz : e ≠ z := fun c => by
    subst c
    rw [z2] at hoe
    cases hoe
    simp at hce
  refine wpAny_setField_rec z2 (by simp) fun u3 _ k3 => ?_
  refine wpAny_bind (wpAny_isInstance (T := "StopIteration") (b := true) ⟨oe, k3.extBut _ _ nz hoe, hce⟩ isSubtype_stop (wpAny_pure (q u3 fun c o h1 _ h3 _ e => k3.extBut _ _ h1 (k2 _ _ h3 (k1.extBut _ _ h1 e)))))
theorem zipMake (l1 l2 : Addr) (vs us : Array Value) :
    Meets (Builtin.«zip.__new__» ⟨[.type "zip", .ref l1, .ref l2], []⟩) (fun _ R s => s.heap.IsTuple l1 vs ∧ s.heap.IsTuple l2 us ∧
      ∀ h0 h1 h2 h3 h4 h5, h0 = s.heap → h1 = h0.push { cls := .type "tuple_iterator", data := .fields #[.ref l1, .int 0 0] } → h2 = h1.push { cls := .type "tuple_iterator", data := .fields #[.ref l2, .int 0 0] } → h3 = h2.push { cls := .type "tuple", data := .seq #[.ref h0.objs.size, .ref h1.objs.size] } →
        h4 = h3.push { cls := .type "tuple", data := .seq #[.none, .none] } → h5 = h4.push { cls := .type "zip", data := .fields #[.none, .bool false, .bool false, .ref h2.objs.size, .ref h3.objs.size] } → R (.ok (.ret (.ref h4.objs.size))) { s with heap := h5 }) :=
  .of_wp fun prog w A R s h => by
    obtain ⟨hp, g, d, tk, os⟩ := s
    obtain ⟨hl1, hl2, h⟩ := h
    have hsub := sub_zip
    have hL1 : Heap.IsTuple (Shared.heap ⟨hp, g, d, tk, os⟩) l1 vs := hl1
    have hL2 : Heap.IsTuple (Shared.heap ⟨hp.push { cls := .type "tuple_iterator", data := .fields #[.ref l1, .int 0 0] }, g, d, tk, os⟩) l2 us := Heap.IsTuple.push hl2 _
    have h := h _ _ _ _ _ _ rfl rfl rfl rfl rfl rfl
    wp_walk using wpAny_pyIter_tuple hL1, wpAny_pyIter_tuple hL2
    exact ⟨_, rfl, h⟩
theorem zipCall {l1 l2 : Addr} {vs us : Array Value} {Q : Value → Shared → Prop} (g1 : s.heap.IsTuple l1 vs) (g2 : s.heap.IsTuple l2 us)
    (q : ∀ h', ZSt h' (s.heap.objs.size + 4) (s.heap.objs.size + 2) (s.heap.objs.size + 3) s.heap.objs.size (s.heap.objs.size + 1) l1 l2 0 vs us .none → (∀ c o, s.heap.get? c = some o → h'.get? c = some o) → Q (.ref (s.heap.objs.size + 4)) { s with heap := h' }) :
    wpAny (model prog w) A (call (.type "zip") [.ref l1, .ref l2]) Q E s := by
  refine callType_new F.called_zip (by decide) (F.typeCall_zip_2 _ _) (F.newCall_zip_2 _ _) (fun obj => F.args_object_init_3 obj _ _) F.entry_zip_new (zipMake l1 l2 vs us) ⟨g1, g2, fun h0 h1 h2 h3 h4 h5 e0 e1 e2 e3 e4 e5 => ?_⟩
  have s1 : h1.objs.size = h0.objs.size + 1 := by rw [e1]; exact Heap.size_push ..
  have s2 : h2.objs.size = h0.objs.size + 2 := by rw [e2, Heap.size_push, s1]
  have s3 : h3.objs.size = h0.objs.size + 3 := by rw [e3, Heap.size_push, s2]
  have s4 : h4.objs.size = h0.objs.size + 4 := by rw [e4, Heap.size_push, s3]
  have k1 : ∀ c o, h0.get? c = some o → h1.get? c = some o := fun c o e => by rw [e1]; exact Heap.get?_push_of_some _ e
  have k2 : ∀ c o, h1.get? c = some o → h2.get? c = some o := fun c o e => by rw [e2]; exact Heap.get?_push_of_some _ e
  have k3 : ∀ c o, h2.get? c = some o → h3.get? c = some o := fun c o e => by rw [e3]; exact Heap.get?_push_of_some _ e
  have k4 : ∀ c o, h3.get? c = some o → h4.get? c = some o := fun c o e => by rw [e4]; exact Heap.get?_push_of_some _ e
  have k5 : ∀ c o, h4.get? c = some o → h5.get? c = some o := fun c o e => by rw [e5]; exact Heap.get?_push_of_some _ e
  have p5 : h5.get? h4.objs.size = some { cls := .type "zip", data := .fields #[.none, .bool false, .bool false, .ref h2.objs.size, .ref h3.objs.size] } := by rw [e5]; exact Heap.get?_push_size _ rfl
  have p4 : h5.get? h3.objs.size = some { cls := .type "tuple", data := .seq #[.none, .none] } := k5 _ _ (by rw [e4]; exact Heap.get?_push_size _ rfl)
  have p3 : h5.get? h2.objs.size = some { cls := .type "tuple", data := .seq #[.ref h0.objs.size, .ref h1.objs.size] } := k5 _ _ (k4 _ _ (by rw [e3]; exact Heap.get?_push_size _ rfl))
  have p2 : h5.get? h1.objs.size = some { cls := .type "tuple_iterator", data := .fields #[.ref l2, .int 0 0] } := k5 _ _ (k4 _ _ (k3 _ _ (by rw [e2]; exact Heap.get?_push_size _ rfl)))
  have p1 : h5.get? h0.objs.size = some { cls := .type "tuple_iterator", data := .fields #[.ref l1, .int 0 0] } := k5 _ _ (k4 _ _ (k3 _ _ (k2 _ _ (by rw [e1]; exact Heap.get?_push_size _ rfl))))
  have kk : ∀ c o, h0.get? c = some o → h5.get? c = some o := fun c o e => k5 _ _ (k4 _ _ (k3 _ _ (k2 _ _ (k1 _ _ e))))
  rw [s1] at p2 p3
  rw [s2] at p3 p5
  rw [s3] at p4 p5
  rw [s4] at p5 ⊢
  subst e0
  exact ⟨⟨_, p5, rfl⟩, q h5 ⟨p5, p3, ⟨_, _, p4⟩, ⟨_, p1, rfl, rfl⟩, ⟨_, p2, rfl, rfl⟩, tpAt g1 fun o e => kk _ _ e, tpAt g2 fun o e => kk _ _ e⟩ kk⟩
end
def rZip (xs ys : List V) : Nat → List V → Prop := fun i vs => ∃ x y, xs[i]? = some x ∧ ys[i]? = some y ∧ vs = [x, y]
theorem turn_zipT {P : Program} {w : World} {K : PySem.W.Frag} {elts : List Expr} {m : Nat} {pos : Pos} {z TI TO i1 i2 t1 t2 : Addr} {xs ys : List V} (D : ZAp z TI TO i1 i2 t1 t2) (hl : ys.length = xs.length) :
    Turn P w K (.Tuple elts m pos) (ItW xs.length (fun H => SqT K H t1 xs ∧ SqT K H t2 ys) (rZip xs ys)) [z, TI, TO, i1, i2] z (fun i h => IsZip h z TI TO .none ∧ IsPair h TI (.ref i1) (.ref i2) ∧ (∃ a b, IsPair h TO a b) ∧ h.IsTupleIter i1 t1 i ∧ h.IsTupleIter i2 t2 i) where
  mem := by simp
  obj := fun i h ⟨zz, ti, ⟨a, b, to⟩, ⟨o1, h1, c1, d1⟩, ⟨o2, h2, c2, d2⟩⟩ c hc => by
    simp only [List.mem_cons, List.mem_nil_iff, or_false] at hc
    rcases hc with rfl | rfl | rfl | rfl | rfl
    · exact ⟨_, zz, fun v q => by cases q⟩
    · exact ⟨_, ti, fun v q => by cases q⟩
    · exact ⟨_, to, fun v q => by cases q⟩
    · exact ⟨o1, h1, fun v q => by rw [d1] at q; cases q⟩
    · exact ⟨o2, h2, fun v q => by rw [d2] at q; cases q⟩
  keep := fun i h h' ⟨zz, ti, ⟨a, b, to⟩, n1, n2⟩ k => ⟨k z (by simp) _ zz, k TI (by simp) _ ti, ⟨a, b, k TO (by simp) _ to⟩, itAt n1 fun o e => k i1 (by simp) o e, itAt n2 fun o e => k i2 (by simp) o e⟩
  item := by
    intro X hP hw hK hc i pins s σ H E I hf ht hg
    obtain ⟨hi, q1, q2⟩ := hg
    subst hP hw hK
    obtain ⟨vs, r1, p1, _⟩ := I.tuple q1
    obtain ⟨us, r2, p2, _⟩ := I.tuple q2
    obtain ⟨x, hx⟩ := some_of_lt hi
    obtain ⟨y, hy⟩ := some_of_lt (show i < ys.length by rw [hl]; exact hi)
    obtain ⟨x', hx', rx⟩ := r1.get hx
    obtain ⟨y', hy', ry⟩ := r2.get hy
    obtain ⟨zz, ti, to, n1, n2⟩ := ht
    refine zipNext_yes (x := x') (y := y') D ⟨zz, ti, to, n1, n2, p1, p2⟩ (by simpa using hx') (by simpa using hy') fun h1 S1 pr k1 => ?_
    refine ⟨_, rfl, wpAny_letOwnedTupleGo_zip S1.zz fun h2 z2 k2 => ?_⟩
    have lt : ∀ {c : Addr} {o : Obj}, s.heap.get? c = some o → s.heap.objs.size ≠ c := fun e => Nat.ne_of_gt (Heap.lt_size e)
    have e2 : ∀ c o, c ∉ [z, TO, i1, i2] → s.heap.get? c = some o → h2.get? c = some o := fun c o hc e => by
      simp only [List.mem_cons, List.mem_nil_iff, or_false, not_or] at hc
      exact k2.extBut _ _ hc.1 (k1 c o hc.1 hc.2.1 hc.2.2.1 hc.2.2.2 e)
    have tp : IsTup h2 s.heap.objs.size [x', y'].toArray := ⟨_, k2.extBut _ _ (lt zz) pr, rfl, _, rfl⟩
    refine ⟨.ref s.heap.objs.size, upd H s.heap.objs.size (.tup [x, y]), I.turnedT (wr := [z, TO, i1, i2]) e2 (fun b hb => hf b ?_) (Nat.le_refl _) (by show 2 ≤ sizeLine; decide) (.cons rx (.cons ry .nil)) tp, rfl, ⟨_, _, rfl, I.hok.fresh (Nat.le_refl _), ⟨x, y, hx, hy, rfl⟩, rfl⟩, ?_, fun b hb => ?_⟩
    · simp only [List.mem_cons, List.mem_nil_iff, or_false] at hb ⊢
      rcases hb with h | h | h | h
      · exact .inl h
      · exact .inr (.inr (.inl h))
      · exact .inr (.inr (.inr (.inl h)))
      · exact .inr (.inr (.inr (.inr h)))
    · obtain ⟨a, b, to1⟩ := S1.to
      exact ⟨z2, k2.extBut _ _ D.a1 S1.ti, ⟨a, b, k2.extBut _ _ D.a2 to1⟩, itAt S1.n1 fun o e => k2.extBut _ _ D.a3 e, itAt S1.n2 fun o e => k2.extBut _ _ D.a4 e⟩
    · obtain ⟨a', b', to0⟩ := to
      obtain ⟨o1, ho1, _⟩ := n1
      obtain ⟨o2, ho2, _⟩ := n2
      have f := (hf b hb).1
      simp only [List.mem_cons, List.mem_nil_iff, or_false] at hb
      rw [upd_ne]
      · exact f
      · rcases hb with rfl | rfl | rfl | rfl | rfl
        · exact (lt zz).symm
        · exact (lt ti).symm
        · exact (lt to0).symm
        · exact (lt ho1).symm
        · exact (lt ho2).symm
  done := by
    intro X hP hw hK hc i pins s σ H E I hf ht hg
    obtain ⟨hi, q1, q2⟩ := hg
    subst hP hw hK hi
    obtain ⟨vs, r1, p1, _⟩ := I.tuple q1
    obtain ⟨us, r2, p2, _⟩ := I.tuple q2
    obtain ⟨zz, ti, to, n1, n2⟩ := ht
    have hl1 := r1.length
    refine zipNext_no (I.ok.hd hc) D ⟨zz, ti, to, n1, n2, p1, p2⟩ (by simp; omega) fun h1 k1 => ⟨rfl, I.turnedL (t' := s.toks) (wr := [z, TO, i1, i2]) (fun c o hc e => ?_) fun b hb => hf b ?_⟩
    · simp only [List.mem_cons, List.mem_nil_iff, or_false, not_or] at hc
      exact k1 c o hc.1 hc.2.1 hc.2.2.1 hc.2.2.2 e
    · simp only [List.mem_cons, List.mem_nil_iff, or_false] at hb ⊢
      rcases hb with h | h | h | h
      · exact .inl h
      · exact .inr (.inr (.inl h))
      · exact .inr (.inr (.inr (.inl h)))
      · exact .inr (.inr (.inr (.inr h)))
  self := fun _ _ _ _ _ st h => wpAny_pyIter_zip st.1 h
section
variable {X : Cx} {elts : List Expr} {k : Nat} {tpos : Pos}
def iZip (K : PySem.W.Frag) (ta : TA) : TI := fun σ H R => ta σ H fun vs H1 => ∃ a b xs ys, vs = [.ref a, .ref b] ∧ SqT K H1 a xs ∧ SqT K H1 b ys ∧ ys.length = xs.length ∧ R (ItW xs.length (fun H => SqT K H a xs ∧ SqT K H b ys) (rZip xs ys)) H1
theorem pi_zipT {a b : Expr} {ta : TA} {p pos : Pos} (hg : Gl X "zip") (hm : X.mg "zip" = none) (ha : PA X [a, b] ta) (hs : starEach [a, b] X.env = [(false, eval a X.env), (false, eval b X.env)] := by rfl) (hs2 : starEach [b] X.env = [(false, eval b X.env)] := by rfl) :
    PI X (.Tuple elts k tpos) (.Call (.Name "zip" p) [a, b] [] pos) (iZip X.K ta) := by
  intro pins s σ H R I h
  refine Call_ (ld_blt I hg hm boot_zip (PyProof.Rows.callWith_type1 (thn (ha pos pins s σ H _ I h) fun us s1 ⟨vs, H1, I1, r1, q1⟩ => ?_) (by rw [hs, hs2]) (by rw [hs2]; rfl)))
  obtain ⟨a, b, xs, ys, e, h1, h2, hl, q⟩ := q1
  subst e
  cases r1 with
  | cons r rr =>
    cases rr with
    | cons r' rr =>
      cases rr
      cases r
      cases r'
      obtain ⟨vs1, _, p1, _⟩ := I1.tuple h1
      obtain ⟨vs2, _, p2, _⟩ := I1.tuple h2
      have la : a < s1.heap.objs.size := let ⟨_, e, _⟩ := p1; Heap.lt_size e
      have lb : b < s1.heap.objs.size := let ⟨_, e, _⟩ := p2; Heap.lt_size e
      refine zipCall (show s1.heap.IsTuple a vs1.toArray from p1) (show s1.heap.IsTuple b vs2.toArray from p2) fun h' S kp => wpAny_pyIter_zip S.zz ?_
      have I2 : Inv X pins σ H1 { s1 with heap := h' } := I1.kept (t' := s1.toks) kp
      refine ⟨s1.heap.objs.size + 4, [s1.heap.objs.size + 4, s1.heap.objs.size + 2, s1.heap.objs.size + 3, s1.heap.objs.size, s1.heap.objs.size + 1], _, _, H1, rfl, I2, turn_zipT (t1 := a) (t2 := b) ⟨?_, ?_, ?_, ?_, ?_, ?_, ?_, ?_, ?_, ?_, ?_, ?_, ?_, ?_, ?_, ?_, ?_, ?_⟩ hl, ⟨S.zz, S.ti, S.to, S.n1, S.n2⟩, ?fp, q⟩
      case fp =>
       intro b hb
       have hb' : s1.heap.objs.size ≤ b := by
        simp only [List.mem_cons, List.mem_nil_iff, or_false] at hb
        rcases hb with rfl | rfl | rfl | rfl | rfl
        · exact Nat.le_add_right _ _
        · exact Nat.le_add_right _ _
        · exact Nat.le_add_right _ _
        · exact Nat.le_refl _
        · exact Nat.le_add_right _ _
       exact I1.fpOk hb' (I1.hok.fresh hb')
      all_goals first
        | exact ndA (by omega)
        | exact Nat.ne_of_lt (Nat.lt_of_lt_of_le la (Nat.le_add_right _ _))
        | exact Nat.ne_of_lt (Nat.lt_of_lt_of_le lb (Nat.le_add_right _ _))
        | exact Nat.ne_of_lt la
        | exact Nat.ne_of_lt lb
theorem qi_zipT {a b : Expr} {ta : TA} {p pos : Pos} (hg : Gl X "zip") (hm : X.mg "zip" = none) (ha : QA X [a, b] ta) (hs : starEach [a, b] X.env = [(false, eval a X.env), (false, eval b X.env)] := by rfl) (hs2 : starEach [b] X.env = [(false, eval b X.env)] := by rfl) :
    QI X (.Tuple elts k tpos) (.Call (.Name "zip" p) [a, b] [] pos) (iZip X.K ta) := ⟨pi_zipT hg hm ha.h hs hs2⟩
end
end L2
set_option Elab.async false
set_option linter.all false
set_option maxRecDepth 100000
set_option maxHeartbeats 4000000
namespace L2
open PySem PySem.Spec PyProof.Rows
end L2
set_option Elab.async false
set_option linter.all false
set_option maxRecDepth 100000
set_option maxHeartbeats 4000000
namespace L2
open PySem PySem.Spec PyProof.Rows
section
variable {prog : Program} {w : World} {A : Around} {E : Value → Shared → Prop} {s : Shared}
end
section
variable {X : Cx} {elts : List Expr} {k : Nat} {tpos : Pos}
end
end L2
set_option Elab.async false
set_option linter.all false
set_option maxRecDepth 100000
set_option maxHeartbeats 4000000
namespace K24
open PySem L2
set_option genInjectivity false
set_option genSizeOf false
theorem bd1 {K : PySem.W.Frag} {x qual : Str} {st : Stmt} {f : Addr} {fd : FuncData} {ps : List Str} (F : Fun K x qual st f fd) (hl : ps.length = 1) (h : ∀ (kV doc pm : Value) (an : Option Addr) (cdv ct : Value) (a : Value), bindArgs (PySem.W.fnOf x qual (defArgs st) (defBody st) (defScope st) .none kV doc pm an cdv ct) ⟨[a], []⟩ = pure (ps.zip [a])) : Binds K fd ps [] := F.binds fun kV doc pm an cdv ct us e => by
  rw [hl] at e
  match us, e with
  | [a], _ => exact h kV doc pm an cdv ct a
theorem bd2 {K : PySem.W.Frag} {x qual : Str} {st : Stmt} {f : Addr} {fd : FuncData} {ps : List Str} (F : Fun K x qual st f fd) (hl : ps.length = 2) (h : ∀ (kV doc pm : Value) (an : Option Addr) (cdv ct : Value) (a b : Value), bindArgs (PySem.W.fnOf x qual (defArgs st) (defBody st) (defScope st) .none kV doc pm an cdv ct) ⟨[a, b], []⟩ = pure (ps.zip [a, b])) : Binds K fd ps [] := F.binds fun kV doc pm an cdv ct us e => by
  rw [hl] at e
  match us, e with
  | [a, b], _ => exact h kV doc pm an cdv ct a b
theorem bd3 {K : PySem.W.Frag} {x qual : Str} {st : Stmt} {f : Addr} {fd : FuncData} {ps : List Str} (F : Fun K x qual st f fd) (hl : ps.length = 3) (h : ∀ (kV doc pm : Value) (an : Option Addr) (cdv ct : Value) (a b c : Value), bindArgs (PySem.W.fnOf x qual (defArgs st) (defBody st) (defScope st) .none kV doc pm an cdv ct) ⟨[a, b, c], []⟩ = pure (ps.zip [a, b, c])) : Binds K fd ps [] := F.binds fun kV doc pm an cdv ct us e => by
  rw [hl] at e
  match us, e with
  | [a, b, c], _ => exact h kV doc pm an cdv ct a b c
def top (i : Nat) : Stmt := PySem.Challenge.pw_leafsay_k24_trees_refused.main.body.getD i (.Pass ⟨0, 0, 0, 0⟩)
abbrev s_qisname : Stmt := top 17
abbrev s_qisnumber : Stmt := top 18
abbrev s_qpieces : Stmt := top 20
abbrev s_qinit : Stmt := inClass (top 21) 0
abbrev s_qaddrow : Stmt := inClass (top 21) 1
abbrev s_qbegin : Stmt := inClass (top 21) 2
abbrev s_qendword : Stmt := inClass (top 21) 3
abbrev s_qcountin : Stmt := inClass (top 21) 4
abbrev s_qclosebracket : Stmt := inClass (top 21) 5
abbrev s_qallrows : Stmt := inClass (top 21) 6
abbrev s_qnestrows : Stmt := top 22
abbrev s_qdeepest : Stmt := top 23
abbrev s_qtakenoff : Stmt := top 24
abbrev s_qshownode : Stmt := top 28
abbrev s_qshowtree : Stmt := top 29
abbrev s_qreadnode : Stmt := top 30
abbrev s_qreadtree : Stmt := top 31
abbrev s_qword : Stmt := top 33
abbrev s_qwhole : Stmt := top 34
abbrev s_qsame : Stmt := top 35
abbrev s_qbuilt : Stmt := top 36
abbrev s_qwritten : Stmt := top 37
abbrev s_qends : Stmt := top 38
abbrev s_qput : Stmt := top 39
abbrev s_qoddsign : Stmt := top 40
abbrev s_qatbracket : Stmt := top 41
abbrev s_qatname : Stmt := top 42
abbrev s_qfaulty : Stmt := top 43
abbrev s_qwide : Stmt := top 44
abbrev s_qdeep : Stmt := top 45
abbrev s_qrefused : Stmt := top 46
abbrev s_law : Stmt := top 47
theorem sc_qisname : FnScope ["word"] ["word"] (defScope s_qisname) := ⟨rfl, rfl, rfl, by decide +kernel, rfl, by decide +kernel, by decide +kernel⟩
theorem sc_qisnumber : FnScope ["word"] ["word"] (defScope s_qisnumber) := ⟨rfl, rfl, rfl, by decide +kernel, rfl, by decide +kernel, by decide +kernel⟩
theorem sc_qpieces : FnScope ["text", "stops", "found", "start", "place", "sign"] ["text", "stops"] (defScope s_qpieces) := ⟨rfl, rfl, rfl, by decide +kernel, rfl, by decide +kernel, by decide +kernel⟩
theorem sc_qinit : FnScope ["self"] ["self"] (defScope s_qinit) := ⟨rfl, rfl, rfl, by decide +kernel, rfl, by decide +kernel, by decide +kernel⟩
theorem sc_qaddrow : FnScope ["self", "word", "count"] ["self", "word", "count"] (defScope s_qaddrow) := ⟨rfl, rfl, rfl, by decide +kernel, rfl, by decide +kernel, by decide +kernel⟩
theorem sc_qbegin : FnScope ["self", "word"] ["self", "word"] (defScope s_qbegin) := ⟨rfl, rfl, rfl, by decide +kernel, rfl, by decide +kernel, by decide +kernel⟩
theorem sc_qendword : FnScope ["self", "word"] ["self", "word"] (defScope s_qendword) := ⟨rfl, rfl, rfl, by decide +kernel, rfl, by decide +kernel, by decide +kernel⟩
theorem sc_qcountin : FnScope ["self"] ["self"] (defScope s_qcountin) := ⟨rfl, rfl, rfl, by decide +kernel, rfl, by decide +kernel, by decide +kernel⟩
theorem sc_qclosebracket : FnScope ["self", "word"] ["self"] (defScope s_qclosebracket) := ⟨rfl, rfl, rfl, by decide +kernel, rfl, by decide +kernel, by decide +kernel⟩
theorem sc_qallrows : FnScope ["self"] ["self"] (defScope s_qallrows) := ⟨rfl, rfl, rfl, by decide +kernel, rfl, by decide +kernel, by decide +kernel⟩
theorem sc_qnestrows : FnScope ["text", "between", "reader", "word", "stop"] ["text", "between"] (defScope s_qnestrows) := ⟨rfl, rfl, rfl, by decide +kernel, rfl, by decide +kernel, by decide +kernel⟩
theorem sc_qdeepest : FnScope ["rows"] ["rows"] (defScope s_qdeepest) := ⟨rfl, rfl, rfl, by decide +kernel, rfl, by decide +kernel, by decide +kernel⟩
theorem sc_qtakenoff : FnScope ["ready", "count", "taken"] ["ready", "count"] (defScope s_qtakenoff) := ⟨rfl, rfl, rfl, by decide +kernel, rfl, by decide +kernel, by decide +kernel⟩
theorem sc_qshownode : FnScope ["name", "mark"] ["name", "mark"] (defScope s_qshownode) := ⟨rfl, rfl, rfl, by decide +kernel, rfl, by decide +kernel, by decide +kernel⟩
theorem sc_qshowtree : FnScope ["tree", "shown"] ["tree"] (defScope s_qshowtree) := ⟨rfl, rfl, rfl, by decide +kernel, rfl, by decide +kernel, by decide +kernel⟩
theorem sc_qreadnode : FnScope ["word", "halves"] ["word"] (defScope s_qreadnode) := ⟨rfl, rfl, rfl, by decide +kernel, rfl, by decide +kernel, by decide +kernel⟩
theorem sc_qreadtree : FnScope ["text", "rows", "ready", "word", "count", "level", "branches"] ["text"] (defScope s_qreadtree) := ⟨rfl, rfl, rfl, by decide +kernel, rfl, by decide +kernel, by decide +kernel⟩
theorem sc_qword : FnScope ["_law_cell", "_law_k", "_law_letters", "_law_words", "_law_long", "_law_at", "_law_fill"] ["_law_cell", "_law_k"] (defScope s_qword) := ⟨rfl, rfl, rfl, by decide +kernel, rfl, by decide +kernel, by decide +kernel⟩
theorem sc_qwhole : FnScope ["_law_found"] ["_law_found"] (defScope s_qwhole) := ⟨rfl, rfl, rfl, by decide +kernel, rfl, by decide +kernel, by decide +kernel⟩
theorem sc_qsame : FnScope ["_law_found", "_law_due", "_law_one", "_law_other"] ["_law_found", "_law_due"] (defScope s_qsame) := ⟨rfl, rfl, rfl, by decide +kernel, rfl, by decide +kernel, by decide +kernel⟩
theorem sc_qbuilt : FnScope ["_law_script", "_law_word_here", "_law_most", "_law_rows", "_law_cell", "_law_number", "_law_up", "_law_mark", "_law_made", "_law_k"] ["_law_script", "_law_word_here", "_law_most"] (defScope s_qbuilt) := ⟨rfl, rfl, rfl, by decide +kernel, rfl, by decide +kernel, by decide +kernel⟩
theorem sc_qwritten : FnScope ["_law_tree", "_law_told"] ["_law_tree"] (defScope s_qwritten) := ⟨rfl, rfl, rfl, by decide +kernel, rfl, by decide +kernel, by decide +kernel⟩
theorem sc_qends : FnScope ["_law_text", "_law_found", "_law_k", "_law_here"] ["_law_text"] (defScope s_qends) := ⟨rfl, rfl, rfl, by decide +kernel, rfl, by decide +kernel, by decide +kernel⟩
theorem sc_qput : FnScope ["_law_text", "_law_at", "_law_new"] ["_law_text", "_law_at", "_law_new"] (defScope s_qput) := ⟨rfl, rfl, rfl, by decide +kernel, rfl, by decide +kernel, by decide +kernel⟩
theorem sc_qoddsign : FnScope ["_law_text", "_law_cell", "_law_odd"] ["_law_text", "_law_cell"] (defScope s_qoddsign) := ⟨rfl, rfl, rfl, by decide +kernel, rfl, by decide +kernel, by decide +kernel⟩
theorem sc_qatbracket : FnScope ["_law_text", "_law_way", "_law_cell", "_law_some", "_law_at"] ["_law_text", "_law_way", "_law_cell"] (defScope s_qatbracket) := ⟨rfl, rfl, rfl, by decide +kernel, rfl, by decide +kernel, by decide +kernel⟩
theorem sc_qatname : FnScope ["_law_text", "_law_way", "_law_cell", "_law_some", "_law_at", "_law_marked"] ["_law_text", "_law_way", "_law_cell"] (defScope s_qatname) := ⟨rfl, rfl, rfl, by decide +kernel, rfl, by decide +kernel, by decide +kernel⟩
theorem sc_qfaulty : FnScope ["_law_text", "_law_way", "_law_cell"] ["_law_text", "_law_way", "_law_cell"] (defScope s_qfaulty) := ⟨rfl, rfl, rfl, by decide +kernel, rfl, by decide +kernel, by decide +kernel⟩
theorem sc_qwide : FnScope ["_law_many", "_law_cell", "_law_some"] ["_law_many", "_law_cell"] (defScope s_qwide) := ⟨rfl, rfl, rfl, by decide +kernel, rfl, by decide +kernel, by decide +kernel⟩
theorem sc_qdeep : FnScope ["_law_level", "_law_cell", "_law_tree", "_law_k"] ["_law_level", "_law_cell"] (defScope s_qdeep) := ⟨rfl, rfl, rfl, by decide +kernel, rfl, by decide +kernel, by decide +kernel⟩
theorem sc_qrefused : FnScope ["_law_text", "_law_great", "_law_own", "error"] ["_law_text", "_law_great"] (defScope s_qrefused) := ⟨rfl, rfl, rfl, by decide +kernel, rfl, by decide +kernel, by decide +kernel⟩
theorem sc_law : FnScope ["_law_script", "_law_seed", "_law_cell", "_law_tree", "_law_text", "_law_k", "_law_edge", "_law_great", "_law_shown"] ["_law_script"] (defScope s_law) := ⟨rfl, rfl, rfl, by decide +kernel, rfl, by decide +kernel, by decide +kernel⟩
structure Adr where
  qisname : Addr
  d_qisname : FuncData
  qisnumber : Addr
  d_qisnumber : FuncData
  qpieces : Addr
  d_qpieces : FuncData
  qinit : Addr
  d_qinit : FuncData
  qaddrow : Addr
  d_qaddrow : FuncData
  qbegin : Addr
  d_qbegin : FuncData
  qendword : Addr
  d_qendword : FuncData
  qcountin : Addr
  d_qcountin : FuncData
  qclosebracket : Addr
  d_qclosebracket : FuncData
  qallrows : Addr
  d_qallrows : FuncData
  qnestrows : Addr
  d_qnestrows : FuncData
  qdeepest : Addr
  d_qdeepest : FuncData
  qtakenoff : Addr
  d_qtakenoff : FuncData
  qshownode : Addr
  d_qshownode : FuncData
  qshowtree : Addr
  d_qshowtree : FuncData
  qreadnode : Addr
  d_qreadnode : FuncData
  qreadtree : Addr
  d_qreadtree : FuncData
  qword : Addr
  d_qword : FuncData
  qwhole : Addr
  d_qwhole : FuncData
  qsame : Addr
  d_qsame : FuncData
  qbuilt : Addr
  d_qbuilt : FuncData
  qwritten : Addr
  d_qwritten : FuncData
  qends : Addr
  d_qends : FuncData
  qput : Addr
  d_qput : FuncData
  qoddsign : Addr
  d_qoddsign : FuncData
  qatbracket : Addr
  d_qatbracket : FuncData
  qatname : Addr
  d_qatname : FuncData
  qfaulty : Addr
  d_qfaulty : FuncData
  qwide : Addr
  d_qwide : FuncData
  qdeep : Addr
  d_qdeep : FuncData
  qrefused : Addr
  d_qrefused : FuncData
  law : Addr
  d_law : FuncData
  t_MOST_LETTERS : Tok
  t_MOST_FIGURES : Tok
  t_MOST_NODES : Tok
  t_MOST_DEEP : Tok
  t_LETTERS : Tok
  t_FIGURES : Tok
  k_LeafError : Addr
  k_NoText : Addr
  k_TooGreat : Addr
  k_NoName : Addr
  k_NoRule : Addr
  k_NoKind : Addr
  k_NoTree : Addr
  k_NoPlace : Addr
  k_NoGiven : Addr
  k_NoWalk : Addr
  k_Ring : Addr
  k_NestReader : Addr
structure Tx (K : PySem.W.Frag) (mg : Str → Option Value) (T : Adr) : Prop where
  F_qisname : Fun K "is_name" "is_name" s_qisname T.qisname T.d_qisname
  b_qisname : Binds K T.d_qisname ["word"] []
  m_qisname : mg "is_name" = some (.ref T.qisname)
  F_qisnumber : Fun K "is_number" "is_number" s_qisnumber T.qisnumber T.d_qisnumber
  b_qisnumber : Binds K T.d_qisnumber ["word"] []
  m_qisnumber : mg "is_number" = some (.ref T.qisnumber)
  F_qpieces : Fun K "pieces" "pieces" s_qpieces T.qpieces T.d_qpieces
  b_qpieces : Binds K T.d_qpieces ["text", "stops"] []
  m_qpieces : mg "pieces" = some (.ref T.qpieces)
  F_qinit : Fun K "__init__" "NestReader.__init__" s_qinit T.qinit T.d_qinit
  b_qinit : Binds K T.d_qinit ["self"] []
  h_qinit : Meth K T.k_NestReader "__init__" T.qinit
  F_qaddrow : Fun K "add_row" "NestReader.add_row" s_qaddrow T.qaddrow T.d_qaddrow
  b_qaddrow : Binds K T.d_qaddrow ["self", "word", "count"] []
  h_qaddrow : Meth K T.k_NestReader "add_row" T.qaddrow
  F_qbegin : Fun K "begin" "NestReader.begin" s_qbegin T.qbegin T.d_qbegin
  b_qbegin : Binds K T.d_qbegin ["self", "word"] []
  h_qbegin : Meth K T.k_NestReader "begin" T.qbegin
  F_qendword : Fun K "end_word" "NestReader.end_word" s_qendword T.qendword T.d_qendword
  b_qendword : Binds K T.d_qendword ["self", "word"] []
  h_qendword : Meth K T.k_NestReader "end_word" T.qendword
  F_qcountin : Fun K "count_in" "NestReader.count_in" s_qcountin T.qcountin T.d_qcountin
  b_qcountin : Binds K T.d_qcountin ["self"] []
  h_qcountin : Meth K T.k_NestReader "count_in" T.qcountin
  F_qclosebracket : Fun K "close_bracket" "NestReader.close_bracket" s_qclosebracket T.qclosebracket T.d_qclosebracket
  b_qclosebracket : Binds K T.d_qclosebracket ["self"] []
  h_qclosebracket : Meth K T.k_NestReader "close_bracket" T.qclosebracket
  F_qallrows : Fun K "all_rows" "NestReader.all_rows" s_qallrows T.qallrows T.d_qallrows
  b_qallrows : Binds K T.d_qallrows ["self"] []
  h_qallrows : Meth K T.k_NestReader "all_rows" T.qallrows
  F_qnestrows : Fun K "nest_rows" "nest_rows" s_qnestrows T.qnestrows T.d_qnestrows
  b_qnestrows : Binds K T.d_qnestrows ["text", "between"] []
  m_qnestrows : mg "nest_rows" = some (.ref T.qnestrows)
  F_qdeepest : Fun K "deepest" "deepest" s_qdeepest T.qdeepest T.d_qdeepest
  b_qdeepest : Binds K T.d_qdeepest ["rows"] []
  m_qdeepest : mg "deepest" = some (.ref T.qdeepest)
  F_qtakenoff : Fun K "taken_off" "taken_off" s_qtakenoff T.qtakenoff T.d_qtakenoff
  b_qtakenoff : Binds K T.d_qtakenoff ["ready", "count"] []
  m_qtakenoff : mg "taken_off" = some (.ref T.qtakenoff)
  F_qshownode : Fun K "show_node" "show_node" s_qshownode T.qshownode T.d_qshownode
  b_qshownode : Binds K T.d_qshownode ["name", "mark"] []
  m_qshownode : mg "show_node" = some (.ref T.qshownode)
  F_qshowtree : Fun K "show_tree" "show_tree" s_qshowtree T.qshowtree T.d_qshowtree
  b_qshowtree : Binds K T.d_qshowtree ["tree"] []
  m_qshowtree : mg "show_tree" = some (.ref T.qshowtree)
  F_qreadnode : Fun K "read_node" "read_node" s_qreadnode T.qreadnode T.d_qreadnode
  b_qreadnode : Binds K T.d_qreadnode ["word"] []
  m_qreadnode : mg "read_node" = some (.ref T.qreadnode)
  F_qreadtree : Fun K "read_tree" "read_tree" s_qreadtree T.qreadtree T.d_qreadtree
  b_qreadtree : Binds K T.d_qreadtree ["text"] []
  m_qreadtree : mg "read_tree" = some (.ref T.qreadtree)
  F_qword : Fun K "_law_word" "_law_word" s_qword T.qword T.d_qword
  b_qword : Binds K T.d_qword ["_law_cell", "_law_k"] []
  m_qword : mg "_law_word" = some (.ref T.qword)
  F_qwhole : Fun K "_law_whole" "_law_whole" s_qwhole T.qwhole T.d_qwhole
  b_qwhole : Binds K T.d_qwhole ["_law_found"] []
  m_qwhole : mg "_law_whole" = some (.ref T.qwhole)
  F_qsame : Fun K "_law_same" "_law_same" s_qsame T.qsame T.d_qsame
  b_qsame : Binds K T.d_qsame ["_law_found", "_law_due"] []
  m_qsame : mg "_law_same" = some (.ref T.qsame)
  F_qbuilt : Fun K "_law_built" "_law_built" s_qbuilt T.qbuilt T.d_qbuilt
  b_qbuilt : Binds K T.d_qbuilt ["_law_script", "_law_word_here", "_law_most"] []
  m_qbuilt : mg "_law_built" = some (.ref T.qbuilt)
  F_qwritten : Fun K "_law_written" "_law_written" s_qwritten T.qwritten T.d_qwritten
  b_qwritten : Binds K T.d_qwritten ["_law_tree"] []
  m_qwritten : mg "_law_written" = some (.ref T.qwritten)
  F_qends : Fun K "_law_ends" "_law_ends" s_qends T.qends T.d_qends
  b_qends : Binds K T.d_qends ["_law_text"] []
  m_qends : mg "_law_ends" = some (.ref T.qends)
  F_qput : Fun K "_law_put" "_law_put" s_qput T.qput T.d_qput
  b_qput : Binds K T.d_qput ["_law_text", "_law_at", "_law_new"] []
  m_qput : mg "_law_put" = some (.ref T.qput)
  F_qoddsign : Fun K "_law_odd_sign" "_law_odd_sign" s_qoddsign T.qoddsign T.d_qoddsign
  b_qoddsign : Binds K T.d_qoddsign ["_law_text", "_law_cell"] []
  m_qoddsign : mg "_law_odd_sign" = some (.ref T.qoddsign)
  F_qatbracket : Fun K "_law_at_bracket" "_law_at_bracket" s_qatbracket T.qatbracket T.d_qatbracket
  b_qatbracket : Binds K T.d_qatbracket ["_law_text", "_law_way", "_law_cell"] []
  m_qatbracket : mg "_law_at_bracket" = some (.ref T.qatbracket)
  F_qatname : Fun K "_law_at_name" "_law_at_name" s_qatname T.qatname T.d_qatname
  b_qatname : Binds K T.d_qatname ["_law_text", "_law_way", "_law_cell"] []
  m_qatname : mg "_law_at_name" = some (.ref T.qatname)
  F_qfaulty : Fun K "_law_faulty" "_law_faulty" s_qfaulty T.qfaulty T.d_qfaulty
  b_qfaulty : Binds K T.d_qfaulty ["_law_text", "_law_way", "_law_cell"] []
  m_qfaulty : mg "_law_faulty" = some (.ref T.qfaulty)
  F_qwide : Fun K "_law_wide" "_law_wide" s_qwide T.qwide T.d_qwide
  b_qwide : Binds K T.d_qwide ["_law_many", "_law_cell"] []
  m_qwide : mg "_law_wide" = some (.ref T.qwide)
  F_qdeep : Fun K "_law_deep" "_law_deep" s_qdeep T.qdeep T.d_qdeep
  b_qdeep : Binds K T.d_qdeep ["_law_level", "_law_cell"] []
  m_qdeep : mg "_law_deep" = some (.ref T.qdeep)
  F_qrefused : Fun K "_law_refused" "_law_refused" s_qrefused T.qrefused T.d_qrefused
  b_qrefused : Binds K T.d_qrefused ["_law_text", "_law_great"] []
  m_qrefused : mg "_law_refused" = some (.ref T.qrefused)
  F_law : Fun K "law" "law" s_law T.law T.d_law
  b_law : Binds K T.d_law ["_law_script"] []
  m_law : mg "law" = some (.ref T.law)
  z_ValueError : mg "ValueError" = none
  z_all : mg "all" = none
  z_bool : mg "bool" = none
  z_enumerate : mg "enumerate" = none
  z_int : mg "int" = none
  z_isinstance : mg "isinstance" = none
  z_len : mg "len" = none
  z_max : mg "max" = none
  z_range : mg "range" = none
  z_reversed : mg "reversed" = none
  z_str : mg "str" = none
  z_tuple : mg "tuple" = none
  z_zip : mg "zip" = none
  c_MOST_LETTERS : mg "MOST_LETTERS" = some (.int 8 T.t_MOST_LETTERS)
  c_MOST_FIGURES : mg "MOST_FIGURES" = some (.int 18 T.t_MOST_FIGURES)
  c_MOST_NODES : mg "MOST_NODES" = some (.int 60 T.t_MOST_NODES)
  c_MOST_DEEP : mg "MOST_DEEP" = some (.int 20 T.t_MOST_DEEP)
  c_LETTERS : mg "LETTERS" = some (.str "abcdefghijklmnopqrstuvwxyz" T.t_LETTERS)
  c_FIGURES : mg "FIGURES" = some (.str "0123456789" T.t_FIGURES)
  m_LeafError : mg "LeafError" = some (.ref T.k_LeafError)
  e_LeafError : ExcC K T.k_LeafError
  m_NoText : mg "NoText" = some (.ref T.k_NoText)
  e_NoText : ExcC K T.k_NoText
  x_NoText : XCls K T.k_NoText
  u_NoText_LeafError : PySem.W.mroIn K T.k_NoText (.ref T.k_LeafError) = some true
  i_NoText_0 : PySem.W.kitOne K (.ref T.k_NoText) (.ref T.k_NoText) = some true
  i_NoText_1 : PySem.W.kitOne K (.ref T.k_NoText) (.ref T.k_TooGreat) = some false
  i_NoText_2 : PySem.W.kitOne K (.ref T.k_NoText) (.type "ValueError") = some true
  i_NoText_3 : PySem.W.kitAny K (.ref T.k_NoText) [.ref T.k_NoName, .ref T.k_NoRule, .ref T.k_NoKind, .ref T.k_NoTree, .ref T.k_NoPlace, .ref T.k_NoGiven, .ref T.k_NoWalk, .ref T.k_Ring] = some false
  m_TooGreat : mg "TooGreat" = some (.ref T.k_TooGreat)
  e_TooGreat : ExcC K T.k_TooGreat
  x_TooGreat : XCls K T.k_TooGreat
  u_TooGreat_LeafError : PySem.W.mroIn K T.k_TooGreat (.ref T.k_LeafError) = some true
  i_TooGreat_0 : PySem.W.kitOne K (.ref T.k_TooGreat) (.ref T.k_NoText) = some false
  i_TooGreat_1 : PySem.W.kitOne K (.ref T.k_TooGreat) (.ref T.k_TooGreat) = some true
  i_TooGreat_2 : PySem.W.kitOne K (.ref T.k_TooGreat) (.type "ValueError") = some true
  i_TooGreat_3 : PySem.W.kitAny K (.ref T.k_TooGreat) [.ref T.k_NoName, .ref T.k_NoRule, .ref T.k_NoKind, .ref T.k_NoTree, .ref T.k_NoPlace, .ref T.k_NoGiven, .ref T.k_NoWalk, .ref T.k_Ring] = some false
  m_NoName : mg "NoName" = some (.ref T.k_NoName)
  m_NoRule : mg "NoRule" = some (.ref T.k_NoRule)
  m_NoKind : mg "NoKind" = some (.ref T.k_NoKind)
  m_NoTree : mg "NoTree" = some (.ref T.k_NoTree)
  m_NoPlace : mg "NoPlace" = some (.ref T.k_NoPlace)
  m_NoGiven : mg "NoGiven" = some (.ref T.k_NoGiven)
  m_NoWalk : mg "NoWalk" = some (.ref T.k_NoWalk)
  m_Ring : mg "Ring" = some (.ref T.k_Ring)
  m_NestReader : mg "NestReader" = some (.ref T.k_NestReader)
  cl_NestReader : Cls K T.k_NestReader
  mk_NestReader : Mk K T.k_NestReader T.qinit
  n_rows : NoAttr K T.k_NestReader "rows"
  n_open_words : NoAttr K T.k_NestReader "open_words"
  n_inner_counts : NoAttr K T.k_NestReader "inner_counts"
  n_closed : NoAttr K T.k_NestReader "closed"
theorem tx_mk {K : PySem.W.Frag} {h : Heap} {mg : Str → Option Value} (X : K.In h) (G : h.Ns mainGlobals mg) {f0 f1 f2 f3 f4 f5 f6 f7 f8 f9 f10 f11 f12 f13 f14 f15 f16 f17 f18 f19 f20 f21 f22 f23 f24 f25 f26 f27 f28 f29 f30 f31 : Addr} {od0 an0 od1 an1 od2 an2 od3 an3 od4 an4 od5 an5 od6 an6 od7 an7 od8 an8 od9 an9 od10 an10 od11 an11 od12 an12 od13 an13 od14 an14 od15 an15 od16 an16 od17 an17 od18 an18 od19 an19 od20 an20 od21 an21 od22 an22 od23 an23 od24 an24 od25 an25 od26 an26 od27 an27 od28 an28 od29 an29 od30 an30 od31 an31 : Option Addr} {sl0 sl1 sl2 sl3 sl4 sl5 sl6 sl7 sl8 sl9 sl10 sl11 sl12 sl13 sl14 sl15 sl16 sl17 sl18 sl19 sl20 sl21 sl22 sl23 sl24 sl25 sl26 sl27 sl28 sl29 sl30 sl31 : Array (Option Value)}
    {oc0 kV0 dc0 pm0 cd0 ct0 oc1 kV1 dc1 pm1 cd1 ct1 oc2 kV2 dc2 pm2 cd2 ct2 oc3 kV3 dc3 pm3 cd3 ct3 oc4 kV4 dc4 pm4 cd4 ct4 oc5 kV5 dc5 pm5 cd5 ct5 oc6 kV6 dc6 pm6 cd6 ct6 oc7 kV7 dc7 pm7 cd7 ct7 oc8 kV8 dc8 pm8 cd8 ct8 oc9 kV9 dc9 pm9 cd9 ct9 oc10 kV10 dc10 pm10 cd10 ct10 oc11 kV11 dc11 pm11 cd11 ct11 oc12 kV12 dc12 pm12 cd12 ct12 oc13 kV13 dc13 pm13 cd13 ct13 oc14 kV14 dc14 pm14 cd14 ct14 oc15 kV15 dc15 pm15 cd15 ct15 oc16 kV16 dc16 pm16 cd16 ct16 oc17 kV17 dc17 pm17 cd17 ct17 oc18 kV18 dc18 pm18 cd18 ct18 oc19 kV19 dc19 pm19 cd19 ct19 oc20 kV20 dc20 pm20 cd20 ct20 oc21 kV21 dc21 pm21 cd21 ct21 oc22 kV22 dc22 pm22 cd22 ct22 oc23 kV23 dc23 pm23 cd23 ct23 oc24 kV24 dc24 pm24 cd24 ct24 oc25 kV25 dc25 pm25 cd25 ct25 oc26 kV26 dc26 pm26 cd26 ct26 oc27 kV27 dc27 pm27 cd27 ct27 oc28 kV28 dc28 pm28 cd28 ct28 oc29 kV29 dc29 pm29 cd29 ct29 oc30 kV30 dc30 pm30 cd30 ct30 oc31 kV31 dc31 pm31 cd31 ct31 : Value} {t_MOST_LETTERS t_MOST_FIGURES t_MOST_NODES t_MOST_DEEP t_LETTERS t_FIGURES : Tok}
    {k_LeafError k_NoText k_TooGreat k_NoName k_NoRule k_NoKind k_NoTree k_NoPlace k_NoGiven k_NoWalk k_Ring k_NestReader : Addr}
    (m_LeafError : PySem.W.nsIn K mainGlobals "LeafError" = some (some (.ref k_LeafError)))
    (m_NoText : PySem.W.nsIn K mainGlobals "NoText" = some (some (.ref k_NoText)))
    (m_TooGreat : PySem.W.nsIn K mainGlobals "TooGreat" = some (some (.ref k_TooGreat)))
    (m_NoName : PySem.W.nsIn K mainGlobals "NoName" = some (some (.ref k_NoName)))
    (m_NoRule : PySem.W.nsIn K mainGlobals "NoRule" = some (some (.ref k_NoRule)))
    (m_NoKind : PySem.W.nsIn K mainGlobals "NoKind" = some (some (.ref k_NoKind)))
    (m_NoTree : PySem.W.nsIn K mainGlobals "NoTree" = some (some (.ref k_NoTree)))
    (m_NoPlace : PySem.W.nsIn K mainGlobals "NoPlace" = some (some (.ref k_NoPlace)))
    (m_NoGiven : PySem.W.nsIn K mainGlobals "NoGiven" = some (some (.ref k_NoGiven)))
    (m_NoWalk : PySem.W.nsIn K mainGlobals "NoWalk" = some (some (.ref k_NoWalk)))
    (m_Ring : PySem.W.nsIn K mainGlobals "Ring" = some (some (.ref k_Ring)))
    (m_NestReader : PySem.W.nsIn K mainGlobals "NestReader" = some (some (.ref k_NestReader)))
    (a0 : PySem.W.nsIn K mainGlobals "is_name" = some (some (.ref f0))) (l0 : K.lookup f0 = some ⟨oc0, od0, .func (PySem.W.fnOf "is_name" "is_name" (defArgs s_qisname) (defBody s_qisname) (defScope s_qisname) .none kV0 dc0 pm0 an0 cd0 ct0), sl0⟩) (c0 : PySem.W.codeIn K cd0 "is_name" = true) (k0 : PySem.W.keepIn K (.ref f0) = true)
    (a1 : PySem.W.nsIn K mainGlobals "is_number" = some (some (.ref f1))) (l1 : K.lookup f1 = some ⟨oc1, od1, .func (PySem.W.fnOf "is_number" "is_number" (defArgs s_qisnumber) (defBody s_qisnumber) (defScope s_qisnumber) .none kV1 dc1 pm1 an1 cd1 ct1), sl1⟩) (c1 : PySem.W.codeIn K cd1 "is_number" = true) (k1 : PySem.W.keepIn K (.ref f1) = true)
    (a2 : PySem.W.nsIn K mainGlobals "pieces" = some (some (.ref f2))) (l2 : K.lookup f2 = some ⟨oc2, od2, .func (PySem.W.fnOf "pieces" "pieces" (defArgs s_qpieces) (defBody s_qpieces) (defScope s_qpieces) .none kV2 dc2 pm2 an2 cd2 ct2), sl2⟩) (c2 : PySem.W.codeIn K cd2 "pieces" = true) (k2 : PySem.W.keepIn K (.ref f2) = true)
    (a3 : PySem.W.findIn K (.ref k_NestReader) "__init__" = some (some (.ref f3))) (i3 : PySem.W.isFn K (.ref f3) = true) (l3 : K.lookup f3 = some ⟨oc3, od3, .func (PySem.W.fnOf "__init__" "NestReader.__init__" (defArgs s_qinit) (defBody s_qinit) (defScope s_qinit) .none kV3 dc3 pm3 an3 cd3 ct3), sl3⟩) (c3 : PySem.W.codeIn K cd3 "NestReader.__init__" = true) (k3 : PySem.W.keepIn K (.ref f3) = true)
    (a4 : PySem.W.findIn K (.ref k_NestReader) "add_row" = some (some (.ref f4))) (i4 : PySem.W.isFn K (.ref f4) = true) (l4 : K.lookup f4 = some ⟨oc4, od4, .func (PySem.W.fnOf "add_row" "NestReader.add_row" (defArgs s_qaddrow) (defBody s_qaddrow) (defScope s_qaddrow) .none kV4 dc4 pm4 an4 cd4 ct4), sl4⟩) (c4 : PySem.W.codeIn K cd4 "NestReader.add_row" = true) (k4 : PySem.W.keepIn K (.ref f4) = true)
    (a5 : PySem.W.findIn K (.ref k_NestReader) "begin" = some (some (.ref f5))) (i5 : PySem.W.isFn K (.ref f5) = true) (l5 : K.lookup f5 = some ⟨oc5, od5, .func (PySem.W.fnOf "begin" "NestReader.begin" (defArgs s_qbegin) (defBody s_qbegin) (defScope s_qbegin) .none kV5 dc5 pm5 an5 cd5 ct5), sl5⟩) (c5 : PySem.W.codeIn K cd5 "NestReader.begin" = true) (k5 : PySem.W.keepIn K (.ref f5) = true)
    (a6 : PySem.W.findIn K (.ref k_NestReader) "end_word" = some (some (.ref f6))) (i6 : PySem.W.isFn K (.ref f6) = true) (l6 : K.lookup f6 = some ⟨oc6, od6, .func (PySem.W.fnOf "end_word" "NestReader.end_word" (defArgs s_qendword) (defBody s_qendword) (defScope s_qendword) .none kV6 dc6 pm6 an6 cd6 ct6), sl6⟩) (c6 : PySem.W.codeIn K cd6 "NestReader.end_word" = true) (k6 : PySem.W.keepIn K (.ref f6) = true)
    (a7 : PySem.W.findIn K (.ref k_NestReader) "count_in" = some (some (.ref f7))) (i7 : PySem.W.isFn K (.ref f7) = true) (l7 : K.lookup f7 = some ⟨oc7, od7, .func (PySem.W.fnOf "count_in" "NestReader.count_in" (defArgs s_qcountin) (defBody s_qcountin) (defScope s_qcountin) .none kV7 dc7 pm7 an7 cd7 ct7), sl7⟩) (c7 : PySem.W.codeIn K cd7 "NestReader.count_in" = true) (k7 : PySem.W.keepIn K (.ref f7) = true)
    (a8 : PySem.W.findIn K (.ref k_NestReader) "close_bracket" = some (some (.ref f8))) (i8 : PySem.W.isFn K (.ref f8) = true) (l8 : K.lookup f8 = some ⟨oc8, od8, .func (PySem.W.fnOf "close_bracket" "NestReader.close_bracket" (defArgs s_qclosebracket) (defBody s_qclosebracket) (defScope s_qclosebracket) .none kV8 dc8 pm8 an8 cd8 ct8), sl8⟩) (c8 : PySem.W.codeIn K cd8 "NestReader.close_bracket" = true) (k8 : PySem.W.keepIn K (.ref f8) = true)
    (a9 : PySem.W.findIn K (.ref k_NestReader) "all_rows" = some (some (.ref f9))) (i9 : PySem.W.isFn K (.ref f9) = true) (l9 : K.lookup f9 = some ⟨oc9, od9, .func (PySem.W.fnOf "all_rows" "NestReader.all_rows" (defArgs s_qallrows) (defBody s_qallrows) (defScope s_qallrows) .none kV9 dc9 pm9 an9 cd9 ct9), sl9⟩) (c9 : PySem.W.codeIn K cd9 "NestReader.all_rows" = true) (k9 : PySem.W.keepIn K (.ref f9) = true)
    (a10 : PySem.W.nsIn K mainGlobals "nest_rows" = some (some (.ref f10))) (l10 : K.lookup f10 = some ⟨oc10, od10, .func (PySem.W.fnOf "nest_rows" "nest_rows" (defArgs s_qnestrows) (defBody s_qnestrows) (defScope s_qnestrows) .none kV10 dc10 pm10 an10 cd10 ct10), sl10⟩) (c10 : PySem.W.codeIn K cd10 "nest_rows" = true) (k10 : PySem.W.keepIn K (.ref f10) = true)
    (a11 : PySem.W.nsIn K mainGlobals "deepest" = some (some (.ref f11))) (l11 : K.lookup f11 = some ⟨oc11, od11, .func (PySem.W.fnOf "deepest" "deepest" (defArgs s_qdeepest) (defBody s_qdeepest) (defScope s_qdeepest) .none kV11 dc11 pm11 an11 cd11 ct11), sl11⟩) (c11 : PySem.W.codeIn K cd11 "deepest" = true) (k11 : PySem.W.keepIn K (.ref f11) = true)
    (a12 : PySem.W.nsIn K mainGlobals "taken_off" = some (some (.ref f12))) (l12 : K.lookup f12 = some ⟨oc12, od12, .func (PySem.W.fnOf "taken_off" "taken_off" (defArgs s_qtakenoff) (defBody s_qtakenoff) (defScope s_qtakenoff) .none kV12 dc12 pm12 an12 cd12 ct12), sl12⟩) (c12 : PySem.W.codeIn K cd12 "taken_off" = true) (k12 : PySem.W.keepIn K (.ref f12) = true)
    (a13 : PySem.W.nsIn K mainGlobals "show_node" = some (some (.ref f13))) (l13 : K.lookup f13 = some ⟨oc13, od13, .func (PySem.W.fnOf "show_node" "show_node" (defArgs s_qshownode) (defBody s_qshownode) (defScope s_qshownode) .none kV13 dc13 pm13 an13 cd13 ct13), sl13⟩) (c13 : PySem.W.codeIn K cd13 "show_node" = true) (k13 : PySem.W.keepIn K (.ref f13) = true)
    (a14 : PySem.W.nsIn K mainGlobals "show_tree" = some (some (.ref f14))) (l14 : K.lookup f14 = some ⟨oc14, od14, .func (PySem.W.fnOf "show_tree" "show_tree" (defArgs s_qshowtree) (defBody s_qshowtree) (defScope s_qshowtree) .none kV14 dc14 pm14 an14 cd14 ct14), sl14⟩) (c14 : PySem.W.codeIn K cd14 "show_tree" = true) (k14 : PySem.W.keepIn K (.ref f14) = true)
    (a15 : PySem.W.nsIn K mainGlobals "read_node" = some (some (.ref f15))) (l15 : K.lookup f15 = some ⟨oc15, od15, .func (PySem.W.fnOf "read_node" "read_node" (defArgs s_qreadnode) (defBody s_qreadnode) (defScope s_qreadnode) .none kV15 dc15 pm15 an15 cd15 ct15), sl15⟩) (c15 : PySem.W.codeIn K cd15 "read_node" = true) (k15 : PySem.W.keepIn K (.ref f15) = true)
    (a16 : PySem.W.nsIn K mainGlobals "read_tree" = some (some (.ref f16))) (l16 : K.lookup f16 = some ⟨oc16, od16, .func (PySem.W.fnOf "read_tree" "read_tree" (defArgs s_qreadtree) (defBody s_qreadtree) (defScope s_qreadtree) .none kV16 dc16 pm16 an16 cd16 ct16), sl16⟩) (c16 : PySem.W.codeIn K cd16 "read_tree" = true) (k16 : PySem.W.keepIn K (.ref f16) = true)
    (a17 : PySem.W.nsIn K mainGlobals "_law_word" = some (some (.ref f17))) (l17 : K.lookup f17 = some ⟨oc17, od17, .func (PySem.W.fnOf "_law_word" "_law_word" (defArgs s_qword) (defBody s_qword) (defScope s_qword) .none kV17 dc17 pm17 an17 cd17 ct17), sl17⟩) (c17 : PySem.W.codeIn K cd17 "_law_word" = true) (k17 : PySem.W.keepIn K (.ref f17) = true)
    (a18 : PySem.W.nsIn K mainGlobals "_law_whole" = some (some (.ref f18))) (l18 : K.lookup f18 = some ⟨oc18, od18, .func (PySem.W.fnOf "_law_whole" "_law_whole" (defArgs s_qwhole) (defBody s_qwhole) (defScope s_qwhole) .none kV18 dc18 pm18 an18 cd18 ct18), sl18⟩) (c18 : PySem.W.codeIn K cd18 "_law_whole" = true) (k18 : PySem.W.keepIn K (.ref f18) = true)
    (a19 : PySem.W.nsIn K mainGlobals "_law_same" = some (some (.ref f19))) (l19 : K.lookup f19 = some ⟨oc19, od19, .func (PySem.W.fnOf "_law_same" "_law_same" (defArgs s_qsame) (defBody s_qsame) (defScope s_qsame) .none kV19 dc19 pm19 an19 cd19 ct19), sl19⟩) (c19 : PySem.W.codeIn K cd19 "_law_same" = true) (k19 : PySem.W.keepIn K (.ref f19) = true)
    (a20 : PySem.W.nsIn K mainGlobals "_law_built" = some (some (.ref f20))) (l20 : K.lookup f20 = some ⟨oc20, od20, .func (PySem.W.fnOf "_law_built" "_law_built" (defArgs s_qbuilt) (defBody s_qbuilt) (defScope s_qbuilt) .none kV20 dc20 pm20 an20 cd20 ct20), sl20⟩) (c20 : PySem.W.codeIn K cd20 "_law_built" = true) (k20 : PySem.W.keepIn K (.ref f20) = true)
    (a21 : PySem.W.nsIn K mainGlobals "_law_written" = some (some (.ref f21))) (l21 : K.lookup f21 = some ⟨oc21, od21, .func (PySem.W.fnOf "_law_written" "_law_written" (defArgs s_qwritten) (defBody s_qwritten) (defScope s_qwritten) .none kV21 dc21 pm21 an21 cd21 ct21), sl21⟩) (c21 : PySem.W.codeIn K cd21 "_law_written" = true) (k21 : PySem.W.keepIn K (.ref f21) = true)
    (a22 : PySem.W.nsIn K mainGlobals "_law_ends" = some (some (.ref f22))) (l22 : K.lookup f22 = some ⟨oc22, od22, .func (PySem.W.fnOf "_law_ends" "_law_ends" (defArgs s_qends) (defBody s_qends) (defScope s_qends) .none kV22 dc22 pm22 an22 cd22 ct22), sl22⟩) (c22 : PySem.W.codeIn K cd22 "_law_ends" = true) (k22 : PySem.W.keepIn K (.ref f22) = true)
    (a23 : PySem.W.nsIn K mainGlobals "_law_put" = some (some (.ref f23))) (l23 : K.lookup f23 = some ⟨oc23, od23, .func (PySem.W.fnOf "_law_put" "_law_put" (defArgs s_qput) (defBody s_qput) (defScope s_qput) .none kV23 dc23 pm23 an23 cd23 ct23), sl23⟩) (c23 : PySem.W.codeIn K cd23 "_law_put" = true) (k23 : PySem.W.keepIn K (.ref f23) = true)
    (a24 : PySem.W.nsIn K mainGlobals "_law_odd_sign" = some (some (.ref f24))) (l24 : K.lookup f24 = some ⟨oc24, od24, .func (PySem.W.fnOf "_law_odd_sign" "_law_odd_sign" (defArgs s_qoddsign) (defBody s_qoddsign) (defScope s_qoddsign) .none kV24 dc24 pm24 an24 cd24 ct24), sl24⟩) (c24 : PySem.W.codeIn K cd24 "_law_odd_sign" = true) (k24 : PySem.W.keepIn K (.ref f24) = true)
    (a25 : PySem.W.nsIn K mainGlobals "_law_at_bracket" = some (some (.ref f25))) (l25 : K.lookup f25 = some ⟨oc25, od25, .func (PySem.W.fnOf "_law_at_bracket" "_law_at_bracket" (defArgs s_qatbracket) (defBody s_qatbracket) (defScope s_qatbracket) .none kV25 dc25 pm25 an25 cd25 ct25), sl25⟩) (c25 : PySem.W.codeIn K cd25 "_law_at_bracket" = true) (k25 : PySem.W.keepIn K (.ref f25) = true)
    (a26 : PySem.W.nsIn K mainGlobals "_law_at_name" = some (some (.ref f26))) (l26 : K.lookup f26 = some ⟨oc26, od26, .func (PySem.W.fnOf "_law_at_name" "_law_at_name" (defArgs s_qatname) (defBody s_qatname) (defScope s_qatname) .none kV26 dc26 pm26 an26 cd26 ct26), sl26⟩) (c26 : PySem.W.codeIn K cd26 "_law_at_name" = true) (k26 : PySem.W.keepIn K (.ref f26) = true)
    (a27 : PySem.W.nsIn K mainGlobals "_law_faulty" = some (some (.ref f27))) (l27 : K.lookup f27 = some ⟨oc27, od27, .func (PySem.W.fnOf "_law_faulty" "_law_faulty" (defArgs s_qfaulty) (defBody s_qfaulty) (defScope s_qfaulty) .none kV27 dc27 pm27 an27 cd27 ct27), sl27⟩) (c27 : PySem.W.codeIn K cd27 "_law_faulty" = true) (k27 : PySem.W.keepIn K (.ref f27) = true)
    (a28 : PySem.W.nsIn K mainGlobals "_law_wide" = some (some (.ref f28))) (l28 : K.lookup f28 = some ⟨oc28, od28, .func (PySem.W.fnOf "_law_wide" "_law_wide" (defArgs s_qwide) (defBody s_qwide) (defScope s_qwide) .none kV28 dc28 pm28 an28 cd28 ct28), sl28⟩) (c28 : PySem.W.codeIn K cd28 "_law_wide" = true) (k28 : PySem.W.keepIn K (.ref f28) = true)
    (a29 : PySem.W.nsIn K mainGlobals "_law_deep" = some (some (.ref f29))) (l29 : K.lookup f29 = some ⟨oc29, od29, .func (PySem.W.fnOf "_law_deep" "_law_deep" (defArgs s_qdeep) (defBody s_qdeep) (defScope s_qdeep) .none kV29 dc29 pm29 an29 cd29 ct29), sl29⟩) (c29 : PySem.W.codeIn K cd29 "_law_deep" = true) (k29 : PySem.W.keepIn K (.ref f29) = true)
    (a30 : PySem.W.nsIn K mainGlobals "_law_refused" = some (some (.ref f30))) (l30 : K.lookup f30 = some ⟨oc30, od30, .func (PySem.W.fnOf "_law_refused" "_law_refused" (defArgs s_qrefused) (defBody s_qrefused) (defScope s_qrefused) .none kV30 dc30 pm30 an30 cd30 ct30), sl30⟩) (c30 : PySem.W.codeIn K cd30 "_law_refused" = true) (k30 : PySem.W.keepIn K (.ref f30) = true)
    (a31 : PySem.W.nsIn K mainGlobals "law" = some (some (.ref f31))) (l31 : K.lookup f31 = some ⟨oc31, od31, .func (PySem.W.fnOf "law" "law" (defArgs s_law) (defBody s_law) (defScope s_law) .none kV31 dc31 pm31 an31 cd31 ct31), sl31⟩) (c31 : PySem.W.codeIn K cd31 "law" = true) (k31 : PySem.W.keepIn K (.ref f31) = true)
    (z_ValueError : PySem.W.nsIn K mainGlobals "ValueError" = some none)
    (z_all : PySem.W.nsIn K mainGlobals "all" = some none)
    (z_bool : PySem.W.nsIn K mainGlobals "bool" = some none)
    (z_enumerate : PySem.W.nsIn K mainGlobals "enumerate" = some none)
    (z_int : PySem.W.nsIn K mainGlobals "int" = some none)
    (z_isinstance : PySem.W.nsIn K mainGlobals "isinstance" = some none)
    (z_len : PySem.W.nsIn K mainGlobals "len" = some none)
    (z_max : PySem.W.nsIn K mainGlobals "max" = some none)
    (z_range : PySem.W.nsIn K mainGlobals "range" = some none)
    (z_reversed : PySem.W.nsIn K mainGlobals "reversed" = some none)
    (z_str : PySem.W.nsIn K mainGlobals "str" = some none)
    (z_tuple : PySem.W.nsIn K mainGlobals "tuple" = some none)
    (z_zip : PySem.W.nsIn K mainGlobals "zip" = some none)
    (c_MOST_LETTERS : PySem.W.nsIn K mainGlobals "MOST_LETTERS" = some (some (.int 8 t_MOST_LETTERS)))
    (c_MOST_FIGURES : PySem.W.nsIn K mainGlobals "MOST_FIGURES" = some (some (.int 18 t_MOST_FIGURES)))
    (c_MOST_NODES : PySem.W.nsIn K mainGlobals "MOST_NODES" = some (some (.int 60 t_MOST_NODES)))
    (c_MOST_DEEP : PySem.W.nsIn K mainGlobals "MOST_DEEP" = some (some (.int 20 t_MOST_DEEP)))
    (c_LETTERS : PySem.W.nsIn K mainGlobals "LETTERS" = some (some (.str "abcdefghijklmnopqrstuvwxyz" t_LETTERS)))
    (c_FIGURES : PySem.W.nsIn K mainGlobals "FIGURES" = some (some (.str "0123456789" t_FIGURES)))
    (e_LeafError : PySem.W.excIn K k_LeafError vbm "ValueError.__new__" = true)
    (e_NoText : PySem.W.excIn K k_NoText vbm "ValueError.__new__" = true)
    (xga_NoText : PySem.W.findIn K (.ref k_NoText) "__getattribute__" = some (some (.builtin "BaseException.__getattribute__")))
    (xgt_NoText : PySem.W.findIn K (.ref k_NoText) "__getattr__" = some none)
    (xca_NoText : PySem.W.findIn K (.ref k_NoText) "__class__" = some (some (.builtin "object.__class__")))
    (xsp_NoText : PySem.W.specialIn K (.builtin "object.__class__") "__get__" = some (some (.builtin "getset_descriptor.__get__")))
    (xtk_NoText : PySem.W.takesIn K (.builtin "object.__class__") = some true)
    (xmo_NoText : PySem.W.mroIn K k_NoText (.type "object") = some true)
    (xmb_NoText : PySem.W.mroIn K k_NoText (.type "BaseException") = some true)
    (u_NoText_LeafError : PySem.W.mroIn K k_NoText (.ref k_LeafError) = some true)
    (i_NoText_0 : PySem.W.kitOne K (.ref k_NoText) (.ref k_NoText) = some true)
    (i_NoText_1 : PySem.W.kitOne K (.ref k_NoText) (.ref k_TooGreat) = some false)
    (i_NoText_2 : PySem.W.kitOne K (.ref k_NoText) (.type "ValueError") = some true)
    (i_NoText_3 : PySem.W.kitAny K (.ref k_NoText) [.ref k_NoName, .ref k_NoRule, .ref k_NoKind, .ref k_NoTree, .ref k_NoPlace, .ref k_NoGiven, .ref k_NoWalk, .ref k_Ring] = some false)
    (e_TooGreat : PySem.W.excIn K k_TooGreat vbm "ValueError.__new__" = true)
    (xga_TooGreat : PySem.W.findIn K (.ref k_TooGreat) "__getattribute__" = some (some (.builtin "BaseException.__getattribute__")))
    (xgt_TooGreat : PySem.W.findIn K (.ref k_TooGreat) "__getattr__" = some none)
    (xca_TooGreat : PySem.W.findIn K (.ref k_TooGreat) "__class__" = some (some (.builtin "object.__class__")))
    (xsp_TooGreat : PySem.W.specialIn K (.builtin "object.__class__") "__get__" = some (some (.builtin "getset_descriptor.__get__")))
    (xtk_TooGreat : PySem.W.takesIn K (.builtin "object.__class__") = some true)
    (xmo_TooGreat : PySem.W.mroIn K k_TooGreat (.type "object") = some true)
    (xmb_TooGreat : PySem.W.mroIn K k_TooGreat (.type "BaseException") = some true)
    (u_TooGreat_LeafError : PySem.W.mroIn K k_TooGreat (.ref k_LeafError) = some true)
    (i_TooGreat_0 : PySem.W.kitOne K (.ref k_TooGreat) (.ref k_NoText) = some false)
    (i_TooGreat_1 : PySem.W.kitOne K (.ref k_TooGreat) (.ref k_TooGreat) = some true)
    (i_TooGreat_2 : PySem.W.kitOne K (.ref k_TooGreat) (.type "ValueError") = some true)
    (i_TooGreat_3 : PySem.W.kitAny K (.ref k_TooGreat) [.ref k_NoName, .ref k_NoRule, .ref k_NoKind, .ref k_NoTree, .ref k_NoPlace, .ref k_NoGiven, .ref k_NoWalk, .ref k_Ring] = some false)
    (opg_NestReader : PySem.W.plainGet K k_NestReader Str.empty = true)
    (ohd_NestReader : PySem.W.hasDictIn K k_NestReader = true)
    (opo_NestReader : PySem.W.plainOver K k_NestReader = true)
    (osa_NestReader : PySem.W.findIn K (.ref k_NestReader) "__setattr__" = some (some (.builtin "object.__setattr__")))
    (omk_NestReader : PySem.W.makesIn K k_NestReader = true)
    (okc_NestReader : PySem.W.keepIn K (.ref k_NestReader) = true)
    (n_rows : PySem.W.findIn K (.ref k_NestReader) "rows" = some none)
    (n_open_words : PySem.W.findIn K (.ref k_NestReader) "open_words" = some none)
    (n_inner_counts : PySem.W.findIn K (.ref k_NestReader) "inner_counts" = some none)
    (n_closed : PySem.W.findIn K (.ref k_NestReader) "closed" = some none)
    : ∃ T : Adr, Tx K mg T := by
  have F0 := fun_mk (st := s_qisname) l0 c0 k0
  have F1 := fun_mk (st := s_qisnumber) l1 c1 k1
  have F2 := fun_mk (st := s_qpieces) l2 c2 k2
  have F3 := fun_mk (st := s_qinit) l3 c3 k3
  have F4 := fun_mk (st := s_qaddrow) l4 c4 k4
  have F5 := fun_mk (st := s_qbegin) l5 c5 k5
  have F6 := fun_mk (st := s_qendword) l6 c6 k6
  have F7 := fun_mk (st := s_qcountin) l7 c7 k7
  have F8 := fun_mk (st := s_qclosebracket) l8 c8 k8
  have F9 := fun_mk (st := s_qallrows) l9 c9 k9
  have F10 := fun_mk (st := s_qnestrows) l10 c10 k10
  have F11 := fun_mk (st := s_qdeepest) l11 c11 k11
  have F12 := fun_mk (st := s_qtakenoff) l12 c12 k12
  have F13 := fun_mk (st := s_qshownode) l13 c13 k13
  have F14 := fun_mk (st := s_qshowtree) l14 c14 k14
  have F15 := fun_mk (st := s_qreadnode) l15 c15 k15
  have F16 := fun_mk (st := s_qreadtree) l16 c16 k16
  have F17 := fun_mk (st := s_qword) l17 c17 k17
  have F18 := fun_mk (st := s_qwhole) l18 c18 k18
  have F19 := fun_mk (st := s_qsame) l19 c19 k19
  have F20 := fun_mk (st := s_qbuilt) l20 c20 k20
  have F21 := fun_mk (st := s_qwritten) l21 c21 k21
  have F22 := fun_mk (st := s_qends) l22 c22 k22
  have F23 := fun_mk (st := s_qput) l23 c23 k23
  have F24 := fun_mk (st := s_qoddsign) l24 c24 k24
  have F25 := fun_mk (st := s_qatbracket) l25 c25 k25
  have F26 := fun_mk (st := s_qatname) l26 c26 k26
  have F27 := fun_mk (st := s_qfaulty) l27 c27 k27
  have F28 := fun_mk (st := s_qwide) l28 c28 k28
  have F29 := fun_mk (st := s_qdeep) l29 c29 k29
  have F30 := fun_mk (st := s_qrefused) l30 c30 k30
  have F31 := fun_mk (st := s_law) l31 c31 k31
  exact ⟨⟨f0, _, f1, _, f2, _, f3, _, f4, _, f5, _, f6, _, f7, _, f8, _, f9, _, f10, _, f11, _, f12, _, f13, _, f14, _, f15, _, f16, _, f17, _, f18, _, f19, _, f20, _, f21, _, f22, _, f23, _, f24, _, f25, _, f26, _, f27, _, f28, _, f29, _, f30, _, f31, _, t_MOST_LETTERS, t_MOST_FIGURES, t_MOST_NODES, t_MOST_DEEP, t_LETTERS, t_FIGURES, k_LeafError, k_NoText, k_TooGreat, k_NoName, k_NoRule, k_NoKind, k_NoTree, k_NoPlace, k_NoGiven, k_NoWalk, k_Ring, k_NestReader⟩, ⟨F0, bd1 (ps := ["word"]) F0 rfl (fun _ _ _ _ _ _ _ => rfl), PySem.W.mg_of X G a0, F1, bd1 (ps := ["word"]) F1 rfl (fun _ _ _ _ _ _ _ => rfl), PySem.W.mg_of X G a1, F2, bd2 (ps := ["text", "stops"]) F2 rfl (fun _ _ _ _ _ _ _ _ => rfl), PySem.W.mg_of X G a2, F3, bd1 (ps := ["self"]) F3 rfl (fun _ _ _ _ _ _ _ => rfl), ⟨a3, i3, k3⟩, F4, bd3 (ps := ["self", "word", "count"]) F4 rfl (fun _ _ _ _ _ _ _ _ _ => rfl), ⟨a4, i4, k4⟩, F5, bd2 (ps := ["self", "word"]) F5 rfl (fun _ _ _ _ _ _ _ _ => rfl), ⟨a5, i5, k5⟩, F6, bd2 (ps := ["self", "word"]) F6 rfl (fun _ _ _ _ _ _ _ _ => rfl), ⟨a6, i6, k6⟩, F7, bd1 (ps := ["self"]) F7 rfl (fun _ _ _ _ _ _ _ => rfl), ⟨a7, i7, k7⟩, F8, bd1 (ps := ["self"]) F8 rfl (fun _ _ _ _ _ _ _ => rfl), ⟨a8, i8, k8⟩, F9, bd1 (ps := ["self"]) F9 rfl (fun _ _ _ _ _ _ _ => rfl), ⟨a9, i9, k9⟩, F10, bd2 (ps := ["text", "between"]) F10 rfl (fun _ _ _ _ _ _ _ _ => rfl), PySem.W.mg_of X G a10, F11, bd1 (ps := ["rows"]) F11 rfl (fun _ _ _ _ _ _ _ => rfl), PySem.W.mg_of X G a11, F12, bd2 (ps := ["ready", "count"]) F12 rfl (fun _ _ _ _ _ _ _ _ => rfl), PySem.W.mg_of X G a12, F13, bd2 (ps := ["name", "mark"]) F13 rfl (fun _ _ _ _ _ _ _ _ => rfl), PySem.W.mg_of X G a13, F14, bd1 (ps := ["tree"]) F14 rfl (fun _ _ _ _ _ _ _ => rfl), PySem.W.mg_of X G a14, F15, bd1 (ps := ["word"]) F15 rfl (fun _ _ _ _ _ _ _ => rfl), PySem.W.mg_of X G a15, F16, bd1 (ps := ["text"]) F16 rfl (fun _ _ _ _ _ _ _ => rfl), PySem.W.mg_of X G a16, F17, bd2 (ps := ["_law_cell", "_law_k"]) F17 rfl (fun _ _ _ _ _ _ _ _ => rfl), PySem.W.mg_of X G a17, F18, bd1 (ps := ["_law_found"]) F18 rfl (fun _ _ _ _ _ _ _ => rfl), PySem.W.mg_of X G a18, F19, bd2 (ps := ["_law_found", "_law_due"]) F19 rfl (fun _ _ _ _ _ _ _ _ => rfl), PySem.W.mg_of X G a19, F20, bd3 (ps := ["_law_script", "_law_word_here", "_law_most"]) F20 rfl (fun _ _ _ _ _ _ _ _ _ => rfl), PySem.W.mg_of X G a20, F21, bd1 (ps := ["_law_tree"]) F21 rfl (fun _ _ _ _ _ _ _ => rfl), PySem.W.mg_of X G a21, F22, bd1 (ps := ["_law_text"]) F22 rfl (fun _ _ _ _ _ _ _ => rfl), PySem.W.mg_of X G a22, F23, bd3 (ps := ["_law_text", "_law_at", "_law_new"]) F23 rfl (fun _ _ _ _ _ _ _ _ _ => rfl), PySem.W.mg_of X G a23, F24, bd2 (ps := ["_law_text", "_law_cell"]) F24 rfl (fun _ _ _ _ _ _ _ _ => rfl), PySem.W.mg_of X G a24, F25, bd3 (ps := ["_law_text", "_law_way", "_law_cell"]) F25 rfl (fun _ _ _ _ _ _ _ _ _ => rfl), PySem.W.mg_of X G a25, F26, bd3 (ps := ["_law_text", "_law_way", "_law_cell"]) F26 rfl (fun _ _ _ _ _ _ _ _ _ => rfl), PySem.W.mg_of X G a26, F27, bd3 (ps := ["_law_text", "_law_way", "_law_cell"]) F27 rfl (fun _ _ _ _ _ _ _ _ _ => rfl), PySem.W.mg_of X G a27, F28, bd2 (ps := ["_law_many", "_law_cell"]) F28 rfl (fun _ _ _ _ _ _ _ _ => rfl), PySem.W.mg_of X G a28, F29, bd2 (ps := ["_law_level", "_law_cell"]) F29 rfl (fun _ _ _ _ _ _ _ _ => rfl), PySem.W.mg_of X G a29, F30, bd2 (ps := ["_law_text", "_law_great"]) F30 rfl (fun _ _ _ _ _ _ _ _ => rfl), PySem.W.mg_of X G a30, F31, bd1 (ps := ["_law_script"]) F31 rfl (fun _ _ _ _ _ _ _ => rfl), PySem.W.mg_of X G a31, PySem.W.mg_none_of X G z_ValueError, PySem.W.mg_none_of X G z_all, PySem.W.mg_none_of X G z_bool, PySem.W.mg_none_of X G z_enumerate, PySem.W.mg_none_of X G z_int, PySem.W.mg_none_of X G z_isinstance, PySem.W.mg_none_of X G z_len, PySem.W.mg_none_of X G z_max, PySem.W.mg_none_of X G z_range, PySem.W.mg_none_of X G z_reversed, PySem.W.mg_none_of X G z_str, PySem.W.mg_none_of X G z_tuple, PySem.W.mg_none_of X G z_zip, PySem.W.mg_of X G c_MOST_LETTERS, PySem.W.mg_of X G c_MOST_FIGURES, PySem.W.mg_of X G c_MOST_NODES, PySem.W.mg_of X G c_MOST_DEEP, PySem.W.mg_of X G c_LETTERS, PySem.W.mg_of X G c_FIGURES, PySem.W.mg_of X G m_LeafError, e_LeafError, PySem.W.mg_of X G m_NoText, e_NoText, ⟨e_NoText, xga_NoText, xgt_NoText, xca_NoText, xsp_NoText, xtk_NoText, xmo_NoText, xmb_NoText⟩, u_NoText_LeafError, i_NoText_0, i_NoText_1, i_NoText_2, i_NoText_3, PySem.W.mg_of X G m_TooGreat, e_TooGreat, ⟨e_TooGreat, xga_TooGreat, xgt_TooGreat, xca_TooGreat, xsp_TooGreat, xtk_TooGreat, xmo_TooGreat, xmb_TooGreat⟩, u_TooGreat_LeafError, i_TooGreat_0, i_TooGreat_1, i_TooGreat_2, i_TooGreat_3, PySem.W.mg_of X G m_NoName, PySem.W.mg_of X G m_NoRule, PySem.W.mg_of X G m_NoKind, PySem.W.mg_of X G m_NoTree, PySem.W.mg_of X G m_NoPlace, PySem.W.mg_of X G m_NoGiven, PySem.W.mg_of X G m_NoWalk, PySem.W.mg_of X G m_Ring, PySem.W.mg_of X G m_NestReader, ⟨opg_NestReader, ohd_NestReader, opo_NestReader, osa_NestReader⟩, ⟨omk_NestReader, a3, i3, okc_NestReader⟩, n_rows, n_open_words, n_inner_counts, n_closed⟩⟩
end K24
set_option Elab.async false
set_option linter.all false
set_option maxRecDepth 100000
set_option maxHeartbeats 4000000
namespace TR
open PySem L2 TM
inductive Tr where
  | node (nm : Str) (mk : Int) (bs : List Tr)
def Tr.nm : Tr → Str
  | .node n _ _ => n
def Tr.mk' : Tr → Int
  | .node _ m _ => m
def Tr.bs : Tr → List Tr
  | .node _ _ b => b
mutual
def size : Tr → Nat
  | .node _ _ bs => 1 + sizes bs
def sizes : List Tr → Nat
  | [] => 0
  | t :: ts => size t + sizes ts
end
mutual
def deep : Tr → Nat
  | .node _ _ bs => 1 + deeps bs
def deeps : List Tr → Nat
  | [] => 0
  | t :: ts => max (deep t) (deeps ts)
end
mutual
def TrIs (H : Hp) : Tr → V → Prop
  | .node nm mk bs, v => ∃ p b vs, v = .ref p ∧ H p = some (.tup [.str nm, .int mk, .ref b]) ∧ H b = some (.tup vs) ∧ TrsIs H bs vs
def TrsIs (H : Hp) : List Tr → List V → Prop
  | [], vs => vs = []
  | t :: ts, vs => ∃ v r, vs = v :: r ∧ TrIs H t v ∧ TrsIs H ts r
end
theorem trs_l2r {H : Hp} : ∀ {ts : List Tr} {vs : List V}, TrsIs H ts vs → L2R (TrIs H) ts vs
  | [], vs, h => by unfold TrsIs at h; subst h; exact .nil
  | t :: ts, vs, h => by unfold TrsIs at h; obtain ⟨v, r, rfl, h1, h2⟩ := h; exact .cons h1 (trs_l2r h2)
theorem trs_of {H : Hp} : ∀ {ts : List Tr} {vs : List V}, L2R (TrIs H) ts vs → TrsIs H ts vs
  | _, _, .nil => by unfold TrsIs; rfl
  | _, _, .cons x y => by unfold TrsIs; exact ⟨_, _, rfl, x, trs_of y⟩
mutual
theorem TrIs.same {H H' : Hp} (e : SameT H H') : ∀ (t : Tr) {v : V}, TrIs H t v → TrIs H' t v
  | .node nm mk bs, v, h => by
    unfold TrIs at h ⊢
    obtain ⟨p, b, vs, rfl, h1, h2, h3⟩ := h
    exact ⟨p, b, vs, rfl, e _ _ h1, e _ _ h2, TrsIs.same e bs h3⟩
theorem TrsIs.same {H H' : Hp} (e : SameT H H') : ∀ (ts : List Tr) {vs : List V}, TrsIs H ts vs → TrsIs H' ts vs
  | [], vs, h => by unfold TrsIs at h ⊢; exact h
  | t :: ts, vs, h => by
    unfold TrsIs at h ⊢
    obtain ⟨v, r, rfl, h1, h2⟩ := h
    exact ⟨v, r, rfl, TrIs.same e t h1, TrsIs.same e ts h2⟩
end
theorem TrIs.op {H : Hp} {t : Tr} {v : V} (h : TrIs H t v) : ∃ p b vs, v = .ref p ∧ H p = some (.tup [.str t.nm, .int t.mk', .ref b]) ∧ H b = some (.tup vs) ∧ L2R (TrIs H) t.bs vs := by
  cases t with
  | node nm mk bs =>
    unfold TrIs at h
    obtain ⟨p, b, vs, rfl, h1, h2, h3⟩ := h
    exact ⟨p, b, vs, rfl, h1, h2, trs_l2r h3⟩
theorem TrIs.cl {H : Hp} {nm : Str} {mk : Int} {bs : List Tr} {p b : Addr} {vs : List V} (h1 : H p = some (.tup [.str nm, .int mk, .ref b])) (h2 : H b = some (.tup vs)) (h3 : L2R (TrIs H) bs vs) : TrIs H (.node nm mk bs) (.ref p) := by
  unfold TrIs
  exact ⟨p, b, vs, rfl, h1, h2, trs_of h3⟩
theorem size_eq (t : Tr) : size t = 1 + sizes t.bs := by cases t; rw [size]; rfl
theorem deep_eq (t : Tr) : deep t = 1 + deeps t.bs := by cases t; rw [deep]; rfl
theorem sizes_mem : ∀ {ts : List Tr} {t : Tr}, t ∈ ts → size t ≤ sizes ts
  | [], _, h => nomatch h
  | x :: ts, t, h => by
    unfold sizes
    rcases List.mem_cons.mp h with rfl | h
    · omega
    · have := sizes_mem h; omega
theorem deeps_mem : ∀ {ts : List Tr} {t : Tr}, t ∈ ts → deep t ≤ deeps ts
  | [], _, h => nomatch h
  | x :: ts, t, h => by
    unfold deeps
    rcases List.mem_cons.mp h with rfl | h
    · omega
    · have := deeps_mem h; omega
theorem deeps_le {k : Nat} : ∀ {ts : List Tr}, (∀ t ∈ ts, deep t ≤ k) → deeps ts ≤ k
  | [], _ => by unfold deeps; exact Nat.zero_le _
  | x :: ts, h => by
    unfold deeps
    have := deeps_le fun t ht => h t (List.mem_cons_of_mem _ ht)
    have := h x List.mem_cons_self
    omega
theorem size_pos (t : Tr) : 1 ≤ size t := by rw [size_eq]; omega
theorem sizes_len : ∀ ts : List Tr, ts.length ≤ sizes ts
  | [] => Nat.zero_le _
  | t :: ts => by
    unfold sizes
    have := sizes_len ts
    have := size_pos t
    rw [List.length_cons]
    omega
theorem bs_len {t : Tr} {k : Nat} (h : size t ≤ k) : t.bs.length < k := by
  have := sizes_len t.bs
  rw [size_eq] at h
  omega
theorem size_br {t u : Tr} (h : u ∈ t.bs) : size u < size t := by
  have := sizes_mem h
  rw [size_eq t]
  omega
theorem deep_br {t u : Tr} (h : u ∈ t.bs) : deep u < deep t := by
  have := deeps_mem h
  rw [deep_eq t]
  omega
theorem sizes_map (f : Nat → Tr) : ∀ ks : List Nat, sizes (ks.map f) = (ks.map fun k => size (f k)).sum
  | [] => by rw [List.map_nil, sizes]; rfl
  | k :: ks => by rw [List.map_cons, sizes, sizes_map f ks, List.map_cons, List.sum_cons]
def sumTo : Nat → (Nat → Nat) → Nat
  | 0, _ => 0
  | n + 1, g => sumTo n g + g n
theorem sumTo_congr {g h : Nat → Nat} : ∀ {n : Nat}, (∀ i, i < n → g i = h i) → sumTo n g = sumTo n h
  | 0, _ => rfl
  | n + 1, e => by
    unfold sumTo
    rw [sumTo_congr fun i hi => e i (by omega), e n (by omega)]
theorem sumTo_bump {g h : Nat → Nat} {u c : Nat} : ∀ {n : Nat}, u < n → (∀ i, i < n → i ≠ u → h i = g i) → h u = g u + c → sumTo n h = sumTo n g + c
  | 0, hu, _, _ => absurd hu (by omega)
  | n + 1, hu, e, eu => by
    unfold sumTo
    by_cases hn : u = n
    · subst hn
      rw [sumTo_congr (g := h) (h := g) fun i hi => e i (by omega) (by omega), eu]
      omega
    · rw [sumTo_bump (n := n) (by omega) (fun i hi => e i (by omega)) eu, e n (by omega) (fun z => hn z.symm)]
      omega
theorem sumTo_add (g h : Nat → Nat) : ∀ n : Nat, sumTo n (fun i => g i + h i) = sumTo n g + sumTo n h
  | 0 => rfl
  | n + 1 => by
    show sumTo n (fun i => g i + h i) + (g n + h n) = sumTo n g + g n + (sumTo n h + h n)
    rw [sumTo_add g h n]
    omega
theorem sumTo_one : ∀ n : Nat, sumTo n (fun _ => 1) = n
  | 0 => rfl
  | n + 1 => by
    unfold sumTo
    rw [sumTo_one n]
theorem sumTo_at {g : Nat → Nat} : ∀ {n i : Nat}, i < n → g i ≤ sumTo n g
  | 0, i, h => absurd h (by omega)
  | n + 1, i, h => by
    unfold sumTo
    by_cases e : i = n
    · subst e; omega
    · have := sumTo_at (g := g) (n := n) (i := i) (by omega)
      omega
structure Rw where
  nm : Str
  ma : Int
  kd : List Nat
  lv : Nat
structure RwOk (most n : Nat) (R : Nat → Rw) : Prop where
  pos : 1 ≤ n
  tot : ∀ f : Nat → Nat, sumTo n (fun i => ((R i).kd.map f).sum) + f 0 = sumTo n f
  kid : ∀ i, i < n → ∀ j ∈ (R i).kd, i < j ∧ j < n ∧ (R j).lv = (R i).lv + 1
  lev : ∀ i, i < n → 1 ≤ (R i).lv ∧ (R i).lv ≤ most
  top : (R 0).lv = 1
  nms : ∀ i, i < n → NmOk (R i).nm
  mks : ∀ i, i < n → 0 ≤ (R i).ma ∧ (R i).ma < 1000000000000000000
def grow (R : Nat → Rw) (n u pos : Nat) (new : Rw) : Nat → Rw := fun i => if i = n then new else if i = u then { R u with kd := (R u).kd.take pos ++ n :: (R u).kd.drop pos } else R i
theorem grow_new {R : Nat → Rw} {n u pos : Nat} {new : Rw} : grow R n u pos new n = new := if_pos rfl
theorem grow_up {R : Nat → Rw} {n u pos : Nat} {new : Rw} (h : u < n) : grow R n u pos new u = { R u with kd := (R u).kd.take pos ++ n :: (R u).kd.drop pos } := by
  unfold grow
  rw [if_neg (by omega), if_pos rfl]
theorem grow_else {R : Nat → Rw} {n u pos i : Nat} {new : Rw} (h : i ≠ n) (h' : i ≠ u) : grow R n u pos new i = R i := by
  unfold grow
  rw [if_neg h, if_neg h']
theorem sum_ins (f : Nat → Nat) (xs : List Nat) (n pos : Nat) : ((xs.take pos ++ n :: xs.drop pos).map f).sum = (xs.map f).sum + f n := by
  have e : (xs.map f).sum = ((xs.take pos).map f).sum + ((xs.drop pos).map f).sum := by
    rw [← List.sum_append, ← List.map_append, List.take_append_drop]
  rw [List.map_append, List.sum_append, List.map_cons, List.sum_cons, e]
  omega
theorem RwOk.grow {most n : Nat} {R : Nat → Rw} (ok : RwOk most n R) {u pos : Nat} {nm : Str} {mk : Int} (hu : u < n) (hl : (R u).lv < most) (hn : NmOk nm) (h0 : 0 ≤ mk) (h1 : mk < 1000000000000000000) :
    RwOk most (n + 1) (grow R n u pos ⟨nm, mk, [], (R u).lv + 1⟩) := by
  have lv_same : ∀ i, i < n → (TR.grow R n u pos ⟨nm, mk, [], (R u).lv + 1⟩ i).lv = (R i).lv := fun i hi => by
    by_cases e : i = u
    · rw [e, grow_up hu]
    · rw [grow_else (by omega) e]
  refine ⟨by omega, fun f => ?_, fun i hi j hj => ?_, fun i hi => ?_, ?_, fun i hi => ?_, fun i hi => ?_⟩
  · have t := ok.tot f
    have b := sumTo_bump (g := fun i => ((R i).kd.map f).sum) (h := fun i => ((TR.grow R n u pos ⟨nm, mk, [], (R u).lv + 1⟩ i).kd.map f).sum) (c := f n) hu (fun i hi hne => by
      show ((TR.grow R n u pos ⟨nm, mk, [], (R u).lv + 1⟩ i).kd.map f).sum = ((R i).kd.map f).sum
      rw [grow_else (by omega) hne]) (by
      show ((TR.grow R n u pos ⟨nm, mk, [], (R u).lv + 1⟩ u).kd.map f).sum = _
      rw [grow_up hu]
      exact sum_ins f _ n pos)
    have e1 : ((TR.grow R n u pos ⟨nm, mk, [], (R u).lv + 1⟩ n).kd.map f).sum = 0 := by rw [grow_new]; rfl
    show sumTo n (fun i => ((TR.grow R n u pos ⟨nm, mk, [], (R u).lv + 1⟩ i).kd.map f).sum) + ((TR.grow R n u pos ⟨nm, mk, [], (R u).lv + 1⟩ n).kd.map f).sum + f 0 = sumTo n f + f n
    omega
  · by_cases e : i = n
    · rw [e, grow_new] at hj
      cases hj
    · by_cases eu : i = u
      · rw [eu, grow_up hu] at hj
        have hj : j ∈ (R u).kd.take pos ++ n :: (R u).kd.drop pos := hj
        have hj' : j ∈ (R u).kd ∨ j = n := by
          rcases List.mem_append.mp hj with h | h
          · exact .inl (List.mem_of_mem_take h)
          · rcases List.mem_cons.mp h with h | h
            · exact .inr h
            · exact .inl (List.mem_of_mem_drop h)
        rw [lv_same i (by omega)]
        rcases hj' with h | h
        · obtain ⟨a, b, c⟩ := ok.kid u hu j h
          rw [lv_same j b, eu]
          exact ⟨a, by omega, c⟩
        · rw [h, grow_new, eu]
          exact ⟨hu, by omega, rfl⟩
      · rw [grow_else e eu] at hj
        obtain ⟨a, b, c⟩ := ok.kid i (by omega) j hj
        rw [lv_same i (by omega), lv_same j b]
        exact ⟨a, by omega, c⟩
  · by_cases e : i = n
    · rw [e, grow_new]
      have := ok.lev u hu
      exact ⟨by show 1 ≤ (R u).lv + 1; omega, hl⟩
    · rw [lv_same i (by omega)]
      exact ok.lev i (by omega)
  · rw [lv_same 0 (by have := ok.pos; omega)]
    exact ok.top
  · by_cases e : i = n
    · rw [e, grow_new]; exact hn
    · by_cases eu : i = u
      · rw [eu, grow_up hu]; exact ok.nms u hu
      · rw [grow_else e eu]; exact ok.nms i (by omega)
  · by_cases e : i = n
    · rw [e, grow_new]; exact ⟨h0, h1⟩
    · by_cases eu : i = u
      · rw [eu, grow_up hu]; exact ok.mks u hu
      · rw [grow_else e eu]; exact ok.mks i (by omega)
theorem RwOk.one {most : Nat} {nm : Str} (h : 1 ≤ most) (hn : NmOk nm) {R : Nat → Rw} (e : R 0 = ⟨nm, 0, [], 1⟩) : RwOk most 1 R := by
  refine ⟨Nat.le_refl _, fun f => ?_, fun i hi j hj => ?_, fun i hi => ?_, by rw [e], fun i hi => ?_, fun i hi => ?_⟩
  · show 0 + ((R 0).kd.map f).sum + f 0 = 0 + f 0
    rw [e]
    simp
  all_goals
    have : i = 0 := by omega
    subst this
    rw [e] at *
  · cases hj
  · exact ⟨Nat.le_refl _, h⟩
  · exact hn
  · exact ⟨Int.le_refl _, by show (0 : Int) < 1000000000000000000; decide⟩
theorem RwOk.few {most n : Nat} {R : Nat → Rw} (ok : RwOk most n R) {i : Nat} (hi : i < n) : (R i).kd.length < n := by
  have t := ok.tot fun _ => 1
  rw [sumTo_one] at t
  have a := sumTo_at (g := fun i => ((R i).kd.map fun _ => 1).sum) hi
  have e : ((R i).kd.map fun _ => 1).sum = (R i).kd.length := by
    generalize (R i).kd = xs
    induction xs with
    | nil => rfl
    | cons x xs ih => rw [List.map_cons, List.sum_cons, ih, List.length_cons]; omega
  have a : ((R i).kd.map fun _ => 1).sum ≤ sumTo n (fun i => ((R i).kd.map fun _ => 1).sum) := a
  omega
theorem trees_of {most n : Nat} {R : Nat → Rw} (ok : RwOk most n R) : ∃ tr : Nat → Tr, ∀ i, i < n → tr i = .node (R i).nm (R i).ma ((R i).kd.map tr) := by
  have h : ∀ m, m ≤ n → ∃ tr : Nat → Tr, ∀ i, n - m ≤ i → i < n → tr i = .node (R i).nm (R i).ma ((R i).kd.map tr) := by
    intro m
    induction m with
    | zero => exact fun _ => ⟨fun _ => .node "" 0 [], fun i h1 h2 => absurd h2 (by omega)⟩
    | succ m ih =>
      intro hm
      obtain ⟨tr, ht⟩ := ih (by omega)
      refine ⟨fun i => if i = n - (m + 1) then .node (R i).nm (R i).ma ((R i).kd.map tr) else tr i, fun i h1 h2 => ?_⟩
      have keep : ∀ i, n - (m + 1) ≤ i → i < n → (R i).kd.map (fun i => if i = n - (m + 1) then Tr.node (R i).nm (R i).ma ((R i).kd.map tr) else tr i) = (R i).kd.map tr := fun i a b => List.map_congr_left fun j hj => by
        have := (ok.kid i b j hj).1
        show (if j = n - (m + 1) then _ else _) = _
        rw [if_neg (by omega)]
      rw [keep i h1 h2]
      by_cases e : i = n - (m + 1)
      · show (if i = n - (m + 1) then _ else _) = _
        rw [if_pos e]
      · show (if i = n - (m + 1) then _ else _) = _
        rw [if_neg e]
        exact ht i (by omega) h2
  obtain ⟨tr, ht⟩ := h n (Nat.le_refl _)
  exact ⟨tr, fun i hi => ht i (by omega) hi⟩
section
variable {most n : Nat} {R : Nat → Rw} {tr : Nat → Tr}
theorem tree_size (ok : RwOk most n R) (h : ∀ i, i < n → tr i = .node (R i).nm (R i).ma ((R i).kd.map tr)) : size (tr 0) = n := by
  have t := ok.tot fun j => size (tr j)
  have e : sumTo n (fun j => size (tr j)) = sumTo n (fun i => 1 + ((R i).kd.map fun j => size (tr j)).sum) := sumTo_congr fun i hi => by
    rw [h i hi, size, sizes_map]
  rw [sumTo_add, sumTo_one] at e
  omega
theorem tree_deep (ok : RwOk most n R) (h : ∀ i, i < n → tr i = .node (R i).nm (R i).ma ((R i).kd.map tr)) : ∀ m i, n - i ≤ m → i < n → deep (tr i) + (R i).lv ≤ most + 1 := by
  intro m
  induction m with
  | zero => intro i h1 h2; omega
  | succ m ih =>
    intro i h1 h2
    rw [h i h2, deep]
    have hl := (ok.lev i h2).2
    have : deeps ((R i).kd.map tr) ≤ most - (R i).lv := deeps_le fun t ht => by
      obtain ⟨j, hj, rfl⟩ := List.mem_map.mp ht
      obtain ⟨a, b, c⟩ := ok.kid i h2 j hj
      have := ih j (by omega) b
      omega
    omega
inductive Wt : Tr → Prop
  | node {nm : Str} {mk : Int} {bs : List Tr} : NmOk nm → 0 ≤ mk → mk < 1000000000000000000 → (∀ b ∈ bs, Wt b) → Wt (.node nm mk bs)
theorem tree_wt (ok : RwOk most n R) (h : ∀ i, i < n → tr i = .node (R i).nm (R i).ma ((R i).kd.map tr)) : ∀ m i, n - i ≤ m → i < n → Wt (tr i) := by
  intro m
  induction m with
  | zero => intro i h1 h2; omega
  | succ m ih =>
    intro i h1 h2
    rw [h i h2]
    refine .node (ok.nms i h2) (ok.mks i h2).1 (ok.mks i h2).2 fun b hb => ?_
    obtain ⟨j, hj, rfl⟩ := List.mem_map.mp hb
    obtain ⟨a, b, c⟩ := ok.kid i h2 j hj
    exact ih j (by omega) b
end
inductive Al (H : Hp) : Nat → V → V → Prop
  | str {n : Nat} (z : Str) : Al H n (.str z) (.str z)
  | int {n : Nat} (i : Int) : Al H n (.int i) (.int i)
  | tup {n : Nat} {a b : Addr} {xs ys : List V} : H a = some (.tup xs) → H b = some (.tup ys) → ys.length = xs.length → xs.length ≤ 1000 → (∀ (i : Nat) (x y : V), xs[i]? = some x → ys[i]? = some y → Al H n x y) → Al H (n + 1) (.ref a) (.ref b)
theorem Al.same {H H' : Hp} (s : Same H H') {n : Nat} {v u : V} (h : Al H n v u) : Al H' n v u := by
  induction h with
  | str z => exact .str z
  | int i => exact .int i
  | tup ha hb e hl _ ih => exact .tup (s _ _ ha) (s _ _ hb) e hl ih
theorem Al.mono {H : Hp} {n : Nat} {v u : V} (h : Al H n v u) : ∀ {m : Nat}, n ≤ m → Al H m v u := by
  induction h with
  | str z => exact fun _ => .str z
  | int i => exact fun _ => .int i
  | tup ha hb e hl _ ih =>
    intro m hm
    obtain ⟨k, rfl⟩ : ∃ k, m = k + 1 := ⟨m - 1, by omega⟩
    exact .tup ha hb e hl fun i x y hx hy => ih i x y hx hy (by omega)
theorem al_three {H : Hp} {n : Nat} {a b : Addr} {x1 x2 y1 y2 z1 z2 : V} (ha : H a = some (.tup [x1, y1, z1])) (hb : H b = some (.tup [x2, y2, z2])) (h1 : Al H n x1 x2) (h2 : Al H n y1 y2) (h3 : Al H n z1 z2) : Al H (n + 1) (.ref a) (.ref b) :=
  .tup ha hb rfl (by show 3 ≤ 1000; decide) fun i x y hx hy => by
    match i with
    | 0 => cases hx; cases hy; exact h1
    | 1 => cases hx; cases hy; exact h2
    | 2 => cases hx; cases hy; exact h3
    | i + 3 => simp at hx
mutual
theorem al_tr {H : Hp} : ∀ (t : Tr) {v u : V}, TrIs H t v → TrIs H t u → size t ≤ 1000 → Al H (2 * deep t) v u
  | .node nm mk bs, v, u, h, g, hz => by
    unfold TrIs at h g
    obtain ⟨p, b, vs, rfl, h1, h2, h3⟩ := h
    obtain ⟨p', b', vs', rfl, g1, g2, g3⟩ := g
    rw [deep]
    rw [size] at hz
    have q : 2 * (1 + deeps bs) = (2 * deeps bs + 1) + 1 := by omega
    rw [q]
    have l1 := (trs_l2r h3).len
    have l2 := (trs_l2r g3).len
    have l3 := sizes_len bs
    exact al_three h1 g1 (.str _) (.int _) (.tup h2 g2 (by omega) (by omega) fun i x y hx hy => al_trs bs h3 g3 (by omega) i hx hy)
theorem al_trs {H : Hp} : ∀ (ts : List Tr) {vs us : List V}, TrsIs H ts vs → TrsIs H ts us → sizes ts ≤ 1000 → ∀ (i : Nat) {x y : V}, vs[i]? = some x → us[i]? = some y → Al H (2 * deeps ts) x y
  | [], vs, us, h, g, hz, i, x, y, hx, hy => by unfold TrsIs at h; subst h; simp at hx
  | t :: ts, vs, us, h, g, hz, i, x, y, hx, hy => by
    unfold TrsIs at h g
    obtain ⟨v, r, rfl, h1, h2⟩ := h
    obtain ⟨v', r', rfl, g1, g2⟩ := g
    rw [sizes] at hz
    have e : 2 * deeps (t :: ts) = max (2 * deep t) (2 * deeps ts) := by rw [deeps]; omega
    rw [e]
    cases i with
    | zero =>
      simp at hx hy
      subst hx hy
      exact (al_tr t h1 g1 (by omega)).mono (by omega)
    | succ i => exact (al_trs ts h2 g2 (by omega) i (by simpa using hx) (by simpa using hy)).mono (by omega)
end
end TR
set_option Elab.async false
set_option linter.all false
set_option maxRecDepth 100000
set_option maxHeartbeats 4000000
namespace NS
open PySem L2 TM
inductive Ns where
  | n (w : List Nat) (ins : List Ns)
mutual
def txt (sep : Nat) : Ns → List Nat
  | .n w ins => w ++ brk sep ins
def brk (sep : Nat) : List Ns → List Nat
  | [] => []
  | i :: is => 40 :: (txt sep i ++ (txts sep is ++ [41]))
def txts (sep : Nat) : List Ns → List Nat
  | [] => []
  | i :: is => sep :: (txt sep i ++ txts sep is)
end
def inn (sep : Nat) : List Ns → List Nat
  | [] => []
  | i :: is => txt sep i ++ txts sep is
abbrev Row := Str × Nat × Nat
mutual
def rws (l : Nat) : Ns → List Row
  | .n w ins => rwss (l + 1) ins ++ [(mkS w, ins.length, l)]
def rwss (l : Nat) : List Ns → List Row
  | [] => []
  | i :: is => rws l i ++ rwss l is
end
def stp (sep c : Nat) : Bool := c == 40 || c == sep || c == 41
inductive Cl (sep : Nat) : Ns → Prop
  | n {w : List Nat} {ins : List Ns} : (∀ c ∈ w, stp sep c = false) → (∀ i ∈ ins, Cl sep i) → Cl sep (.n w ins)
def pcs (sep : Nat) (acc : List Nat) : List Nat → List (Str × Str)
  | [] => [(mkS acc, mkS [])]
  | c :: r => if stp sep c = true then (mkS acc, mkS [c]) :: pcs sep [] r else pcs sep (acc ++ [c]) r
theorem pcs_word (sep : Nat) {w : List Nat} : ∀ {acc r : List Nat}, (∀ c ∈ w, stp sep c = false) → pcs sep acc (w ++ r) = pcs sep (acc ++ w) r := by
  induction w with
  | nil => intro acc r _; rw [List.nil_append, List.append_nil]
  | cons c w ih =>
    intro acc r h
    rw [List.cons_append, pcs, if_neg (by rw [h c (by simp)]; decide), ih fun x hx => h x (by simp [hx]), List.append_assoc]
    rfl
theorem pcs_stop {sep c : Nat} {acc r : List Nat} (h : stp sep c = true) : pcs sep acc (c :: r) = (mkS acc, mkS [c]) :: pcs sep [] r := by rw [pcs, if_pos h]
theorem stp40 (sep : Nat) : stp sep 40 = true := by unfold stp; simp
theorem stp41 (sep : Nat) : stp sep 41 = true := by unfold stp; simp
theorem stpS (sep : Nat) : stp sep sep = true := by unfold stp; simp
theorem pcs_len (sep : Nat) : ∀ (z acc : List Nat), (pcs sep acc z).length ≤ z.length + 1
  | [], acc => by rw [pcs]; simp
  | c :: z, acc => by
    rw [pcs]
    split
    · rw [List.length_cons, List.length_cons]
      have := pcs_len sep z []
      omega
    · have := pcs_len sep z (acc ++ [c])
      rw [List.length_cons]
      omega
structure Ms where
  rs : List Row
  op : List (Str × Nat)
  cl : Bool
inductive Endd : Ms → Str → List Row → Prop
  | word {rs : List Row} {op : List (Str × Nat)} {w : Str} : Endd ⟨rs, op, false⟩ w (rs ++ [(w, 0, op.length + 1)])
  | again {rs : List Row} {op : List (Str × Nat)} : Endd ⟨rs, op, true⟩ (mkS []) rs
inductive Step (sep : Nat) : Ms → Str × Str → Ms → Prop
  | opn {rs : List Row} {op : List (Str × Nat)} {w : Str} : Step sep ⟨rs, op, false⟩ (w, mkS [40]) ⟨rs, op ++ [(w, 0)], false⟩
  | mid {rs rs' : List Row} {op : List (Str × Nat)} {cl : Bool} {o w : Str} {c : Nat} : Endd ⟨rs, op ++ [(o, c)], cl⟩ w rs' → Step sep ⟨rs, op ++ [(o, c)], cl⟩ (w, mkS [sep]) ⟨rs', op ++ [(o, c + 1)], false⟩
  | cls {rs rs' : List Row} {op : List (Str × Nat)} {cl : Bool} {o w : Str} {c : Nat} : Endd ⟨rs, op ++ [(o, c)], cl⟩ w rs' → Step sep ⟨rs, op ++ [(o, c)], cl⟩ (w, mkS [41]) ⟨rs' ++ [(o, c + 1, op.length + 1)], op, true⟩
  | fin {rs rs' : List Row} {op : List (Str × Nat)} {cl : Bool} {w : Str} : Endd ⟨rs, op, cl⟩ w rs' → Step sep ⟨rs, op, cl⟩ (w, mkS []) ⟨rs', op, cl⟩
def Run (sep : Nat) : Ms → List (Str × Str) → Ms → Prop
  | st, [], st' => st = st'
  | st, p :: ps, st' => ∃ st1, Step sep st p st1 ∧ Run sep st1 ps st'
def aft (rs : List Row) (op : List (Str × Nat)) (i : Ns) : Ms × List Nat :=
  match i with
  | .n w [] => (⟨rs, op, false⟩, w)
  | .n w (j :: js) => (⟨rs ++ rws (op.length + 1) (.n w (j :: js)), op, true⟩, [])
theorem aft_end (rs : List Row) (op : List (Str × Nat)) (i : Ns) : ∃ cl, (aft rs op i).1 = ⟨(aft rs op i).1.rs, op, cl⟩ ∧ Endd ⟨(aft rs op i).1.rs, op, cl⟩ (mkS (aft rs op i).2) (rs ++ rws (op.length + 1) i) := by
  match i with
  | .n w [] =>
    refine ⟨false, rfl, ?_⟩
    have e : rws (op.length + 1) (.n w []) = [(mkS w, 0, op.length + 1)] := by rw [rws, rwss]; rfl
    rw [e]
    exact .word
  | .n w (j :: js) => exact ⟨true, rfl, .again⟩
mutual
theorem run_one {sep : Nat} : ∀ (i : Ns), Cl sep i → ∀ (rs : List Row) (op : List (Str × Nat)) (r : List Nat) (st : Ms), Run sep (aft rs op i).1 (pcs sep (aft rs op i).2 r) st → Run sep ⟨rs, op, false⟩ (pcs sep [] (txt sep i ++ r)) st
  | .n w [], h, rs, op, r, st, g => by
    cases h with
    | n hw hi =>
      rw [txt, brk, List.append_nil, pcs_word sep hw]
      exact g
  | .n w (j :: js), h, rs, op, r, st, g => by
    cases h with
    | n hw hi =>
      rw [txt, brk, List.append_assoc, pcs_word sep hw, List.cons_append, pcs_stop (stp40 sep)]
      refine ⟨_, .opn, ?_⟩
      have et : (txt sep j ++ (txts sep js ++ [41])) ++ r = inn sep (j :: js) ++ ([41] ++ r) := by rw [inn]; simp
      rw [et]
      have e : rws (op.length + 1) (.n w (j :: js)) = rwss (op.length + 2) (j :: js) ++ [(mkS w, js.length + 1, op.length + 1)] := by rw [rws]; rfl
      have g' : Run sep ⟨rs ++ rws (op.length + 1) (.n w (j :: js)), op, true⟩ (pcs sep [] r) st := g
      rw [e, ← List.append_assoc] at g'
      refine run_some (j :: js) hi rs op (mkS w) 0 r st (List.cons_ne_nil _ _) ?_
      rw [Nat.zero_add]
      exact g'
theorem run_some {sep : Nat} : ∀ (js : List Ns), (∀ x ∈ js, Cl sep x) → ∀ (rs : List Row) (op : List (Str × Nat)) (o : Str) (c : Nat) (r : List Nat) (st : Ms), js ≠ [] →
    Run sep ⟨(rs ++ rwss (op.length + 2) js) ++ [(o, c + js.length, op.length + 1)], op, true⟩ (pcs sep [] r) st → Run sep ⟨rs, op ++ [(o, c)], false⟩ (pcs sep [] (inn sep js ++ ([41] ++ r))) st
  | [], hjs, rs, op, o, c, r, st, hn, g => absurd rfl hn
  | [j], hjs, rs, op, o, c, r, st, hn, g => by
    have hj := hjs j (by simp)
    rw [inn, txts, List.append_nil]
    refine run_one j hj rs (op ++ [(o, c)]) _ st ?_
    obtain ⟨cl, es, he⟩ := aft_end rs (op ++ [(o, c)]) j
    rw [List.cons_append, List.nil_append, pcs_stop (stp41 sep), es]
    refine ⟨_, .cls he, ?_⟩
    have e : rwss (op.length + 2) [j] = rws ((op ++ [(o, c)]).length + 1) j := by rw [rwss, rwss, List.append_nil, List.length_append]; rfl
    rw [e] at g
    exact g
  | j :: k :: ks, hjs, rs, op, o, c, r, st, hn, g => by
    have hj := hjs j (by simp)
    rw [inn, List.append_assoc]
    refine run_one j hj rs (op ++ [(o, c)]) _ st ?_
    obtain ⟨cl, es, he⟩ := aft_end rs (op ++ [(o, c)]) j
    rw [txts, List.cons_append, pcs_stop (stpS sep), es]
    refine ⟨_, .mid he, ?_⟩
    refine run_some (k :: ks) (fun x hx => hjs x (by simp [hx])) _ op o (c + 1) r st (List.cons_ne_nil _ _) ?_
    have e : rs ++ rwss (op.length + 2) (j :: k :: ks) = (rs ++ rws ((op ++ [(o, c)]).length + 1) j) ++ rwss (op.length + 2) (k :: ks) := by rw [rwss, List.append_assoc, List.length_append]; rfl
    have ec : c + (j :: k :: ks).length = c + 1 + (k :: ks).length := by rw [List.length_cons, List.length_cons]; omega
    rw [e, ec] at g
    exact g
end
theorem run_all {sep : Nat} {i : Ns} (h : Cl sep i) : ∃ cl, Run sep ⟨[], [], false⟩ (pcs sep [] (txt sep i)) ⟨rws 1 i, [], cl⟩ := by
  obtain ⟨cl, es, he⟩ := aft_end [] [] i
  refine ⟨cl, ?_⟩
  have g := run_one i h [] [] [] ⟨rws 1 i, [], cl⟩ ?_
  · rw [List.append_nil] at g
    exact g
  · rw [pcs, es]
    exact ⟨_, .fin he, rfl⟩
theorem endd_op {st : Ms} {w : Str} {rs : List Row} (h : Endd st w rs) : rs.length ≤ st.rs.length + 1 := by
  cases h with
  | word => rw [List.length_append]; simp
  | again => exact Nat.le_succ _
theorem step_wt {sep : Nat} {st st1 : Ms} {p : Str × Str} (h : Step sep st p st1) : st1.rs.length ≤ st.rs.length + 2 ∧ st1.op.length ≤ st.op.length + 1 := by
  cases h with
  | opn => simp
  | mid he => have := endd_op he; simp at this ⊢; omega
  | cls he => have := endd_op he; simp at this ⊢; omega
  | fin he => have := endd_op he; simp at this ⊢; omega
mutual
def many : Ns → Nat
  | .n _ ins => 1 + manys ins
def manys : List Ns → Nat
  | [] => 0
  | i :: is => many i + manys is
end
mutual
theorem rws_len : ∀ (i : Ns) {l : Nat}, (rws l i).length = many i
  | .n w ins, l => by rw [rws, many, List.length_append, rwss_len ins]; simp; omega
theorem rwss_len : ∀ (is : List Ns) {l : Nat}, (rwss l is).length = manys is
  | [], l => by rw [rwss, manys]; rfl
  | i :: is, l => by rw [rwss, manys, List.length_append, rws_len i, rwss_len is]
end
end NS
namespace TR
open PySem L2 TM NS
def ndT (nm : Str) (mk : Int) : List Nat := nm.cps.toList ++ if mk = 0 then [] else 58 :: (Str.ofString (toString mk)).cps.toList
mutual
def nsT : Tr → Ns
  | .node nm mk bs => .n (ndT nm mk) (nsTs bs)
def nsTs : List Tr → List Ns
  | [] => []
  | t :: ts => nsT t :: nsTs ts
end
theorem nsTs_len : ∀ ts : List Tr, (nsTs ts).length = ts.length
  | [] => by rw [nsTs]; rfl
  | t :: ts => by rw [nsTs, List.length_cons, List.length_cons, nsTs_len ts]
mutual
theorem many_T : ∀ t : Tr, many (nsT t) = size t
  | .node _ _ bs => by rw [nsT, many, size, many_Ts bs]
theorem many_Ts : ∀ ts : List Tr, manys (nsTs ts) = sizes ts
  | [] => by rw [nsTs, manys, sizes]
  | t :: ts => by rw [nsTs, manys, sizes, many_T t, many_Ts ts]
end
mutual
theorem lev_T : ∀ (t : Tr) {l : Nat} {x : Row}, x ∈ rws l (nsT t) → x.2.2 + 1 ≤ l + deep t
  | .node nm mk bs, l, x, h => by
    rw [nsT, rws] at h
    rw [deep]
    rcases List.mem_append.mp h with h | h
    · have := lev_Ts bs h
      omega
    · rw [List.mem_singleton.mp h]
      show l + 1 ≤ _
      omega
theorem lev_Ts : ∀ (ts : List Tr) {l : Nat} {x : Row}, x ∈ rwss l (nsTs ts) → x.2.2 + 1 ≤ l + deeps ts
  | [], l, x, h => by rw [nsTs, rwss] at h; cases h
  | t :: ts, l, x, h => by
    rw [nsTs, rwss] at h
    rw [deeps]
    rcases List.mem_append.mp h with h | h
    · have := lev_T t h
      omega
    · have := lev_Ts ts h
      omega
end
def RunT : List Tr → List Row → List Tr → Prop
  | S, [], S' => S = S'
  | S, x :: rs, S' => ∃ S0 bs nm mk, S = S0 ++ bs ∧ bs.length = x.2.1 ∧ Wt (.node nm mk bs) ∧ x.1 = mkS (ndT nm mk) ∧ RunT (S0 ++ [.node nm mk bs]) rs S'
theorem wt_bs {nm : Str} {mk : Int} {bs : List Tr} (h : Wt (.node nm mk bs)) : ∀ b ∈ bs, Wt b := by cases h with | node _ _ _ h => exact h
mutual
theorem runT_one : ∀ (t : Tr), Wt t → ∀ (l : Nat) (S S' : List Tr) (rs : List Row), RunT (S ++ [t]) rs S' → RunT S (rws l (nsT t) ++ rs) S'
  | .node nm mk bs, h, l, S, S', rs, g => by
    rw [nsT, rws, List.append_assoc]
    refine runT_some bs (wt_bs h) (l + 1) S S' _ ?_
    rw [List.cons_append, List.nil_append]
    exact ⟨S, bs, nm, mk, rfl, (nsTs_len bs).symm, h, rfl, g⟩
theorem runT_some : ∀ (ts : List Tr), (∀ t ∈ ts, Wt t) → ∀ (l : Nat) (S S' : List Tr) (rs : List Row), RunT (S ++ ts) rs S' → RunT S (rwss l (nsTs ts) ++ rs) S'
  | [], h, l, S, S', rs, g => by
    rw [nsTs, rwss, List.nil_append]
    rw [List.append_nil] at g
    exact g
  | t :: ts, h, l, S, S', rs, g => by
    rw [nsTs, rwss, List.append_assoc]
    refine runT_one t (h t (by simp)) l S S' _ ?_
    refine runT_some ts (fun x hx => h x (by simp [hx])) l (S ++ [t]) S' rs ?_
    rw [List.append_assoc]
    exact g
end
theorem runT_all {t : Tr} (h : Wt t) : RunT [] (rws 1 (nsT t)) [t] := by
  have := runT_one t h 1 [] [t] [] rfl
  rw [List.append_nil] at this
  exact this
end TR
set_option Elab.async false
set_option linter.all false
set_option maxRecDepth 100000
set_option maxHeartbeats 4000000
namespace K24
open PySem L2 NS TR
open TM
def inS (s : Str) (c : Nat) : Bool := !(Builtin.Str.occurrences s ⟨#[c]⟩ 0 s.length 1).isEmpty
abbrev S26 : Str := "abcdefghijklmnopqrstuvwxyz"
abbrev S10 : Str := "0123456789"
abbrev S3 : Str := "( )"
theorem in26 : ∀ c, c < 128 → letOk c = true → inS S26 c = true := by decide +kernel
theorem in10 : ∀ c, c < 128 → figOk c = true → inS S10 c = true := by decide +kernel
theorem in3 : ∀ c, c < 128 → inS S3 c = stp 32 c := by decide +kernel
theorem sgn_lt {c : Nat} (h : sgnOk c = true) : c < 128 := by
  unfold sgnOk letOk figOk at h
  simp only [Bool.or_eq_true, Bool.and_eq_true, decide_eq_true_eq] at h
  omega
theorem let_lt {c : Nat} (h : letOk c = true) : c < 128 := sgn_lt (by unfold sgnOk; rw [h]; rfl)
theorem fig_lt {c : Nat} (h : figOk c = true) : c < 128 := sgn_lt (by unfold sgnOk; rw [h, Bool.or_true])
def allB (s z : Str) : Bool := z.cps.toList.all fun c => inS s c
theorem all_yes {s z : Str} (h : ∀ c ∈ z.cps.toList, inS s c = true) : allB s z = true := List.all_eq_true.mpr h
def nmB (z : Str) : Bool := (decide (1 ≤ z.length) && decide (z.length ≤ 8)) && allB S26 z
def numB (z : Str) : Bool := (decide (1 ≤ z.length) && decide (z.length ≤ 18)) && (!(decide (z.cps.toList.head? = some 48) && !decide (z = "0")) && allB S10 z)
def spName : Sp := fun vs H Q _ => ∃ z, vs = [.str z] ∧ z.length ≤ 20000 ∧ ∀ H', Same H H' → Q (.bl (nmB z)) H'
def spNumber : Sp := fun vs H Q _ => ∃ z, vs = [.str z] ∧ z.length ≤ 20000 ∧ ∀ H', Same H H' → Q (.bl (numB z)) H'
theorem from_list {x : Str} {j : Nat} (h : j ≤ x.cps.toList.length) : (Txt.slice x (some (j : Int)) none).cps.toList = x.cps.toList.drop j := by
  have := PySem.StrLaws.sliceText_from (x := x) (i := (j : Int)) ⟨by omega, by omega⟩
  have e : Txt.slice x (some (j : Int)) none = PySem.StrLaws.sliceText x (some (j : Int)) none := rfl
  rw [e, this]
  simp
  rw [List.take_of_length_le (by simp)]
theorem from_list' {x : Str} {k : Int} (j : Nat) (e : k = (j : Int)) (h : j ≤ x.cps.toList.length) : (Txt.slice x (some k) none).cps.toList = x.cps.toList.drop j := by
  rw [e]
  exact from_list h
theorem atI_0 {l : List Nat} {c : Nat} (h : l.head? = some c) : atI l 0 = some c := by
  cases l with
  | nil => cases h
  | cons a r => exact (atI_head a r).trans h
theorem ifS_by {c : TT} {t u : TS} {D : Ends} {σ : St} {H : Hp} (A B : Hp → Prop) (hc : ∀ Q : Bool → Hp → Prop, (∀ H1, A H1 → Q true H1) → (∀ H1, B H1 → Q false H1) → c σ H Q) (h1 : ∀ H1, A H1 → t D σ H1) (h2 : ∀ H1, B H1 → u D σ H1) : tIfS c t u D σ H := by
  refine hc _ (fun H1 a => ?_) (fun H1 b => ?_)
  · exact iteT (h1 H1 a)
  · exact iteF (h2 H1 b)
theorem seq_ifS_by {c : TT} {t u rest : TS} {D : Ends} {σ : St} {H : Hp} (A B : Hp → Prop) (hc : ∀ Q : Bool → Hp → Prop, (∀ H1, A H1 → Q true H1) → (∀ H1, B H1 → Q false H1) → c σ H Q) (h1 : ∀ H1, A H1 → t { D with nx := rest D } σ H1) (h2 : ∀ H1, B H1 → u { D with nx := rest D } σ H1) : tSeq (tIfS c t u) rest D σ H := ifS_by A B hc h1 h2
theorem iteNe {c A B : Prop} [Decidable c] (h1 : ¬ c → A) (h2 : c → B) : if (!decide c) = true then A else B := by
  by_cases h : c
  · rw [decide_eq_true h]
    exact iteF (h2 h)
  · rw [decide_eq_false h]
    exact iteT (h1 h)
theorem iteNot {c : Bool} {A B : Prop} (h : c = true) (q : B) : if (!c) = true then A else B := by
  rw [h]
  exact iteF q
theorem one_eq {c d : Nat} : (V.str ⟨#[c]⟩ = V.str ⟨#[d]⟩) ↔ c = d := ⟨fun h => by
  have := congrArg (fun s : Str => s.cps.toList) (V.str.inj h)
  simpa using this, fun h => by rw [h]⟩
theorem nought : (Str.ofString "0") = ⟨#[48]⟩ := by decide
theorem head_of {l : List Nat} (h : l ≠ []) : ∃ c, l.head? = some c ∧ c ∈ l := by
  cases l with
  | nil => exact absurd rfl h
  | cons a r => exact ⟨a, rfl, by simp⟩
theorem ne_of_len {z : Str} (h : 1 ≤ z.length) : z.cps.toList ≠ [] := fun e => by
  rw [len_list, e] at h
  exact absurd h (by decide)
theorem num_str {n : Int} (h0 : 0 ≤ n) : allB S10 (Str.ofString (toString n)) = true := all_yes fun c hc => in10 c (fig_lt (num_figs h0 c hc)) (num_figs h0 c hc)
theorem app_len (a b : Str) : (a ++ b).length = a.length + b.length := by rw [len_list, len_list, len_list, app_list, List.length_append]
theorem mid_list {x : Str} {k l : Int} (a b : Nat) (ea : k = (a : Int)) (eb : l = (b : Int)) (hab : a ≤ b) (hb : b ≤ x.cps.toList.length) : (Txt.slice x (some k) (some l)).cps.toList = (x.cps.toList.take b).drop a := by
  subst ea eb
  have e : Txt.slice x (some (a : Int)) (some (b : Int)) = PySem.StrLaws.sliceText x (some (a : Int)) (some (b : Int)) := rfl
  rw [e, PySem.StrLaws.sliceText_nat x hab (by rw [len_list]; exact hb)]
  show ((x.cps.toList.drop a).take (b - a)).toArray.toList = _
  rw [List.toList_toArray, ← List.drop_take]
section
variable {P : Program} {w : World} {K : PySem.W.Frag} {mg : Str → Option Value} {base : Heap} {T : Adr}
theorem ok_name (X : Tx K mg T) : FnOk P w K mg base CX0 1 T.qisname T.d_qisname ["word"] spName := by
  refine X.F_qisname.okQ sc_qisname (fun vs H Q E h => ?_) (fun cdv A outer s H vs Q E hr h => ?_)
  · obtain ⟨_, rfl, _⟩ := h
    rfl
  obtain ⟨x, rfl, hx, q⟩ := h
  refine ⟨_, (qss_cons (qs_if (qt_not (qt_chain op_le op_le qe_int (qe_callB call_len_str rfl X.z_len PySem.boot_len (qaN (qv 0) qa_nil)) (qe_glob rfl X.c_MOST_LETTERS (v := V.int 8) ⟨_, rfl⟩))) (qss_one (qs_ret qe_bl)) qss_nil) (qss_one (qs_ret (qe_callB (call_all rfl) rfl X.z_all PyProof.Rows.boot_all (qaE (qe_comp (ys := []) (js := []) rfl rfl (qi_str (qv 0)) (fun _ _ _ _ _ => qif_nil) (fun _ _ _ _ _ => (qe_cmpR op_in_str (qv 0) (qe_glob rfl X.c_LETTERS (v := V.str "abcdefghijklmnopqrstuvwxyz") ⟨_, rfl⟩) rfl))) qa_nil))))), ?_⟩
  refine ⟨_, rfl, x, rfl, fits2 (by omega), _, _, rfl, rfl, _, rfl, iteDd (fun h1 => ⟨_, _, rfl, rfl, _, rfl, iteNe (fun h8 => ?_) (fun h8 => ?_)⟩) (fun h1 => ?_)⟩
  · have e : nmB x = false := by
      unfold nmB
      rw [decide_eq_false (show ¬ x.length ≤ 8 by omega), Bool.and_false, Bool.false_and]
    rw [e] at q
    exact q H (Same.refl _)
  · have e : nmB x = allB S26 x := by
      unfold nmB
      rw [decide_eq_true (show 1 ≤ x.length by omega), decide_eq_true (show x.length ≤ 8 by omega)]
      rfl
    rw [e] at q
    refine ⟨_, rfl, x, rfl, fun D hD => comp_strM (ys := x.cps.toList.map fun c => V.bl (inS S26 c)) (fitsL (by show x.length ≤ _; omega)) (by simp) hD (fun i c y H' hc hy sm Q' q' => ?_) (fun H' sm hl => ⟨D, x.cps.toList.map (inS S26), rfl, SqL.of (by rw [hl, List.map_map]; rfl), ?_⟩)⟩
    · refine ⟨_, rfl, _, _, rfl, rfl, ?_⟩
      have e : y = V.bl (inS S26 c) := by
        rw [List.getElem?_map, Array.getElem?_toList, hc] at hy
        exact (Option.some.inj hy).symm
      rw [e] at q'
      exact q' _ (Same.refl _)
    · have e : (x.cps.toList.map (inS S26)).all id = allB S26 x := by
        rw [List.all_map]
        rfl
      rw [e]
      exact q H' sm
  · have e : nmB x = false := by
      unfold nmB
      rw [decide_eq_false (show ¬ 1 ≤ x.length by omega), Bool.false_and, Bool.false_and]
    rw [e] at q
    exact ⟨_, rfl, iteY rfl (q H (Same.refl _))⟩
theorem ok_number (X : Tx K mg T) : FnOk P w K mg base CX0 1 T.qisnumber T.d_qisnumber ["word"] spNumber := by
  refine X.F_qisnumber.okQ sc_qisnumber (fun vs H Q E h => ?_) (fun cdv A outer s H vs Q E hr h => ?_)
  · obtain ⟨_, rfl, _⟩ := h
    rfl
  obtain ⟨x, rfl, hx, q⟩ := h
  refine ⟨_, (qss_cons (qs_if (qt_not (qt_chain op_le op_le qe_int (qe_callB call_len_str rfl X.z_len PySem.boot_len (qaN (qv 0) qa_nil)) (qe_glob rfl X.c_MOST_FIGURES (v := V.int 18) ⟨_, rfl⟩))) (qss_one (qs_ret qe_bl)) qss_nil) (qss_cons (qs_if (qw_pt (qw_and (qt_cmpR op_eq (qe_ix ix_str (qv 0) qe_int (fun _ _ => rfl)) qe_str (nomark _)) (qw_and1 (qt_cmpR op_ne (qv 0) qe_str (nomark _))))) (qss_one (qs_ret qe_bl)) qss_nil) (qss_one (qs_ret (qe_callB (call_all rfl) rfl X.z_all PyProof.Rows.boot_all (qaE (qe_comp (ys := []) (js := []) rfl rfl (qi_str (qv 0)) (fun _ _ _ _ _ => qif_nil) (fun _ _ _ _ _ => (qe_cmpR op_in_str (qv 0) (qe_glob rfl X.c_FIGURES (v := V.str "0123456789") ⟨_, rfl⟩) rfl))) qa_nil)))))), ?_⟩
  refine ⟨_, rfl, x, rfl, fits2 (by omega), _, _, rfl, rfl, _, rfl, iteDd (fun h1 => ⟨_, _, rfl, rfl, _, rfl, iteNe (fun h8 => ?_) (fun h8 => ?_)⟩) (fun h1 => ?_)⟩
  · have e : numB x = false := by
      unfold numB
      rw [decide_eq_false (show ¬ x.length ≤ 18 by omega), Bool.and_false, Bool.false_and]
    rw [e] at q
    exact q H (Same.refl _)
  · have e : numB x = (!(decide (x.cps.toList.head? = some 48) && !decide (x = "0")) && allB S10 x) := by
      unfold numB
      rw [decide_eq_true (show 1 ≤ x.length by omega), decide_eq_true (show x.length ≤ 18 by omega)]
      rfl
    rw [e] at q
    obtain ⟨c, hc, hm⟩ := head_of (ne_of_len (z := x) (by omega))
    unfold tNext
    dsimp only
    refine seq_ifS_by (fun H1 => Q (.bl false) H1) (fun H1 => H1 = H ∧ (decide (x.cps.toList.head? = some 48) && !decide (x = "0")) = false) (fun Q' qT qF => ?_) (fun H1 q => q) (fun H1 e => ?_)
    · refine ⟨_, rfl, x, 0, c, rfl, rfl, fits2 (by omega), atI_0 hc, rfl, _, rfl, iteDd (fun h => ?_) (fun h => qF H ⟨rfl, ?_⟩)⟩
      · have h48 : c = 48 := one_eq.mp (h.trans (by rw [nought]))
        refine ⟨_, rfl, rfl, _, rfl, ?_⟩
        by_cases hx0 : V.str x = V.str "0"
        · rw [decide_eq_true hx0]
          exact qF H ⟨rfl, by rw [decide_eq_true (V.str.inj hx0)]; simp⟩
        · rw [decide_eq_false hx0]
          refine qT H ?_
          have e2 : (decide (x.cps.toList.head? = some 48) && !decide (x = "0")) = true := by
            rw [hc, h48, decide_eq_true rfl, decide_eq_false (fun z => hx0 (by rw [z]))]
            rfl
          rw [e2] at q
          exact q H (Same.refl _)
      · have : ¬ x.cps.toList.head? = some 48 := fun z => h (by rw [hc] at z; rw [Option.some.inj z, nought])
        rw [decide_eq_false this]
        rfl
    · obtain ⟨rfl, e⟩ := e
      rw [e] at q
      refine ⟨_, rfl, x, rfl, fun D hD => comp_strM (ys := x.cps.toList.map fun c => V.bl (inS S10 c)) (fitsL (by show x.length ≤ _; omega)) (by simp) hD (fun i c y H' hc hy sm Q' q' => ?_) (fun H' sm hl => ⟨D, x.cps.toList.map (inS S10), rfl, SqL.of (by rw [hl, List.map_map]; rfl), ?_⟩)⟩
      · refine ⟨_, rfl, _, _, rfl, rfl, ?_⟩
        have e : y = V.bl (inS S10 c) := by
          rw [List.getElem?_map, Array.getElem?_toList, hc] at hy
          exact (Option.some.inj hy).symm
        rw [e] at q'
        exact q' _ (Same.refl _)
      · have e : (x.cps.toList.map (inS S10)).all id = allB S10 x := by
          rw [List.all_map]
          rfl
        rw [e]
        exact q H' sm
  · have e : numB x = false := by
      unfold numB
      rw [decide_eq_false (show ¬ 1 ≤ x.length by omega), Bool.false_and, Bool.false_and]
    rw [e] at q
    exact ⟨_, rfl, iteY rfl (q H (Same.refl _))⟩
end
end K24
set_option Elab.async false
set_option linter.all false
set_option maxRecDepth 100000
set_option maxHeartbeats 4000000
namespace K24
open PySem L2 NS TR
open TM
def PcIs (H : Hp) (p : Str × Str) (v : V) : Prop := ∃ a, v = .ref a ∧ H a = some (.tup [.str p.1, .str p.2])
theorem PcIs.same {H H' : Hp} (e : SameT H H') {p : Str × Str} {v : V} (h : PcIs H p v) : PcIs H' p v := by
  obtain ⟨a, x, y⟩ := h
  exact ⟨a, x, e _ _ y⟩
theorem ne_of_none' {H : Hp} {a b : Addr} {o : HO} (h : H a = some o) (n : H b = none) : b ≠ a := fun z => by rw [z, h] at n; cases n
def spPieces : Sp := fun vs H Q _ => ∃ (z st : Str) (sep : Nat), vs = [.str z, .str st] ∧ z.length ≤ 20000 ∧ (∀ c ∈ z.cps.toList, inS st c = stp sep c) ∧ st.length ≤ 3 ∧
  ∀ l us H', Same H H' → H l = none → H' l = some (.lst us) → L2R (PcIs H') (pcs sep [] z.cps.toList) us → Q (.ref l) H'
theorem drop_take_snoc {L : List Nat} {s i c : Nat} (hs : s ≤ i) (hc : L[i]? = some c) : (L.take (i + 1)).drop s = (L.take i).drop s ++ [c] := by
  have hi : i < L.length := (List.getElem?_eq_some_iff.mp hc).1
  rw [List.take_succ, hc, List.drop_append_of_le_length (by rw [List.length_take]; omega)]
  rfl
theorem drop_cons {L : List Nat} {i c : Nat} (hc : L[i]? = some c) : L.drop i = c :: L.drop (i + 1) := by
  obtain ⟨hi, e⟩ := List.getElem?_eq_some_iff.mp hc
  rw [List.drop_eq_getElem_cons hi, e]
section
variable {P : Program} {w : World} {K : PySem.W.Frag} {mg : Str → Option Value} {base : Heap} {T : Adr}
theorem ok_pieces (X : Tx K mg T) : FnOk P w K mg base CX0 1 T.qpieces T.d_qpieces ["text", "stops"] spPieces := by
  refine X.F_qpieces.okQ sc_qpieces (fun vs H Q E h => ?_) (fun cdv A outer s H vs Q E hr h => ?_)
  · obtain ⟨_, _, _, rfl, _⟩ := h
    rfl
  obtain ⟨z, st, sep, rfl, hz, hin, hst3, q⟩ := h
  refine ⟨_, (qss_cons (qs_set (i := 2) sc_qpieces.nd rfl (Or.inl rfl) (qe_lst qa_nil)) (qss_cons (qs_set (i := 3) sc_qpieces.nd rfl (Or.inl rfl) qe_int) (qss_cons (qs_for PassesOwn.never rfl (qi_enumS rfl X.z_enumerate (qaN (qv 0) qa_nil)) (qg_tup rfl (qgs_cons (qg_name (i := 4) sc_qpieces.nd rfl (Or.inl rfl)) (qgs_cons (qg_name (i := 5) sc_qpieces.nd rfl (Or.inl rfl)) qgs_nil))) (qss_one (qs_if (qt_cmpR op_in_str (qv 5) (qv 1) rfl) (qss_cons (qs_expr (qe_bm PySem.F.plainAttrs_list PySem.F.slot_list_append PySem.F.type_list_append mt_append (qv 2) (qaT (qe_tup (qaS (qe_slice sl_str (qv 0) (qo_some (qv 3)) (qo_some (qv 4))) (qaN (qv 5) qa_nil))) qa_nil))) (qss_one (qs_set (i := 3) sc_qpieces.nd rfl (Or.inl rfl) (qe_op op_add (qv 4) qe_int)))) qss_nil))) (qss_cons (qs_expr (qe_bm PySem.F.plainAttrs_list PySem.F.slot_list_append PySem.F.type_list_append mt_append (qv 2) (qaT (qe_tup (qaS (qe_slice sl_str (qv 0) (qo_some (qv 3)) qo_none) (qaC qe_str qa_nil))) qa_nil))) (qss_one (qs_ret (qv 2))))))), ?_⟩
  refine ⟨(by show 0 ≤ sizeLine; decide), fun l hl => ?_⟩
  have hzl : z.cps.size = z.cps.toList.length := by simp
  have hzl2 : z.length = z.cps.toList.length := len_list z
  refine ⟨_, rfl, z, rfl, for_wt (fun i σ H' => ∃ (s : Nat) (ps : List (Str × Str)) (us : List V) (x3 x4 : Option V), σ = [some (.str z), some (.str st), some (.ref l), some (.int (s : Int)), x3, x4] ∧ s ≤ i ∧ Same H H' ∧ H' l = some (.lst us) ∧ L2R (PcIs H') ps us ∧ us.length ≤ i ∧
      pcs sep [] z.cps.toList = ps ++ pcs sep ((z.cps.toList.take i).drop s) (z.cps.toList.drop i))
    ⟨0, [], [], none, none, rfl, Nat.le_refl _, same_new hl _, upd_same, .nil, Nat.le_refl _, rfl⟩ (fun _ _ _ _ _ => trivial) ?_ ?_⟩
  · rintro i T' vs' σ H' hi ⟨c, hc, rfl⟩ ⟨s, ps, us, x3, x4, rfl, hs, sm, hus, hps, hlen, he⟩ hT
    have hcl : z.cps.toList[i]? = some c := by rw [Array.getElem?_toList]; exact hc
    have i1 : i < z.cps.toList.length := lt_of_some hcl
    have s1 := same_new hT (.tup [.int i, .str ⟨#[c]⟩])
    refine ⟨T', _, rfl, SqT.of upd_same, rfl, _, _, rfl, _, _, rfl, rfl, ?_⟩
    refine ⟨_, rfl, _, rfl, _, _, rfl, rfl, _, rfl, ?_⟩
    show if inS st c = true then _ else _
    rw [hin c (List.mem_of_getElem? hcl)]
    by_cases hst : stp sep c = true
    · rw [if_pos hst]
      have hus1 := s1 _ _ hus
      refine ⟨_, rfl, .inl ⟨rfl, _, SqL.of hus1⟩, _, rfl, _, rfl, _, rfl, _, rfl, _, rfl, z, rfl, fits2 (by omega), _, rfl, (by show 2 ≤ sizeLine; decide), fun t ht => ?_⟩
      have s2 := same_new ht (.tup [.str (Txt.slice z (some (s : Int)) (some (i : Int))), .str ⟨#[c]⟩])
      have hus2 := s2 _ _ hus1
      refine ⟨l, us, _, rfl, rfl, hus2, fitsL (by omega), ?_⟩
      refine ⟨_, rfl, _, _, rfl, rfl, ?_⟩
      have es : Txt.slice z (some (s : Int)) (some (i : Int)) = mkS ((z.cps.toList.take i).drop s) := mk_eq (mid_list s i rfl rfl hs (by omega))
      have nl : t ≠ l := ne_of_none' hus1 ht
      refine ⟨i + 1, ps ++ [(mkS ((z.cps.toList.take i).drop s), mkS [c])], us ++ [.ref t], _, _, rfl, Nat.le_refl _, same_upd hl ((sm.trans s1).trans s2), upd_same, ?_, by rw [List.length_append]; simp only [List.length_singleton]; omega, ?_⟩
      · refine (hps.imp fun _ _ => PcIs.same ((sameT (s1.trans s2)).trans (sameT_lst hus2))).snoc ⟨t, rfl, ?_⟩
        rw [upd_ne nl, upd_same, es]
        rfl
      · have en : List.drop (i + 1) (List.take (i + 1) z.cps.toList) = [] := List.drop_eq_nil_of_le (by rw [List.length_take]; omega)
        rw [he, drop_cons hcl, pcs_stop hst, List.append_assoc, en]
        rfl
    · rw [if_neg hst]
      refine ⟨s, ps, us, _, _, rfl, by omega, sm.trans s1, s1 _ _ hus, hps.imp fun _ _ => PcIs.same (sameT s1), by omega, ?_⟩
      rw [he, drop_cons hcl, NS.pcs, if_neg hst, drop_take_snoc hs hcl]
  · rintro σ H' ⟨s, ps, us, x3, x4, rfl, hs, sm, hus, hps, hlen, he⟩
    refine ⟨_, rfl, .inl ⟨rfl, _, SqL.of hus⟩, _, rfl, _, rfl, _, rfl, z, rfl, fits2 (by omega), (by show 2 ≤ sizeLine; decide), fun t ht => ?_⟩
    have s2 := same_new ht (.tup [.str (Txt.slice z (some (s : Int)) none), .str ""])
    have hus2 := s2 _ _ hus
    refine ⟨l, us, _, rfl, rfl, hus2, fitsL (by omega), ?_⟩
    have es : Txt.slice z (some (s : Int)) none = mkS (z.cps.toList.drop s) := mk_eq (from_list (by omega))
    have nl : t ≠ l := ne_of_none' hus ht
    refine ⟨_, rfl, q l (us ++ [.ref t]) _ (same_upd hl (sm.trans s2)) hl upd_same ?_⟩
    rw [he, hzl, List.drop_length, List.take_length, NS.pcs]
    refine (hps.imp fun _ _ => PcIs.same ((sameT s2).trans (sameT_lst hus2))).snoc ⟨t, rfl, ?_⟩
    rw [upd_ne nl, upd_same, es]
    rfl
end
end K24
set_option Elab.async false
set_option linter.all false
set_option maxRecDepth 100000
set_option maxHeartbeats 4000000
namespace L2
open PySem PySem.Spec PyProof.Rows
section
variable {prog : Program} {w : World} {A : Around} {E : Value → Shared → Prop} {s : Shared}
theorem lr_collect {it l : Addr} {items : Array Value} {Q : List Value → Shared → Prop} (hh : A.handled = none) (hi : s.heap.IsRevIter it l ((items.size : Int) - 1)) (hl : s.heap.IsList l items) (nl : l ≠ it) (hn : items.size ≤ sizeLine)
    (hQ : ∀ (h' : Heap) tk acc, s.heap.objs.size ≤ h'.objs.size → (∀ b o, b ≠ it → s.heap.get? b = some o → h'.get? b = some o) → ItemsOf (fun i v => items[items.size - 1 - i]? = some v) acc items.size → Q acc.toList { s with heap := h', toks := tk }) :
    wpAny (model prog w) A (collect (.ref it)) Q E s := by
  have li : it < s.heap.objs.size := let ⟨_, e, _⟩ := hi; Heap.lt_size e
  have ll : l < s.heap.objs.size := let ⟨_, e, _⟩ := hl; Heap.lt_size e
  have nS : s.heap.objs.size ≠ it := Nat.ne_of_gt li
  have nSl : s.heap.objs.size ≠ l := Nat.ne_of_gt ll
  have W := (Walks.listRev (prog := prog) (w := w) (A := A.in1) hh it l nl items).toS
  unfold collect
  refine wpAny_bind (wpAny_runValue (codeAny_builtin F.entry_proto_collect ?_))
  rw [Around.under_plainId F.plain_proto_collect _]
  show wpAny _ A.in1 (newList [] >>= fun l => again (.builtin "list.__iadd__" ⟨[l, .ref it], []⟩)) _ _ s
  refine wpAny_bind (wpAny_newObj_type (wpAny_pure ⟨plainId_quiet F.plain_list_iadd _, codeAny_builtin F.entry_list_iadd ?_⟩))
  rw [Around.under_plainId F.plain_list_iadd _]
  have hS : (s.heap.push { cls := .type "list", data := .seq ([] : List Value).toArray }).get? s.heap.objs.size = some { cls := .type "list", data := .seq ([] : List Value).toArray } := Heap.get?_push_size _ rfl
  have hi1 : (s.heap.push { cls := .type "list", data := .seq ([] : List Value).toArray }).IsRevIter it l ((items.size : Int) - 1) := hi.at fun o e => Heap.get?_push_of_some _ e
  have hl1 : (s.heap.push { cls := .type "list", data := .seq ([] : List Value).toArray }).IsList l items := hl.at fun o e => Heap.get?_push_of_some _ e
  show wpAny _ A.in1 (Builtin.List.listExtendWith (.ref s.heap.objs.size) (.ref it) (.ref s.heap.objs.size)) _ _ _
  unfold Builtin.List.listExtendWith
  have hT1 : Shared.TypeIs { s with heap := s.heap.push { cls := .type "list", data := .seq ([] : List Value).toArray } } (.ref it) "list_reverseiterator" := Heap.IsRevIter.typeIs (s := { s with heap := s.heap.push { cls := .type "list", data := .seq ([] : List Value).toArray } }) hi1
  refine wpAny_bind (wpAny_typeOf hT1 ?_)
  have same : Builtin.List.listSameRef (.ref s.heap.objs.size) (.ref it) = false := by simp [Builtin.List.listSameRef, nS]
  rw [if_neg (by rw [same]; decide)]
  refine wpAny_bind (wpAny_pyIter_revIter hi1 (wpAny_bind (wpAny_holding ?_)))
  unfold Builtin.List.listLengthHint
  refine wpAny_bind (wpAny_specialOf hT1 lri_nolen (show wpAny _ A.in1 (specialOf (Value.ref it) (Str.ofString "__length_hint__") >>= _) _ _ _ from wpAny_bind (wpAny_specialOf hT1 lri_hint ?_)))
  generalize hid : ("list_reverseiterator.__length_hint__" : String) = id0
  wp_delta
  rw [show splitId id0 = some ("list_reverseiterator", "__length_hint__") from by subst hid; decide +kernel]
  subst hid
  refine wpAny_bind (wpAny_isInstance (b := true) hT1 (by rw [isSubtype_type]; kernel_rfl) (wpAny_pure ?_))
  rw [if_neg (by decide)]
  refine wpAny_pure ⟨plainId_quiet F.plain_extend_loop _, codeAny_extend_loopS W hn s.heap.objs.size (by simp [nS, nSl]) _ items.size 0 _ #[] _ rfl (Nat.zero_le _) ⟨Nat.zero_le _, by simpa using hi1, hl1⟩ hS (ItemsOf.nil _) fun s' acc c' hm hS' ha => ?_⟩
  show wpAny _ A (load s.heap.objs.size >>= _) _ _ s'
  refine wpAny_bind (wpAny_load hS' ?_)
  have e' := Moved.eq_with hm
  have lt := Heap.lt_size hS'
  have hmh := hm.heap
  generalize s'.heap = h' at e' lt hmh
  generalize s'.toks = tk' at e'
  subst e'
  refine wpAny_pure (hQ h' tk' acc (Nat.le_of_lt lt) (fun b o hb e => hmh b o (fun z => ?_) (Heap.get?_push_of_some _ e)) ha)
  rcases List.mem_cons.mp z with z | z
  · rw [z] at e
    exact absurd (Heap.lt_size e) (Nat.lt_irrefl _)
  · exact hb (List.mem_singleton.mp z)
theorem lr_new {it l : Addr} {items : Array Value} {Q₁ : Value → Shared → Prop} (hh : A.handled = none) (hi : s.heap.IsRevIter it l ((items.size : Int) - 1)) (hl : s.heap.IsList l items) (nl : l ≠ it) (hn : items.size ≤ sizeLine)
    (h : ∀ (h' : Heap) tk acc, s.heap.objs.size ≤ h'.objs.size → (∀ b o, b ≠ it → s.heap.get? b = some o → h'.get? b = some o) → ItemsOf (fun i v => items[items.size - 1 - i]? = some v) acc items.size → Q₁ (.ref h'.objs.size) { s with heap := h'.push { cls := .type "tuple", data := .seq acc }, toks := tk }) :
    codeAny (model prog w) A (.call (.builtin "tuple.__new__") ⟨[.type "tuple", .ref it], []⟩) (wants Q₁ E) s := by
  refine codeAny_of_tree ?_
  show wpAny _ A.in1 (do checkBuiltinCall "tuple.__new__" ⟨[.type "tuple", .ref it], []⟩; again (.builtin "tuple.__new__" ⟨[.type "tuple", .ref it], []⟩)) _ _ s
  refine wpAny_bind (wpAny_of_eq (F.newCall_tuple_1 _) (wpAny_pure ⟨plainId_quiet F.plain_tuple_new _, codeAny_builtin F.entry_tuple_new ?_⟩))
  rw [Around.under_plainId F.plain_tuple_new _]
  have hsub := sub_tuple_self
  have hinit := init_tuple_lookup
  have hmh := madeHere_tuple
  have hTI := hi.typeIs
  wp_walk using wpAny_typeOf hTI, lr_collect (A := A.in1) hh hi hl nl hn
  intro h' tk acc hz hm hacc
  show wpAny _ _ (Builtin.Tuple.tupleExact acc.toList.toArray >>= fun v => ret v) _ _ _
  unfold Builtin.Tuple.tupleExact
  refine wpAny_bind (wpAny_newObj_type ?_ (by show acc.toList.toArray.size ≤ sizeLine; simp only [Array.toArray_toList]; rw [hacc.1]; exact hn))
  refine wpAny_pure ?_
  have e : acc.toList.toArray = acc := by simp
  rw [e]
  exact h h' tk acc hz hm hacc
theorem lr_call {it l : Addr} {items : Array Value} {Q : Value → Shared → Prop} (hh : A.handled = none) (hi : s.heap.IsRevIter it l ((items.size : Int) - 1)) (hl : s.heap.IsList l items) (nl : l ≠ it) (hn : items.size ≤ sizeLine)
    (h : ∀ (h' : Heap) tk acc, s.heap.objs.size ≤ h'.objs.size → (∀ b o, b ≠ it → s.heap.get? b = some o → h'.get? b = some o) → ItemsOf (fun i v => items[items.size - 1 - i]? = some v) acc items.size → Q (.ref h'.objs.size) { s with heap := h'.push { cls := .type "tuple", data := .seq acc }, toks := tk }) :
    wpAny (model prog w) A (call (.type "tuple") [.ref it]) Q E s := by
  refine callType_codes (Q₁ := fun obj s₁ => s₁.TypeIs obj "tuple" ∧ Q obj s₁) F.called_tuple (F.typeCall_tuple_1 _) F.entry_object_init
    (lr_new (A := A.in1) hh hi hl nl hn fun h' tk acc hz hm hacc => ⟨⟨_, Heap.get?_push_size _ rfl, rfl⟩, h h' tk acc hz hm hacc⟩) fun obj s₁ h₁ => ?_
  exact ⟨h₁.1, F.args_object_init_2 obj _, object_init_meets F.called_tuple.init.lookup F.called_tuple.made (by decide) prog w A.in1 _ s₁ ⟨h₁.1, rfl, h₁.2⟩⟩
end
section
variable {X : Cx} {e : Expr} {te : TE} {p1 p2 q1 q2 : Pos}
def tRevLT (K : PySem.W.Frag) (te : TE) : TE := fun σ H Q => te σ H fun x H1 => ∃ l ys, x = .ref l ∧ SqL K H1 l ys ∧ ∀ r, H1 r = none → Q (.ref r) (upd H1 r (.tup ys.reverse))
theorem pe_tupRevL (hc : X.calm = true) (g1 : Gl X "tuple") (m1 : X.mg "tuple" = none) (g2 : Gl X "reversed") (m2 : X.mg "reversed" = none) (he : PE X e te)
    (hs2 : starEach [e] X.env = [(false, eval e X.env)] := by rfl) (hs1 : starEach [.Call (.Name "reversed" p2) [e] [] q2] X.env = [(false, eval (.Call (.Name "reversed" p2) [e] [] q2) X.env)] := by rfl) :
    PE X (.Call (.Name "tuple" p1) [.Call (.Name "reversed" p2) [e] [] q2] [] q1) (tRevLT X.K te) := by
  intro pins s σ H Q I h
  refine Call_ (ld_blt I g1 m1 PyProof.Rows.boot_tuple (PyProof.Rows.callWith_type1 ?_ hs1 rfl))
  rw [hs1]
  show wpAny _ _ (spliced ((false, eval (.Call (.Name "reversed" p2) [e] [] q2) X.env) :: backTo q1 [])) _ _ s
  refine Calls.spliced_cons (Call_ (ld_blt I g2 m2 boot_reversed (PyProof.Rows.callWith_type1 ?_ hs2 rfl)))
  rw [hs2]
  show wpAny _ _ (spliced ((false, eval e X.env) :: backTo q2 [])) _ _ s
  refine Calls.spliced_cons (thn (he pins s σ H _ I h) fun u s1 ⟨x, H1, I1, r1, l, ys, ex, hq, k⟩ => ?_)
  subst ex
  cases r1
  refine Calls.spliced_nil ?_
  obtain ⟨vs, rv, pl, hz⟩ := I1.list hq
  have hl := pl.isList
  have hlen := rv.length
  have ll : l < s1.heap.objs.size := let ⟨_, e, _⟩ := hl; Heap.lt_size e
  have nl : l ≠ s1.heap.objs.size := Nat.ne_of_lt ll
  have hzs : vs.toArray.size ≤ sizeLine := by rw [List.size_toArray]; omega
  refine call_reversed_list hl (Calls.spliced_nil ?_)
  refine lr_call (items := vs.toArray) (I1.ok.hd hc) ⟨_, Heap.get?_push_size _ rfl, rfl, rfl⟩ (hl.at fun o e => Heap.get?_push_of_some _ e) nl hzs (fun h' tk acc hzz hk ha => ?_)
  have e := rev_items ha
  have sz : (s1.heap.push (revObj l ((vs.toArray.size : Int) - 1))).objs.size = s1.heap.objs.size + 1 := Heap.size_push ..
  rw [sz] at hzz
  have fr : H1 h'.objs.size = none := I1.hok.fresh (by omega)
  refine ⟨.ref h'.objs.size, _, I1.laid (t' := tk) (fun b u eb => Heap.get?_push_of_some _ (hk b u (Nat.ne_of_lt (Heap.lt_size eb)) (Heap.get?_push_of_some _ eb))) (by omega) (show ObjOk X.prog X.w _ _ _ (.tup ys.reverse) from ⟨by rw [List.length_reverse]; omega, vs.reverse, rv.reverse, ?_⟩), rfl, k _ fr⟩
  rw [← e]
  have e2 : acc.toList.toArray = acc := by simp
  rw [e2]
  exact IsTup.new _ _
theorem qe_tupRevL (hc : X.calm = true) (g1 : Gl X "tuple") (m1 : X.mg "tuple" = none) (g2 : Gl X "reversed") (m2 : X.mg "reversed" = none) (he : QE X e te)
    (hs2 : starEach [e] X.env = [(false, eval e X.env)] := by rfl) (hs1 : starEach [.Call (.Name "reversed" p2) [e] [] q2] X.env = [(false, eval (.Call (.Name "reversed" p2) [e] [] q2) X.env)] := by rfl) :
    QE X (.Call (.Name "tuple" p1) [.Call (.Name "reversed" p2) [e] [] q2] [] q1) (tRevLT X.K te) := ⟨pe_tupRevL hc g1 m1 g2 m2 he.h hs2 hs1⟩
end
end L2
set_option Elab.async false
set_option linter.all false
set_option maxRecDepth 100000
set_option maxHeartbeats 4000000
namespace K24
open PySem L2 NS TR
open TM
theorem n12 : ¬ (("rows" : Str) = "open_words") := by decide +kernel
theorem n13 : ¬ (("rows" : Str) = "inner_counts") := by decide +kernel
theorem n14 : ¬ (("rows" : Str) = "closed") := by decide +kernel
theorem n23 : ¬ (("open_words" : Str) = "inner_counts") := by decide +kernel
theorem n24 : ¬ (("open_words" : Str) = "closed") := by decide +kernel
theorem n34 : ¬ (("inner_counts" : Str) = "closed") := by decide +kernel
def flds (r o i c : V) : List (Str × V) := putF "closed" c (putF "inner_counts" i (putF "open_words" o (putF "rows" r [])))
theorem flds_eq (r o i c : V) : flds r o i c = ([("rows", r), ("open_words", o), ("inner_counts", i), ("closed", c)] : List (Str × V)) := by
  unfold flds
  simp only [putF, if_neg n12, if_neg n13, if_neg n14, if_neg n23, if_neg n24, if_neg n34]
theorem fl_r (r o i c : V) : (flds r o i c).lookup ("rows" : Str) = some r := by
  unfold flds
  rw [lookup_putF, if_neg n14, lookup_putF, if_neg n13, lookup_putF, if_neg n12, lookup_putF, if_pos rfl]
theorem fl_o (r o i c : V) : (flds r o i c).lookup ("open_words" : Str) = some o := by
  unfold flds
  rw [lookup_putF, if_neg n24, lookup_putF, if_neg n23, lookup_putF, if_pos rfl]
theorem fl_i (r o i c : V) : (flds r o i c).lookup ("inner_counts" : Str) = some i := by
  unfold flds
  rw [lookup_putF, if_neg n34, lookup_putF, if_pos rfl]
theorem fl_c (r o i c : V) : (flds r o i c).lookup ("closed" : Str) = some c := by
  unfold flds
  rw [lookup_putF, if_pos rfl]
theorem fl_no (r o i c : V) {m : Str} (h1 : ¬ m = "closed") (h2 : ¬ m = "inner_counts") (h3 : ¬ m = "open_words") (h4 : ¬ m = "rows") : (flds r o i c).lookup m = none := by
  unfold flds
  rw [lookup_putF, if_neg h1, lookup_putF, if_neg h2, lookup_putF, if_neg h3, lookup_putF, if_neg h4]
  rfl
theorem put_c (r o i c y : V) : putF "closed" y (flds r o i c) = flds r o i y := by
  rw [flds_eq, flds_eq]
  simp only [putF, if_neg n14, if_neg n24, if_neg n34, if_true]
theorem fl_few (r o i c : V) : (flds r o i c).length < 1000 := by
  rw [flds_eq]
  show 4 < 1000
  decide
theorem lp {f : Str} {v : V} {fs : List (Str × V)} {k : Nat} (h : fs.length ≤ k) : (putF f v fs).length ≤ k + 1 := Nat.le_trans (length_putF f v fs) (Nat.succ_le_succ h)
theorem sameT_ins {H : Hp} {p C dx : Addr} {fs : List (Str × V)} {o : HO} (h : H p = some (.ins C dx fs)) : SameT H (upd H p o) := fun b xs q => by
  rw [upd_ne (ne_of q h (fun z => nomatch z))]
  exact q
def RwIs (H : Hp) (x : Row) (v : V) : Prop := ∃ a, v = .ref a ∧ H a = some (.tup [.str x.1, .int x.2.1, .int x.2.2])
theorem RwIs.same {H H' : Hp} (e : SameT H H') {x : Row} {v : V} (h : RwIs H x v) : RwIs H' x v := by
  obtain ⟨a, x, y⟩ := h
  exact ⟨a, x, e _ _ y⟩
abbrev opW (op : List (Str × Nat)) : List V := op.map fun x => V.str x.1
abbrev opC (op : List (Str × Nat)) : List V := op.map fun x => V.int (x.2 : Int)
structure RdAt (C : Addr) (B H : Hp) (p : Addr) (st : Ms) : Prop where
  sm : Same B H
  np : B p = none
  ex : ∃ dx lr lo lc us, H p = some (.ins C dx (flds (.ref lr) (.ref lo) (.ref lc) (.bl st.cl))) ∧ B lr = none ∧ B lo = none ∧ B lc = none ∧ lr ≠ lo ∧ lr ≠ lc ∧ lo ≠ lc ∧ H lr = some (.lst us) ∧ L2R (RwIs H) st.rs us ∧ H lo = some (.lst (opW st.op)) ∧ H lc = some (.lst (opC st.op))
def spInit (C : Addr) : Sp := fun vs H Q _ => ∃ (B : Hp) (p dx : Addr), vs = [.ref p] ∧ H p = some (.ins C dx []) ∧ Same B H ∧ B p = none ∧ ∀ H', RdAt C B H' p ⟨[], [], false⟩ → Q .non H'
def spAdd (C : Addr) : Sp := fun vs H Q _ => ∃ (B : Hp) (p : Addr) (z : Str) (c : Nat) (st : Ms), vs = [.ref p, .str z, .int (c : Int)] ∧ st.rs.length ≤ 90000 ∧ RdAt C B H p st ∧ ∀ H', RdAt C B H' p ⟨st.rs ++ [(z, c, st.op.length + 1)], st.op, st.cl⟩ → Q .non H'
def TxOk (z : Str) : Prop := z.length ≤ 20000 ∧ ∀ c ∈ z.cps.toList, c < 128
theorem shown_str {d : Str} (h : TxOk d) : (PyData.str d).shown.length ≤ 300000 := by
  have := PyData.shown_le_bulk 8 (by decide) (.str d) (by
    simp only [PyData.leavesShort, List.all_eq_true, decide_eq_true_eq]
    intro c hc
    have := h.2 c hc
    have e : (16 : Nat) ^ 8 = 4294967296 := by decide
    omega)
  have e : PyData.bulk (.str d) = d.cps.size := by simp only [PyData.bulk]
  have h3 : d.cps.size ≤ 20000 := h.1
  rw [e] at this
  omega
def spBegin (C N : Addr) : Sp := fun vs H Q E => ∃ (B : Hp) (p : Addr) (z : Str) (rs : List Row) (op : List (Str × Nat)) (cl : Bool), vs = [.ref p, .str z] ∧ op.length ≤ 90000 ∧ RdAt C B H p ⟨rs, op, cl⟩ ∧ (cl = false → ∀ H', RdAt C B H' p ⟨rs, op ++ [(z, 0)], false⟩ → Q .non H') ∧ (cl = true → E (.ref N) none H)
def spEnd (C N : Addr) : Sp := fun vs H Q E => ∃ (B : Hp) (p : Addr) (z : Str) (st : Ms), vs = [.ref p, .str z] ∧ TxOk z ∧ st.rs.length ≤ 90000 ∧ RdAt C B H p st ∧ (∀ rs, Endd st z rs → ∀ H', RdAt C B H' p ⟨rs, st.op, st.cl⟩ → Q .non H') ∧ ((¬ ∃ rs, Endd st z rs) → E (.ref N) none H)
def spCount (C N : Addr) : Sp := fun vs H Q E => ∃ (B : Hp) (p : Addr) (rs : List Row) (op : List (Str × Nat)) (cl : Bool), vs = [.ref p] ∧ RdAt C B H p ⟨rs, op, cl⟩ ∧ (∀ o z c, op = o ++ [(z, c)] → ∀ H', RdAt C B H' p ⟨rs, o ++ [(z, c + 1)], false⟩ → Q .non H') ∧ (op = [] → E (.ref N) none H)
def spClose (C : Addr) : Sp := fun vs H Q _ => ∃ (B : Hp) (p : Addr) (z : Str) (c : Nat) (rs : List Row) (op : List (Str × Nat)) (cl : Bool), vs = [.ref p] ∧ rs.length ≤ 90000 ∧ RdAt C B H p ⟨rs, op ++ [(z, c)], cl⟩ ∧ ∀ H', RdAt C B H' p ⟨rs ++ [(z, c, op.length + 1)], op, true⟩ → Q .non H'
def spAll (C N : Addr) : Sp := fun vs H Q E => ∃ (B : Hp) (p : Addr) (rs : List Row) (op : List (Str × Nat)) (cl : Bool), vs = [.ref p] ∧ RdAt C B H p ⟨rs, op, cl⟩ ∧ (op = [] → ∀ lr us, B lr = none → H lr = some (.lst us) → L2R (RwIs H) rs us → Q (.ref lr) H) ∧ (op ≠ [] → E (.ref N) none H)
theorem snoc_or {α : Type} (l : List α) : l = [] ∨ ∃ a x, l = a ++ [x] := by
  cases h : l.reverse with
  | nil => exact .inl (List.reverse_eq_nil_iff.mp h)
  | cons x r => exact .inr ⟨r.reverse, x, by rw [← List.reverse_reverse l, h, List.reverse_cons]⟩
theorem mAdd (r o i c : V) : (flds r o i c).lookup ("add_row" : Str) = none := fl_no _ _ _ _ (by decide +kernel) (by decide +kernel) (by decide +kernel) (by decide +kernel)
theorem opW_snoc (op : List (Str × Nat)) (z : Str) (c : Nat) : opW (op ++ [(z, c)]) = opW op ++ [.str z] := by simp [opW]
theorem opC_snoc (op : List (Str × Nat)) (z : Str) (c : Nat) : opC (op ++ [(z, c)]) = opC op ++ [.int c] := by simp [opC]
theorem atI_last' (xs : List V) (y : V) : atI (xs ++ [y]) (-1) = some y := by
  have e : ixN (xs ++ [y]).length (-1) = some xs.length := by
    unfold ixN
    rw [List.length_append, List.length_singleton, if_neg (by decide), if_pos (by omega)]
    congr 1
    omega
  unfold atI
  rw [e]
  show (xs ++ [y])[xs.length]? = _
  rw [List.getElem?_append_right (Nat.le_refl _), Nat.sub_self]
  rfl
theorem ixN_last (xs : List V) (y : V) : ixN (xs ++ [y]).length (-1) = some xs.length := by
  unfold ixN
  rw [List.length_append, List.length_singleton, if_neg (by decide), if_pos (by omega)]
  congr 1
  omega
theorem set_last (xs : List V) (y z : V) : (xs ++ [y]).set xs.length z = xs ++ [z] := by
  simp
section
variable {P : Program} {w : World} {K : PySem.W.Frag} {mg : Str → Option Value} {base : Heap} {T : Adr}
theorem ok_init (X : Tx K mg T) : FnOk P w K mg base CX0 1 T.qinit T.d_qinit ["self"] (spInit T.k_NestReader) := by
  refine X.F_qinit.okQ sc_qinit (fun vs H Q E h => ?_) (fun cdv A outer s H vs Q E hr h => ?_)
  · obtain ⟨_, _, _, rfl, _⟩ := h
    rfl
  obtain ⟨B, p, dx, rfl, hp, sm, np, q⟩ := h
  refine ⟨_, (qss_cons (qs_fld (qv 0) (qe_lst qa_nil) rfl) (qss_cons (qs_fld (qv 0) (qe_lst qa_nil) rfl) (qss_cons (qs_fld (qv 0) (qe_lst qa_nil) rfl) (qss_one (qs_fld (qv 0) qe_bl rfl))))), ?_⟩
  refine ⟨(by show 0 ≤ sizeLine; decide), fun lr hlr => ?_⟩
  have nlr : lr ≠ p := ne_of_none' hp hlr
  refine ⟨_, rfl, p, _, dx, _, rfl, (by rw [upd_ne nlr.symm]; exact hp), X.cl_NestReader, X.n_rows, (by show 0 < 1000; decide), ?_⟩
  refine ⟨(by show 0 ≤ sizeLine; decide), fun lo hlo => ?_⟩
  have nlo : lo ≠ p := ne_of_none' upd_same hlo
  have nro : lr ≠ lo := fun z => by
    rw [← z, upd_ne nlr, upd_same] at hlo
    cases hlo
  refine ⟨_, rfl, p, _, dx, _, rfl, (by rw [upd_ne nlo.symm]; exact upd_same), X.cl_NestReader, X.n_open_words, Nat.lt_of_le_of_lt (lp (fs := []) (k := 0) (Nat.le_refl 0)) (by decide), ?_⟩
  refine ⟨(by show 0 ≤ sizeLine; decide), fun lc hlc => ?_⟩
  have nlc : lc ≠ p := ne_of_none' upd_same hlc
  have noc : lo ≠ lc := fun z => by
    rw [← z, upd_ne nlo, upd_same] at hlc
    cases hlc
  have nrc : lr ≠ lc := fun z => by
    rw [← z, upd_ne nlr, upd_ne nro, upd_ne nlr, upd_same] at hlc
    cases hlc
  refine ⟨_, rfl, p, _, dx, _, rfl, (by rw [upd_ne nlc.symm]; exact upd_same), X.cl_NestReader, X.n_inner_counts, Nat.lt_of_le_of_lt (lp (lp (fs := []) (k := 0) (Nat.le_refl 0))) (by decide), ?_⟩
  refine ⟨_, rfl, p, _, dx, _, rfl, upd_same, X.cl_NestReader, X.n_closed, Nat.lt_of_le_of_lt (lp (lp (lp (fs := []) (k := 0) (Nat.le_refl 0)))) (by decide), ?_⟩
  have B1 : B lr = none := sm.free hlr
  have S1 := same_upd (o := .ins T.k_NestReader dx (putF "rows" (.ref lr) [])) np (sm.trans (same_new hlr (.lst [])))
  have B2 : B lo = none := S1.free hlo
  have S2 := same_upd (o := .ins T.k_NestReader dx (putF "open_words" (.ref lo) (putF "rows" (.ref lr) []))) np (S1.trans (same_new hlo (.lst [])))
  have B3 : B lc = none := S2.free hlc
  have S3 := same_upd (o := .ins T.k_NestReader dx (putF "inner_counts" (.ref lc) (putF "open_words" (.ref lo) (putF "rows" (.ref lr) [])))) np (S2.trans (same_new hlc (.lst [])))
  refine q _ ⟨same_upd np S3, np, dx, lr, lo, lc, [], upd_same, B1, B2, B3, nro, nrc, noc, ?_, .nil, ?_, ?_⟩
  · rw [upd_ne nlr, upd_ne nlr, upd_ne nrc, upd_ne nlr, upd_ne nro, upd_ne nlr, upd_same]
  · rw [upd_ne nlo, upd_ne nlo, upd_ne noc, upd_ne nlo, upd_same]
    rfl
  · rw [upd_ne nlc, upd_ne nlc, upd_same]
    rfl
theorem ok_add (X : Tx K mg T) : FnOk P w K mg base CX0 1 T.qaddrow T.d_qaddrow ["self", "word", "count"] (spAdd T.k_NestReader) := by
  refine X.F_qaddrow.okQ sc_qaddrow (fun vs H Q E h => ?_) (fun cdv A outer s H vs Q E hr h => ?_)
  · obtain ⟨_, _, _, _, _, rfl, _⟩ := h
    rfl
  obtain ⟨B, p, z, c, st, rfl, hw, R, q⟩ := h
  refine ⟨_, (qss_one (qs_expr (qe_bm PySem.F.plainAttrs_list PySem.F.slot_list_append PySem.F.type_list_append mt_append (qe_fld (qv 0) rfl) (qaT (qe_tup (qaN (qv 1) (qaN (qv 2) (qaB (qe_op op_add (qe_callB call_len_seq rfl X.z_len PySem.boot_len (qaA (qe_fld (qv 0) rfl) qa_nil)) qe_int) qa_nil)))) qa_nil)))), ?_⟩
  obtain ⟨sm, np, dx, lr, lo, lc, us, hp, b1, b2, b3, nro, nrc, noc, hlr, hrs, hlo, hlc⟩ := R
  have hul := hrs.len
  refine ⟨_, rfl, p, _, dx, _, _, rfl, hp, X.cl_NestReader, X.n_rows, fl_r _ _ _ _, .inl ⟨rfl, _, SqL.of hlr⟩, _, rfl, _, rfl, _, rfl, p, _, dx, _, _, rfl, hp, X.cl_NestReader, X.n_open_words, fl_o _ _ _ _, lo, _, rfl, .inl (SqL.of hlo), _, _, rfl, rfl, (by show 3 ≤ sizeLine; decide), fun t ht => ?_⟩
  have s1 := same_new ht (.tup [.str z, .int (c : Int), .int (((opW st.op).length : Int) + 1)])
  refine ⟨lr, us, _, rfl, rfl, s1 _ _ hlr, fitsL (by omega), ?_⟩
  have ntr : t ≠ lr := ne_of_none' hlr ht
  have npr : p ≠ lr := ne_of hp hlr (fun z => nomatch z)
  have hlr1 := s1 _ _ hlr
  refine q _ ⟨same_upd b1 (sm.trans s1), np, dx, lr, lo, lc, us ++ [.ref t], by rw [upd_ne npr]; exact s1 _ _ hp, b1, b2, b3, nro, nrc, noc, upd_same, ?_, by rw [upd_ne nro.symm]; exact s1 _ _ hlo, by rw [upd_ne nrc.symm]; exact s1 _ _ hlc⟩
  refine (hrs.imp fun _ _ => RwIs.same ((sameT s1).trans (sameT_lst hlr1))).snoc ⟨t, rfl, ?_⟩
  rw [upd_ne ntr, upd_same, List.length_map]
  rfl
theorem ok_begin (X : Tx K mg T) : FnOk P w K mg base (CXe P w) 1 T.qbegin T.d_qbegin ["self", "word"] (spBegin T.k_NestReader T.k_NoText) := by
  refine X.F_qbegin.okE sc_qbegin (fun vs H Q E h => ?_) (fun cdv A outer s H vs Q E hr h => ?_)
  · obtain ⟨_, _, _, _, _, _, rfl, _⟩ := h
    rfl
  obtain ⟨B, p, z, rs, op, cl, rfl, hw, R, q, qe⟩ := h
  refine ⟨_, (qss_cons (qs_if (qt_val (qe_fld (qv 0) rfl)) (qss_one (qs_raise rfl rfl X.m_NoText X.e_NoText (qaC qe_str qa_nil) xe_raise)) qss_nil) (qss_cons (qs_expr (qe_bm PySem.F.plainAttrs_list PySem.F.slot_list_append PySem.F.type_list_append mt_append (qe_fld (qv 0) rfl) (qaN (qv 1) qa_nil))) (qss_one (qs_expr (qe_bm PySem.F.plainAttrs_list PySem.F.slot_list_append PySem.F.type_list_append mt_append (qe_fld (qv 0) rfl) (qaC qe_int qa_nil)))))), ?_⟩
  obtain ⟨sm, np, dx, lr, lo, lc, us, hp, b1, b2, b3, nro, nrc, noc, hlr, hrs, hlo, hlc⟩ := R
  refine ⟨_, rfl, p, _, dx, _, _, rfl, hp, X.cl_NestReader, X.n_closed, fl_c _ _ _ _, _, rfl, ?_⟩
  cases cl with
  | true => exact iteT ⟨(by show 1 ≤ 10; decide), qe rfl⟩
  | false =>
  refine iteF ?_
  have q := q rfl
  have npo : p ≠ lo := ne_of hp hlo (fun z => nomatch z)
  have npc : p ≠ lc := ne_of hp hlc (fun z => nomatch z)
  have lw : (opW op).length ≤ 90000 := by rw [List.length_map]; exact hw
  have lk : (opC op).length ≤ 90000 := by rw [List.length_map]; exact hw
  refine ⟨_, rfl, p, _, dx, _, _, rfl, hp, X.cl_NestReader, X.n_open_words, fl_o _ _ _ _, .inl ⟨rfl, _, SqL.of hlo⟩, _, rfl, lo, _, _, rfl, rfl, hlo, fitsL (by show (opW op).length ≤ 100000; omega), ?_⟩
  have hp1 : upd H lo (.lst (opW op ++ [.str z])) p = some (.ins T.k_NestReader dx (flds (.ref lr) (.ref lo) (.ref lc) (.bl false))) := by rw [upd_ne npo]; exact hp
  have hlc1 : upd H lo (.lst (opW op ++ [.str z])) lc = some (.lst (opC op)) := by rw [upd_ne noc.symm]; exact hlc
  refine ⟨_, rfl, p, _, dx, _, _, rfl, hp1, X.cl_NestReader, X.n_inner_counts, fl_i _ _ _ _, .inl ⟨rfl, _, SqL.of hlc1⟩, lc, _, _, rfl, rfl, hlc1, fitsL (by show (opC op).length ≤ 100000; omega), ?_⟩
  refine q _ ⟨same_upd b3 (same_upd b2 sm), np, dx, lr, lo, lc, us, by rw [upd_ne npc]; exact hp1, b1, b2, b3, nro, nrc, noc, by rw [upd_ne nrc, upd_ne nro]; exact hlr, hrs.imp fun _ _ => RwIs.same ((sameT_lst hlo).trans (sameT_lst hlc1)), by rw [upd_ne noc, upd_same, opW_snoc], by rw [upd_same, opC_snoc]; rfl⟩
theorem ok_end (X : Tx K mg T) : FnOk P w K mg base (CXe P w) 2 T.qendword T.d_qendword ["self", "word"] (spEnd T.k_NestReader T.k_NoText) := by
  have G_qaddrow := ok_add (P := P) (w := w) (base := base) X
  refine X.F_qendword.okE sc_qendword (fun vs H Q E h => ?_) (fun cdv A outer s H vs Q E hr h => ?_)
  · obtain ⟨_, _, _, _, rfl, _⟩ := h
    rfl
  obtain ⟨B, p, z, ⟨rs, op, cl⟩, rfl, hz, hw, R, q, qe⟩ := h
  refine ⟨_, (qss_one (qs_if (qt_not (qt_val (qe_fld (qv 0) rfl))) (qss_one (qs_expr (qe_meth (qv 0) X.cl_NestReader X.h_qaddrow G_qaddrow hr X.b_qaddrow .nil pass0 (qaN (qv 1) (qaC qe_int qa_nil))))) (qss_one (qs_if (qt_cmpR op_ne (qv 1) qe_str (nomark _)) (qss_one (qs_raise rfl rfl X.m_NoText X.e_NoText (qaJ (qe_join (qj_cons (qe_rep hr (qv 1)) (qj_cons qe_str qj_nil))) qa_nil) xe_raise)) qss_nil)))), ?_⟩
  obtain ⟨dx, lr, lo, lc, us, hp, _⟩ := R.ex
  cases cl with
  | false =>
    refine ⟨_, rfl, p, _, dx, _, _, rfl, hp, X.cl_NestReader, X.n_closed, fl_c _ _ _ _, _, rfl, iteT ?_⟩
    exact ⟨_, rfl, p, dx, _, rfl, hp, mAdd _ _ _ _, _, rfl, B, p, z, 0, _, rfl, hw, R, fun H' R' => q _ .word H' R'⟩
  | true =>
    refine ⟨_, rfl, p, _, dx, _, _, rfl, hp, X.cl_NestReader, X.n_closed, fl_c _ _ _ _, _, rfl, iteF ?_⟩
    refine ⟨_, rfl, rfl, _, rfl, iteNe (fun hn => ?_) (fun he => ?_)⟩
    · have ls := shown_str hz
      have e0 : Str.empty.length = 0 := rfl
      have l1 : (Str.ofString " stands behind a closed bracket").length = 31 := by decide
      have hsz : sizeLine = 16777216 := by decide
      refine ⟨_, rfl, .str z, .str z, by simp only [PyData.showable], by simp only [PyData.hasDict], by simp only [PyData.depth]; decide, by omega, _, rfl, by rw [app_len, e0]; omega, _, rfl, by rw [app_len, app_len, e0, l1]; omega, (by show 1 ≤ 10; decide), qe ?_⟩
      rintro ⟨rs', h⟩
      cases h with
      | again => exact hn (by decide)
    · have ez : z = mkS [] := by
        rw [V.str.inj he]
        decide
      subst ez
      exact q _ .again H R
theorem ok_count (X : Tx K mg T) : FnOk P w K mg base (CXe P w) 1 T.qcountin T.d_qcountin ["self"] (spCount T.k_NestReader T.k_NoText) := by
  refine X.F_qcountin.okE sc_qcountin (fun vs H Q E h => ?_) (fun cdv A outer s H vs Q E hr h => ?_)
  · obtain ⟨_, _, _, _, _, rfl, _⟩ := h
    rfl
  obtain ⟨B, p, rs, opp, cl, rfl, R, q, qe⟩ := h
  refine ⟨_, (qss_cons (qs_if (qt_not (qt_truth (qe_fld (qv 0) rfl) (fun _ => rfl))) (qss_one (qs_raise rfl rfl X.m_NoText X.e_NoText (qaC qe_str qa_nil) xe_raise)) qss_nil) (qss_cons (qs_augS (qe_fld (qv 0) rfl) (qe_un un_neg qe_int) get_list qe_int ip_add set_list) (qss_one (qs_fld (qv 0) qe_bl rfl)))), ?_⟩
  rcases snoc_or opp with rfl | ⟨op, ⟨z, c⟩, rfl⟩
  · obtain ⟨sm, np, dx, lr, lo, lc, us, hp, b1, b2, b3, nro, nrc, noc, hlr, hrs, hlo, hlc⟩ := R
    exact ⟨_, rfl, p, _, dx, _, _, rfl, hp, X.cl_NestReader, X.n_open_words, fl_o _ _ _ _, false, .inl ⟨_, SqL.of hlo, rfl⟩, iteT ⟨(by show 1 ≤ 10; decide), qe rfl⟩⟩
  have q := q op z c rfl
  obtain ⟨sm, np, dx, lr, lo, lc, us, hp, b1, b2, b3, nro, nrc, noc, hlr, hrs, hlo, hlc⟩ := R
  have hlc' : H lc = some (.lst (opC op ++ [.int (c : Int)])) := by rw [hlc]; exact congrArg (fun x => some (HO.lst x)) (opC_snoc op z c)
  have npc : p ≠ lc := ne_of hp hlc (fun z => nomatch z)
  refine ⟨_, rfl, p, _, dx, _, _, rfl, hp, X.cl_NestReader, X.n_open_words, fl_o _ _ _ _, true, .inl ⟨_, SqL.of hlo, by simp [opW]⟩, iteF ?_⟩
  refine ⟨_, rfl, p, _, dx, _, _, rfl, hp, X.cl_NestReader, X.n_inner_counts, fl_i _ _ _ _, _, rfl, lc, _, -1, _, rfl, rfl, (by decide), SqL.of hlc', atI_last' _ _, _, _, rfl, rfl, lc, _, -1, _, rfl, rfl, hlc', ixN_last _ _, ?_⟩
  rw [set_last]
  have hp1 : upd H lc (.lst (opC op ++ [.int ((c : Int) + 1)])) p = some (.ins T.k_NestReader dx (flds (.ref lr) (.ref lo) (.ref lc) (.bl cl))) := by rw [upd_ne npc]; exact hp
  refine ⟨_, rfl, p, _, dx, _, rfl, hp1, X.cl_NestReader, X.n_closed, fl_few _ _ _ _, ?_⟩
  rw [put_c]
  have nrp : lr ≠ p := ne_of hlr hp (fun z => nomatch z)
  have nop : lo ≠ p := ne_of hlo hp (fun z => nomatch z)
  refine q _ ⟨same_upd np (same_upd b3 sm), np, dx, lr, lo, lc, us, upd_same, b1, b2, b3, nro, nrc, noc, by rw [upd_ne nrp, upd_ne nrc]; exact hlr, hrs.imp fun _ _ => RwIs.same ((sameT_lst hlc).trans (sameT_ins hp1)), ?_, ?_⟩
  · rw [upd_ne nop, upd_ne noc, hlo, opW_snoc, opW_snoc]
  · rw [upd_ne npc.symm, upd_same, opC_snoc]
    rfl
theorem ok_close (X : Tx K mg T) : FnOk P w K mg base CX0 2 T.qclosebracket T.d_qclosebracket ["self"] (spClose T.k_NestReader) := by
  have G_qaddrow := ok_add (P := P) (w := w) (base := base) X
  refine X.F_qclosebracket.okQ sc_qclosebracket (fun vs H Q E h => ?_) (fun cdv A outer s H vs Q E hr h => ?_)
  · obtain ⟨_, _, _, _, _, _, _, rfl, _⟩ := h
    rfl
  obtain ⟨B, p, z, c, rs, op, cl, rfl, hw, R, q⟩ := h
  refine ⟨_, (qss_cons (qs_set (i := 1) sc_qclosebracket.nd rfl (Or.inl rfl) (qe_bm0 PySem.F.plainAttrs_list PySem.F.slot_list_pop PySem.F.type_list_pop mt_pop (qe_fld (qv 0) rfl))) (qss_cons (qs_expr (qe_meth (qv 0) X.cl_NestReader X.h_qaddrow G_qaddrow hr X.b_qaddrow .nil pass0 (qaN (qv 1) (qaK (qe_bm0 PySem.F.plainAttrs_list PySem.F.slot_list_pop PySem.F.type_list_pop mt_pop (qe_fld (qv 0) rfl)) qa_nil)))) (qss_one (qs_fld (qv 0) qe_bl rfl)))), ?_⟩
  obtain ⟨sm, np, dx, lr, lo, lc, us, hp, b1, b2, b3, nro, nrc, noc, hlr, hrs, hlo, hlc⟩ := R
  have hlo' : H lo = some (.lst (opW op ++ [.str z])) := by rw [hlo]; exact congrArg (fun x => some (HO.lst x)) (opW_snoc op z c)
  have hlc' : H lc = some (.lst (opC op ++ [.int (c : Int)])) := by rw [hlc]; exact congrArg (fun x => some (HO.lst x)) (opC_snoc op z c)
  have npo : p ≠ lo := ne_of hp hlo (fun z => nomatch z)
  have npc : p ≠ lc := ne_of hp hlc (fun z => nomatch z)
  refine ⟨_, rfl, p, _, dx, _, _, rfl, hp, X.cl_NestReader, X.n_open_words, fl_o _ _ _ _, .inl ⟨rfl, _, SqL.of hlo'⟩, lo, _, .str z, rfl, rfl, hlo', by simp, ?_⟩
  rw [List.dropLast_concat]
  have hp1 : upd H lo (.lst (opW op)) p = some (.ins T.k_NestReader dx (flds (.ref lr) (.ref lo) (.ref lc) (.bl cl))) := by rw [upd_ne npo]; exact hp
  have hlc1 : upd H lo (.lst (opW op)) lc = some (.lst (opC op ++ [.int (c : Int)])) := by rw [upd_ne noc.symm]; exact hlc'
  refine ⟨_, rfl, p, dx, _, rfl, hp1, mAdd _ _ _ _, _, rfl, _, rfl, p, _, dx, _, _, rfl, hp1, X.cl_NestReader, X.n_inner_counts, fl_i _ _ _ _, .inl ⟨rfl, _, SqL.of hlc1⟩, lc, _, .int (c : Int), rfl, rfl, hlc1, by simp, ?_⟩
  rw [List.dropLast_concat]
  have R1 : RdAt T.k_NestReader B (upd (upd H lo (.lst (opW op))) lc (.lst (opC op))) p ⟨rs, op, cl⟩ := by
    refine ⟨same_upd b3 (same_upd b2 sm), np, dx, lr, lo, lc, us, by rw [upd_ne npc]; exact hp1, b1, b2, b3, nro, nrc, noc, by rw [upd_ne nrc, upd_ne nro]; exact hlr, hrs.imp fun _ _ => RwIs.same ((sameT_lst hlo).trans (sameT_lst hlc1)), by rw [upd_ne noc, upd_same], upd_same⟩
  refine ⟨B, p, z, c, ⟨rs, op, cl⟩, rfl, hw, R1, fun H2 R2 => ?_⟩
  obtain ⟨sm2, _, dx2, lr2, lo2, lc2, us2, hp2, c1, c2, c3, mro, mrc, moc, klr, krs, klo, klc⟩ := R2
  refine ⟨_, rfl, p, _, dx2, _, rfl, hp2, X.cl_NestReader, X.n_closed, fl_few _ _ _ _, ?_⟩
  rw [put_c]
  have nrp : lr2 ≠ p := ne_of klr hp2 (fun z => nomatch z)
  have nop : lo2 ≠ p := ne_of klo hp2 (fun z => nomatch z)
  have ncp : lc2 ≠ p := ne_of klc hp2 (fun z => nomatch z)
  exact q _ ⟨same_upd np sm2, np, dx2, lr2, lo2, lc2, us2, upd_same, c1, c2, c3, mro, mrc, moc, by rw [upd_ne nrp]; exact klr, krs.imp fun _ _ => RwIs.same (sameT_ins hp2), by rw [upd_ne nop]; exact klo, by rw [upd_ne ncp]; exact klc⟩
theorem ok_all (X : Tx K mg T) : FnOk P w K mg base (CXe P w) 1 T.qallrows T.d_qallrows ["self"] (spAll T.k_NestReader T.k_NoText) := by
  refine X.F_qallrows.okE sc_qallrows (fun vs H Q E h => ?_) (fun cdv A outer s H vs Q E hr h => ?_)
  · obtain ⟨_, _, _, _, _, rfl, _⟩ := h
    rfl
  obtain ⟨B, p, rs, op, cl, rfl, R, q, qe⟩ := h
  refine ⟨_, (qss_cons (qs_if (qt_truth (qe_fld (qv 0) rfl) (fun _ => rfl)) (qss_one (qs_raise rfl rfl X.m_NoText X.e_NoText (qaC qe_str qa_nil) xe_raise)) qss_nil) (qss_one (qs_ret (qe_fld (qv 0) rfl)))), ?_⟩
  obtain ⟨sm, np, dx, lr, lo, lc, us, hp, b1, b2, b3, nro, nrc, noc, hlr, hrs, hlo, hlc⟩ := R
  cases op with
  | nil =>
    refine ⟨_, rfl, p, _, dx, _, _, rfl, hp, X.cl_NestReader, X.n_open_words, fl_o _ _ _ _, false, .inl ⟨_, SqL.of hlo, rfl⟩, iteF ?_⟩
    exact ⟨_, rfl, p, _, dx, _, _, rfl, hp, X.cl_NestReader, X.n_rows, fl_r _ _ _ _, q rfl lr us b1 hlr hrs⟩
  | cons x xs =>
    exact ⟨_, rfl, p, _, dx, _, _, rfl, hp, X.cl_NestReader, X.n_open_words, fl_o _ _ _ _, true, .inl ⟨_, SqL.of hlo, rfl⟩, iteT ⟨(by show 1 ≤ 10; decide), qe (List.cons_ne_nil _ _)⟩⟩
end
end K24
set_option Elab.async false
set_option linter.all false
set_option maxRecDepth 100000
set_option maxHeartbeats 4000000
namespace K24
open PySem L2 NS TR
open TM
theorem rebase {C : Addr} {B H1 H2 : Hp} {p : Addr} {st : Ms} (R : RdAt C B H1 p st) (s : Same H1 H2) :
    ∃ B', RdAt C B' H2 p st ∧ Same B B' ∧ (∀ b o, H2 b = some o → H1 b = none → B' b = some o) ∧ SameT H2 B' := by
  obtain ⟨sm, np, dx, lr, lo, lc, us, hp, b1, b2, b3, nro, nrc, noc, hlr, hrs, hlo, hlc⟩ := R
  have nn : ∀ b, b ≠ p → b ≠ lr → b ≠ lo → b ≠ lc → (fun b => if b = p ∨ b = lr ∨ b = lo ∨ b = lc then none else H2 b) b = H2 b := fun b h1 h2 h3 h4 => if_neg (by rintro (h | h | h | h); exact h1 h; exact h2 h; exact h3 h; exact h4 h)
  refine ⟨fun b => if b = p ∨ b = lr ∨ b = lo ∨ b = lc then none else H2 b, ⟨fun b o e => ?_, if_pos (.inl rfl), dx, lr, lo, lc, us, s _ _ hp, if_pos (.inr (.inl rfl)), if_pos (.inr (.inr (.inl rfl))), if_pos (.inr (.inr (.inr rfl))), nro, nrc, noc, s _ _ hlr, hrs.imp fun _ _ => RwIs.same (sameT s), s _ _ hlo, s _ _ hlc⟩, fun b o e => ?_, fun b o e n => ?_, fun b xs e => ?_⟩
  · by_cases h : b = p ∨ b = lr ∨ b = lo ∨ b = lc
    · rw [if_pos h] at e; cases e
    · rw [if_neg h] at e; exact e
  · rw [nn b (ne_of_none e np) (ne_of_none e b1) (ne_of_none e b2) (ne_of_none e b3)]
    exact s _ _ (sm _ _ e)
  · rw [nn b (fun z => by rw [z, hp] at n; cases n) (fun z => by rw [z, hlr] at n; cases n) (fun z => by rw [z, hlo] at n; cases n) (fun z => by rw [z, hlc] at n; cases n)]
    exact e
  · rw [nn b (ne_of e (s _ _ hp) (fun z => nomatch z)) (ne_of e (s _ _ hlr) (fun z => nomatch z)) (ne_of e (s _ _ hlo) (fun z => nomatch z)) (ne_of e (s _ _ hlc) (fun z => nomatch z))]
    exact e
theorem m40 : V.str (mkS [40]) = V.str "(" := by decide
theorem m41 : ¬ V.str (mkS [41]) = V.str "(" := by decide
theorem m32 : ¬ V.str (mkS [32]) = V.str "(" := by decide
theorem m0 : ¬ V.str (mkS []) = V.str "(" := by decide
theorem e0 : V.str (mkS []) = V.str "" := by decide
theorem e41 : ¬ V.str (mkS [41]) = V.str "" := by decide
theorem e32 : ¬ V.str (mkS [32]) = V.str "" := by decide
theorem c41 : V.str (mkS [41]) = V.str ")" := by decide
theorem c32 : ¬ V.str (mkS [32]) = V.str ")" := by decide
theorem c0 : ¬ V.str (mkS []) = V.str ")" := by decide
theorem mBegin (r o i c : V) : (flds r o i c).lookup ("begin" : Str) = none := fl_no _ _ _ _ (by decide +kernel) (by decide +kernel) (by decide +kernel) (by decide +kernel)
theorem mEnd (r o i c : V) : (flds r o i c).lookup ("end_word" : Str) = none := fl_no _ _ _ _ (by decide +kernel) (by decide +kernel) (by decide +kernel) (by decide +kernel)
theorem mCount (r o i c : V) : (flds r o i c).lookup ("count_in" : Str) = none := fl_no _ _ _ _ (by decide +kernel) (by decide +kernel) (by decide +kernel) (by decide +kernel)
theorem mClose (r o i c : V) : (flds r o i c).lookup ("close_bracket" : Str) = none := fl_no _ _ _ _ (by decide +kernel) (by decide +kernel) (by decide +kernel) (by decide +kernel)
theorem mAll (r o i c : V) : (flds r o i c).lookup ("all_rows" : Str) = none := fl_no _ _ _ _ (by decide +kernel) (by decide +kernel) (by decide +kernel) (by decide +kernel)
theorem RdAt.ins {C : Addr} {B H : Hp} {p : Addr} {st : Ms} (R : RdAt C B H p st) : ∃ dx lr lo lc, H p = some (.ins C dx (flds lr lo lc (.bl st.cl))) := by
  obtain ⟨_, _, dx, lr, lo, lc, _, h, _⟩ := R
  exact ⟨dx, _, _, _, h⟩
def spDeep : Sp := fun vs H Q _ => ∃ (l : Addr) (us : List V) (rs : List Row), vs = [.ref l] ∧ H l = some (.lst us) ∧ L2R (RwIs H) rs us ∧ rs ≠ [] ∧ rs.length ≤ 50000 ∧ ∀ (M : Int) (H' : Hp), (∃ x ∈ rs, M = (x.2.2 : Int)) → (∀ x ∈ rs, (x.2.2 : Int) ≤ M) → Same H H' → Q (.int M) H'
theorem mkS_inj {a b : List Nat} (h : mkS a = mkS b) : a = b := by
  have := congrArg (fun s : Str => s.cps.toList) h
  simpa [mk_list] using this
theorem endd_det {st : Ms} {w : Str} {a b : List Row} (h1 : Endd st w a) (h2 : Endd st w b) : a = b := by
  cases h1 <;> cases h2 <;> rfl
theorem step_inv {st st1 : Ms} {w s : Str} (h : NS.Step 32 st (w, s) st1) : (s = mkS [40] ∧ st.cl = false ∧ st1 = ⟨st.rs, st.op ++ [(w, 0)], false⟩) ∨
    (∃ rs' op o c, st.op = op ++ [(o, c)] ∧ Endd st w rs' ∧ ((s = mkS [32] ∧ st1 = ⟨rs', op ++ [(o, c + 1)], false⟩) ∨ (s = mkS [41] ∧ st1 = ⟨rs' ++ [(o, c + 1, op.length + 1)], op, true⟩))) ∨
    (∃ rs', Endd st w rs' ∧ s = mkS [] ∧ st1 = ⟨rs', st.op, st.cl⟩) := by
  generalize hp : (w, s) = p at h
  cases h with
  | opn => cases hp; exact .inl ⟨rfl, rfl, rfl⟩
  | mid he => cases hp; exact .inr (.inl ⟨_, _, _, _, rfl, he, .inl ⟨rfl, rfl⟩⟩)
  | cls he => cases hp; exact .inr (.inl ⟨_, _, _, _, rfl, he, .inr ⟨rfl, rfl⟩⟩)
  | fin he => cases hp; exact .inr (.inr ⟨_, he, rfl, rfl⟩)
theorem snoc_inj {α : Type} {a b : List α} {x y : α} (h : a ++ [x] = b ++ [y]) : a = b ∧ x = y := by
  have h1 := List.append_inj' h rfl
  exact ⟨h1.1, by simpa using h1.2⟩
theorem step_det {st s1 s2 : Ms} {p : Str × Str} (h1 : NS.Step 32 st p s1) (h2 : NS.Step 32 st p s2) : s1 = s2 := by
  obtain ⟨w, s⟩ := p
  rcases step_inv h1 with ⟨e1, c1, rfl⟩ | ⟨r1, o1, w1, n1, q1, d1, ⟨e1, rfl⟩ | ⟨e1, rfl⟩⟩ | ⟨r1, d1, e1, rfl⟩ <;> subst e1 <;>
  rcases step_inv h2 with ⟨e2, c2, rfl⟩ | ⟨r2, o2, w2, n2, q2, d2, ⟨e2, rfl⟩ | ⟨e2, rfl⟩⟩ | ⟨r2, d2, e2, rfl⟩ <;>
  first
  | rfl
  | (exact absurd (mkS_inj e2) (by decide))
  | (have hr := endd_det d1 d2; subst hr; first | rfl | (rw [q1] at q2; obtain ⟨rfl, e⟩ := snoc_inj q2; cases e; rfl))
theorem run_snoc {a b c : Ms} {ps : List (Str × Str)} {p : Str × Str} : NS.Run 32 a ps b → NS.Step 32 b p c → NS.Run 32 a (ps ++ [p]) c := by
  induction ps generalizing a with
  | nil => intro h1 h2; have h1 : a = b := h1; subst h1; exact ⟨c, h2, rfl⟩
  | cons x xs ih => rintro ⟨d, h, g⟩ h2; exact ⟨d, h, ih g h2⟩
theorem run_app {a c : Ms} {ps qs : List (Str × Str)} : NS.Run 32 a (ps ++ qs) c → ∃ b, NS.Run 32 a ps b ∧ NS.Run 32 b qs c := by
  induction ps generalizing a with
  | nil => intro h; exact ⟨a, rfl, h⟩
  | cons x xs ih =>
    rintro ⟨d, h, g⟩
    obtain ⟨b, g1, g2⟩ := ih g
    exact ⟨b, ⟨d, h, g1⟩, g2⟩
theorem run_det {a b c : Ms} {ps : List (Str × Str)} : NS.Run 32 a ps b → NS.Run 32 a ps c → b = c := by
  induction ps generalizing a with
  | nil => intro h1 h2; exact (show a = b from h1).symm.trans h2
  | cons x xs ih => rintro ⟨d, h, g⟩ ⟨d', h', g'⟩; have := step_det h h'; subst this; exact ih g g'
theorem pcs_in {sep : Nat} : ∀ {z acc : List Nat} {p : Str × Str}, p ∈ NS.pcs sep acc z → (∀ c ∈ p.1.cps.toList, c ∈ acc ∨ c ∈ z) ∧ p.1.cps.toList.length ≤ acc.length + z.length ∧ (p.2 = mkS [] ∨ ∃ c, stp sep c = true ∧ p.2 = mkS [c])
  | [], acc, p, h => by
    rw [NS.pcs] at h
    rw [List.mem_singleton.mp h]
    exact ⟨fun c hc => .inl (by rw [mk_list] at hc; exact hc), by rw [mk_list]; simp, .inl rfl⟩
  | c :: r, acc, p, h => by
    rw [NS.pcs] at h
    split at h
    · rename_i hc
      rcases List.mem_cons.mp h with rfl | h
      · exact ⟨fun d hd => .inl (by rw [mk_list] at hd; exact hd), by rw [mk_list]; simp, .inr ⟨c, hc, rfl⟩⟩
      · obtain ⟨a, b, d⟩ := pcs_in h
        refine ⟨fun x hx => ?_, by simp at b ⊢; omega, d⟩
        rcases a x hx with h | h
        · cases h
        · exact .inr (List.mem_cons_of_mem _ h)
    · obtain ⟨a, b, d⟩ := pcs_in h
      refine ⟨fun x hx => ?_, by simp at b ⊢; omega, d⟩
      rcases a x hx with h | h
      · rcases List.mem_append.mp h with h | h
        · exact .inl h
        · exact .inr (by rw [List.mem_singleton.mp h]; exact List.mem_cons_self)
      · exact .inr (List.mem_cons_of_mem _ h)
theorem stp_cases {c : Nat} (h : stp 32 c = true) : c = 40 ∨ c = 32 ∨ c = 41 := by
  unfold stp at h
  simp only [Bool.or_eq_true, beq_iff_eq] at h
  omega
abbrev ini : Ms := ⟨[], [], false⟩
def spNest (N : Addr) : Sp := fun vs H Q E => ∃ (z : Str), vs = [.str z, .str " "] ∧ TxOk z ∧
  (∀ st, NS.Run 32 ini (NS.pcs 32 [] z.cps.toList) st → st.op = [] → ∀ D us H', Same H H' → H D = none → H' D = some (.lst us) → L2R (RwIs H') st.rs us → Q (.ref D) H') ∧
  ((∀ st, NS.Run 32 ini (NS.pcs 32 [] z.cps.toList) st → st.op ≠ []) → ∀ H', Same H H' → E (.ref N) none H')
theorem st3 : (Str.ofString "(" ++ Str.ofString " " ++ Str.ofString ")") = S3 := by decide +kernel
section
variable {P : Program} {w : World} {K : PySem.W.Frag} {mg : Str → Option Value} {base : Heap} {T : Adr}
theorem ok_nest (X : Tx K mg T) : FnOk P w K mg base (CXe P w) 4 T.qnestrows T.d_qnestrows ["text", "between"] (spNest T.k_NoText) := by
  have G_qinit := (ok_init (P := P) (w := w) (base := base) X).mono (show 1 ≤ 2 by decide)
  have G_qpieces := (ok_pieces (P := P) (w := w) (base := base) X).mono (show 1 ≤ 3 by decide)
  have G_qbegin := (ok_begin (P := P) (w := w) (base := base) X).mono (show 1 ≤ 3 by decide)
  have G_qendword := (ok_end (P := P) (w := w) (base := base) X).mono (show 2 ≤ 3 by decide)
  have G_qcountin := (ok_count (P := P) (w := w) (base := base) X).mono (show 1 ≤ 3 by decide)
  have G_qclosebracket := (ok_close (P := P) (w := w) (base := base) X).mono (show 2 ≤ 3 by decide)
  have G_qallrows := (ok_all (P := P) (w := w) (base := base) X).mono (show 1 ≤ 3 by decide)
  refine X.F_qnestrows.okE sc_qnestrows (fun vs H Q E h => ?_) (fun cdv A outer s H vs Q E hr h => ?_)
  · obtain ⟨_, rfl, _⟩ := h
    rfl
  obtain ⟨z, rfl, hz, q, qe⟩ := h
  refine ⟨_, (qss_cons (qs_set (i := 2) sc_qnestrows.nd rfl (Or.inl rfl) (qe_make0 X.mk_NestReader G_qinit hr rfl X.m_NestReader X.b_qinit .nil pass0)) (qss_cons (qs_for PassesOwn.leaving rfl (qi_list (qe_call G_qpieces hr rfl X.m_qpieces X.F_qpieces.kp X.b_qpieces .nil pass0 (qaN (qv 0) (qaB (qe_op op_add_str (qe_op op_add_str qe_str (qv 1)) qe_str) qa_nil)))) (qg_tup rfl (qgs_cons (qg_name (i := 3) sc_qnestrows.nd rfl (Or.inl rfl)) (qgs_cons (qg_name (i := 4) sc_qnestrows.nd rfl (Or.inl rfl)) qgs_nil))) (qss_one (qs_if (qt_cmpR op_eq (qv 4) qe_str (nomark _)) (qss_one (qs_expr (qe_meth (qv 2) X.cl_NestReader X.h_qbegin G_qbegin hr X.b_qbegin .nil pass_on (qaN (qv 3) qa_nil)))) (qss_cons (qs_expr (qe_meth (qv 2) X.cl_NestReader X.h_qendword G_qendword hr X.b_qendword .nil pass_on (qaN (qv 3) qa_nil))) (qss_cons (qs_if (qt_cmpR op_ne (qv 4) qe_str (nomark _)) (qss_one (qs_expr (qe_meth0 (qv 2) X.cl_NestReader X.h_qcountin G_qcountin hr X.b_qcountin .nil pass_on))) qss_nil) (qss_one (qs_if (qt_cmpR op_eq (qv 4) qe_str (nomark _)) (qss_one (qs_expr (qe_meth0 (qv 2) X.cl_NestReader X.h_qclosebracket G_qclosebracket hr X.b_qclosebracket .nil pass0))) qss_nil))))))) (qss_one (qs_ret (qe_meth0 (qv 2) X.cl_NestReader X.h_qallrows G_qallrows hr X.b_qallrows .nil pass_on))))), ?_⟩
  intro p dx nx ndx nex
  have s0 : Same H (upd (upd H dx (.own p)) p (.ins T.k_NestReader dx [])) := fun b o e => by
    rw [upd_ne (ne_of_none e nx), upd_ne (ne_of_none e ndx)]
    exact e
  refine ⟨H, p, dx, rfl, upd_same, s0, nx, fun H1 R1 => ⟨rfl, ?_⟩⟩
  have hl0 := hz.1
  refine ⟨_, rfl, _, rfl, _, _, rfl, rfl, fits2 (by decide), _, _, rfl, rfl, fits2 (by decide), z, _, 32, rfl, by omega, fun c hc => by rw [st3]; exact in3 c (hz.2 c hc), by decide, fun l us H2 s2 nl hl hps => ?_⟩
  obtain ⟨B, R2, sB, new, sT⟩ := rebase R1 s2
  have hlB : B l = some (.lst us) := new _ _ hl nl
  have hpsB : L2R (PcIs B) (NS.pcs 32 [] z.cps.toList) us := hps.imp fun _ _ => PcIs.same sT
  have plen := NS.pcs_len 32 z.cps.toList []
  have ulen := hpsB.len
  have pin : ∀ p ∈ NS.pcs 32 [] z.cps.toList, TxOk p.1 ∧ (p.2 = mkS [] ∨ ∃ c, stp 32 c = true ∧ p.2 = mkS [c]) := fun p hp => by
    obtain ⟨a, b, c⟩ := pcs_in hp
    refine ⟨⟨by rw [len_list]; rw [len_list] at hl0; simp at b hl0 ⊢; omega, fun x hx => ?_⟩, c⟩
    rcases a x hx with h | h
    · cases h
    · exact hz.2 x h
  rw [← len_list] at plen
  generalize hpp : NS.pcs 32 [] z.cps.toList = pp at hpsB plen ulen pin q qe
  refine ⟨l, rfl, ⟨_, SqL.of hl⟩, for_list (K := K) (a := l) (xs := us) (fun j σ H' => (∃ x3 x4, σ = [some (.str z), some (.str " "), some (.ref p), x3, x4]) ∧ ∃ st, RdAt T.k_NestReader B H' p st ∧ NS.Run 32 ini (pp.take j) st ∧ st.rs.length ≤ 2 * j ∧ st.op.length ≤ j)
    ⟨⟨none, none, rfl⟩, _, R2, rfl, Nat.le_refl _, Nat.le_refl _⟩ (fun j σ H' _ ⟨_, st, R, _⟩ => SqL.of (R.sm _ _ hlB)) ?_ ?_⟩
  · rintro j y σ H' hy ⟨⟨x3, x4, rfl⟩, ⟨rs, op, cl⟩, R, hrun, hw1, hw2⟩
    obtain ⟨⟨wd, sp⟩, hpr, a, rfl, ha⟩ := hpsB.get hy
    have hj := lt_of_some hy
    have ha' := R.sm _ _ ha
    have hw1 : rs.length ≤ 2 * j := hw1
    have hw2 : op.length ≤ j := hw2
    have no : (¬ ∃ st1, NS.Step 32 ⟨rs, op, cl⟩ (wd, sp) st1) → ∀ H3, Same B H3 → E (.ref T.k_NoText) none H3 := fun h H3 s3 => qe (fun st hst => by
      obtain ⟨hj2, epr⟩ := List.getElem?_eq_some_iff.mp hpr
      rw [← List.take_append_drop j pp, List.drop_eq_getElem_cons hj2, epr] at hst
      obtain ⟨b, g1, d, g2, g3⟩ := run_app hst
      have := run_det g1 hrun
      subst this
      exact absurd ⟨_, g2⟩ h) H3 (sB.trans s3)
    have nx : ∀ st1, NS.Step 32 ⟨rs, op, cl⟩ (wd, sp) st1 → NS.Run 32 ini (pp.take (j + 1)) st1 ∧ st1.rs.length ≤ 2 * (j + 1) ∧ st1.op.length ≤ j + 1 := fun st1 h => by
      have w1 := NS.step_wt h
      have w3 : st1.rs.length ≤ rs.length + 2 ∧ st1.op.length ≤ op.length + 1 := w1
      refine ⟨?_, by omega, by omega⟩
      rw [take_snocA hpr]
      exact run_snoc hrun h
    obtain ⟨tw, hsp⟩ := pin (wd, sp) (List.mem_of_getElem? hpr)
    refine ⟨a, _, rfl, SqT.of ha', rfl, _, _, rfl, _, _, rfl, rfl, ?_⟩
    obtain ⟨dx1, lr1, lo1, lc1, hp1⟩ := R.ins
    have hsp : sp = mkS [40] ∨ sp = mkS [] ∨ sp = mkS [32] ∨ sp = mkS [41] := by
      rcases hsp with h | ⟨c, h1, h2⟩
      · exact .inr (.inl h)
      · rcases stp_cases h1 with rfl | rfl | rfl
        · exact .inl h2
        · exact .inr (.inr (.inl h2))
        · exact .inr (.inr (.inr h2))
    rcases hsp with rfl | rfl | rfl | rfl
    · refine ⟨_, rfl, rfl, _, rfl, iteYd m40 ⟨_, rfl, p, dx1, _, rfl, hp1, mBegin _ _ _ _, _, rfl, B, p, wd, rs, op, cl, rfl, by omega, R, (fun hc H3 R3 => ?_), fun hc => no ?_ _ R.sm⟩⟩
      · subst hc
        obtain ⟨n1, n2, n3⟩ := nx _ .opn
        exact ⟨⟨_, _, rfl⟩, _, R3, n1, n2, n3⟩
      · rintro ⟨st1, h⟩
        rcases step_inv h with ⟨_, e, _⟩ | ⟨_, _, _, _, _, _, ⟨e, _⟩ | ⟨e, _⟩⟩ | ⟨_, _, e, _⟩
        · rw [hc] at e; cases e
        · exact absurd (mkS_inj e) (by decide)
        · exact absurd (mkS_inj e) (by decide)
        · exact absurd (mkS_inj e) (by decide)
    · refine ⟨_, rfl, rfl, _, rfl, iteNd m0 ⟨_, rfl, p, dx1, _, rfl, hp1, mEnd _ _ _ _, _, rfl, B, p, wd, _, rfl, tw, by show rs.length ≤ 90000; omega, R, (fun rs' he H3 R3 => ?_), fun hn => no ?_ _ R.sm⟩⟩
      · obtain ⟨n1, n2, n3⟩ := nx _ (.fin he)
        exact ⟨_, rfl, rfl, _, rfl, iteNS e0 ⟨_, rfl, rfl, _, rfl, iteNd c0 ⟨⟨_, _, rfl⟩, _, R3, n1, n2, n3⟩⟩⟩
      · rintro ⟨st1, h⟩
        rcases step_inv h with ⟨e, _⟩ | ⟨_, _, _, _, _, d, _⟩ | ⟨_, d, _⟩
        · exact absurd (mkS_inj e) (by decide)
        · exact hn ⟨_, d⟩
        · exact hn ⟨_, d⟩
    · refine ⟨_, rfl, rfl, _, rfl, iteNd m32 ⟨_, rfl, p, dx1, _, rfl, hp1, mEnd _ _ _ _, _, rfl, B, p, wd, _, rfl, tw, by show rs.length ≤ 90000; omega, R, (fun rs' he H3 R3 => ?_), fun hn => no ?_ _ R.sm⟩⟩
      · obtain ⟨dx3, lr3, lo3, lc3, hp3⟩ := R3.ins
        refine ⟨_, rfl, rfl, _, rfl, iteNe (fun _ => ?_) (fun z => absurd z e32)⟩
        refine ⟨_, rfl, p, dx3, _, rfl, hp3, mCount _ _ _ _, B, p, rs', op, cl, rfl, R3, (fun o zz c eo H4 R4 => ?_), fun eo => no ?_ _ R3.sm⟩
        · subst eo
          obtain ⟨n1, n2, n3⟩ := nx _ (.mid he)
          exact ⟨_, rfl, rfl, _, rfl, iteNd c32 ⟨⟨_, _, rfl⟩, _, R4, n1, n2, n3⟩⟩
        · subst eo
          rintro ⟨st1, h⟩
          rcases step_inv h with ⟨e, _⟩ | ⟨_, o, _, _, eo, _, _⟩ | ⟨_, _, e, _⟩
          · exact absurd (mkS_inj e) (by decide)
          · exact absurd eo.symm (by simp)
          · exact absurd (mkS_inj e) (by decide)
      · rintro ⟨st1, h⟩
        rcases step_inv h with ⟨e, _⟩ | ⟨_, _, _, _, _, d, _⟩ | ⟨_, d, _⟩
        · exact absurd (mkS_inj e) (by decide)
        · exact hn ⟨_, d⟩
        · exact hn ⟨_, d⟩
    · refine ⟨_, rfl, rfl, _, rfl, iteNd m41 ⟨_, rfl, p, dx1, _, rfl, hp1, mEnd _ _ _ _, _, rfl, B, p, wd, _, rfl, tw, by show rs.length ≤ 90000; omega, R, (fun rs' he H3 R3 => ?_), fun hn => no ?_ _ R.sm⟩⟩
      · obtain ⟨dx3, lr3, lo3, lc3, hp3⟩ := R3.ins
        have er' : rs'.length ≤ rs.length + 1 := NS.endd_op he
        refine ⟨_, rfl, rfl, _, rfl, iteNe (fun _ => ?_) (fun z => absurd z e41)⟩
        refine ⟨_, rfl, p, dx3, _, rfl, hp3, mCount _ _ _ _, B, p, rs', op, cl, rfl, R3, (fun o zz c eo H4 R4 => ?_), fun eo => no ?_ _ R3.sm⟩
        · subst eo
          obtain ⟨n1, n2, n3⟩ := nx _ (.cls he)
          obtain ⟨dx4, lr4, lo4, lc4, hp4⟩ := R4.ins
          refine ⟨_, rfl, rfl, _, rfl, iteYd c41 ⟨_, rfl, p, dx4, _, rfl, hp4, mClose _ _ _ _, B, p, zz, c + 1, rs', o, false, rfl, by omega, R4, fun H5 R5 => ?_⟩⟩
          exact ⟨⟨_, _, rfl⟩, _, R5, n1, n2, n3⟩
        · subst eo
          rintro ⟨st1, h⟩
          rcases step_inv h with ⟨e, _⟩ | ⟨_, o, _, _, eo, _, _⟩ | ⟨_, _, e, _⟩
          · exact absurd (mkS_inj e) (by decide)
          · exact absurd eo.symm (by simp)
          · exact absurd (mkS_inj e) (by decide)
      · rintro ⟨st1, h⟩
        rcases step_inv h with ⟨e, _⟩ | ⟨_, _, _, _, _, d, _⟩ | ⟨_, d, _⟩
        · exact absurd (mkS_inj e) (by decide)
        · exact hn ⟨_, d⟩
        · exact hn ⟨_, d⟩
  · rintro σ H' ⟨⟨x3, x4, rfl⟩, ⟨rs, op, cl⟩, R, hrun, hw1, hw2⟩
    rw [List.take_of_length_le (by omega)] at hrun
    obtain ⟨dx1, lr1, lo1, lc1, hp1⟩ := R.ins
    refine ⟨_, rfl, p, dx1, _, rfl, hp1, mAll _ _ _ _, B, p, rs, op, cl, rfl, R, (fun eo lr us' nlr hlr hrs => q _ hrun eo lr us' H' (sB.trans R.sm) (sB.free nlr) hlr hrs), fun eo => qe (fun st hst => ?_) _ (sB.trans R.sm)⟩
    have := run_det hst hrun
    subst this
    exact eo
theorem ok_deep (X : Tx K mg T) : FnOk P w K mg base CX0 1 T.qdeepest T.d_qdeepest ["rows"] spDeep := by
  refine X.F_qdeepest.okQ sc_qdeepest (fun vs H Q E h => ?_) (fun cdv A outer s H vs Q E hr h => ?_)
  · obtain ⟨_, _, _, rfl, _⟩ := h
    rfl
  obtain ⟨l, us, rs, rfl, hl, hrs, hne, hlen, q⟩ := h
  refine ⟨_, (qss_one (qs_ret (qe_callB (call_maxL rfl) rfl X.z_max PyProof.Rows.boot_max (qaE (qe_compT (ts := ["word", "count", "level"]) (ys := []) (js := []) rfl rfl (qi_list (qv 0)) (fun _ _ _ _ _ => qg_tupC (K := K) (n := 3) rfl rfl (qgs_cons (qg_name (i := 0) (show (["word", "count", "level"] : List Str).Nodup by decide) rfl (Or.inl rfl)) (qgs_cons (qg_name (i := 1) (show (["word", "count", "level"] : List Str).Nodup by decide) rfl (Or.inl rfl)) (qgs_cons (qg_name (i := 2) (show (["word", "count", "level"] : List Str).Nodup by decide) rfl (Or.inl rfl)) qgs_nil)))) (fun _ _ _ _ _ => qif_nil) (fun _ _ _ _ _ => (qv 2))) qa_nil)))), ?_⟩
  have lus := hrs.len
  refine ⟨_, rfl, l, rfl, ⟨_, SqL.of hl⟩, fun D hD => ?_⟩
  refine compT_lst (K := K) (xs := us) (ys := (rs.map fun x => (x.2.2 : Int)).map V.int) (fitsL (by omega)) (by rw [List.length_map, List.length_map, lus]) (SqL.of hl) hD (fun i x y H' hx hy sm Q' q' => ?_) (fun H' sm hd => ?_)
  · obtain ⟨r, hr', t, rfl, ht⟩ := hrs.get hx
    have e : y = V.int (r.2.2 : Int) := by
      rw [List.getElem?_map, List.getElem?_map, hr'] at hy
      exact (Option.some.inj hy).symm
    rw [e] at q'
    exact ⟨t, _, rfl, SqT.of (sm _ _ ht), rfl, _, _, rfl, _, _, rfl, _, _, rfl, rfl, [some _, some _, some _], rfl, rfl, _, rfl, q' _ (Same.refl _)⟩
  · refine ⟨D, rs.map fun x => (x.2.2 : Int), rfl, SqL.of hd, fun z => hne (List.map_eq_nil_iff.mp z), fun M hM hB => q M H' ?_ (fun x hx => hB _ (List.mem_map.mpr ⟨x, hx, rfl⟩)) sm⟩
    obtain ⟨x, hx, rfl⟩ := List.mem_map.mp hM
    exact ⟨x, hx, rfl⟩
end
end K24
set_option Elab.async false
set_option linter.all false
set_option maxRecDepth 100000
set_option maxHeartbeats 4000000
namespace K24
open PySem L2 NS TR
open TM
def hide (H : Hp) (l : Addr) : Hp := fun b => if b = l then none else H b
theorem hide_ne {H : Hp} {l b : Addr} (h : b ≠ l) : hide H l b = H b := if_neg h
theorem hide_self {H : Hp} {l : Addr} : hide H l l = none := if_pos rfl
theorem hide_at {H : Hp} {l b : Addr} {o : HO} (h : hide H l b = some o) : b ≠ l ∧ H b = some o := by
  by_cases e : b = l
  · rw [e, hide_self] at h; cases h
  · rw [hide_ne e] at h; exact ⟨e, h⟩
theorem hide_same {H : Hp} {l : Addr} : Same (hide H l) H := fun b o h => (hide_at h).2
def spTake : Sp := fun vs H Q _ => ∃ (r : Addr) (c : Nat) (xs ys : List V), vs = [.ref r, .int (c : Int)] ∧ H r = some (.lst (xs ++ ys)) ∧ ys.length = c ∧ c ≤ 50000 ∧ ∀ t H', Same (hide H r) H' → H' r = some (.lst xs) → H' t = some (.tup ys) → Q (.ref t) H'
theorem nd_mem {nm : Str} {mk : Int} (hn : NmOk nm) (h0 : 0 ≤ mk) {c : Nat} (h : c ∈ ndT nm mk) : letOk c = true ∨ c = 58 ∨ figOk c = true := by
  unfold ndT at h
  rcases List.mem_append.mp h with h | h
  · exact .inl (hn.2.2 c h)
  · by_cases e : mk = 0
    · rw [if_pos e] at h; cases h
    · rw [if_neg e] at h
      rcases List.mem_cons.mp h with h | h
      · exact .inr (.inl h)
      · exact .inr (.inr (num_figs h0 c h))
theorem nd_asc {nm : Str} {mk : Int} (hn : NmOk nm) (h0 : 0 ≤ mk) {c : Nat} (h : c ∈ ndT nm mk) : c < 128 := by
  rcases nd_mem hn h0 h with h | h | h
  · exact let_lt h
  · omega
  · exact fig_lt h
theorem stp_let {c : Nat} (h : letOk c = true) : stp 32 c = false := by
  unfold letOk at h
  rw [Bool.and_eq_true, decide_eq_true_eq, decide_eq_true_eq] at h
  unfold stp
  rw [beq_eq_false_iff_ne.mpr (by omega), beq_eq_false_iff_ne.mpr (by omega), beq_eq_false_iff_ne.mpr (by omega)]
  rfl
theorem stp_fig {c : Nat} (h : figOk c = true) : stp 32 c = false := by
  unfold figOk at h
  rw [Bool.and_eq_true, decide_eq_true_eq, decide_eq_true_eq] at h
  unfold stp
  rw [beq_eq_false_iff_ne.mpr (by omega), beq_eq_false_iff_ne.mpr (by omega), beq_eq_false_iff_ne.mpr (by omega)]
  rfl
theorem nd_stp {nm : Str} {mk : Int} (hn : NmOk nm) (h0 : 0 ≤ mk) {c : Nat} (h : c ∈ ndT nm mk) : stp 32 c = false := by
  rcases nd_mem hn h0 h with h | h | h
  · exact stp_let h
  · rw [h]; decide
  · exact stp_fig h
theorem nd_len {nm : Str} {mk : Int} (hn : NmOk nm) (h0 : 0 ≤ mk) (h1 : mk < 1000000000000000000) : (ndT nm mk).length ≤ 27 := by
  unfold ndT
  rw [List.length_append]
  have := hn.2.1
  have := (num_len h0 h1).2
  split
  · simp only [List.length_nil]; omega
  · rw [List.length_cons]; omega
mutual
theorem cl_T : ∀ (t : Tr), Wt t → Cl 32 (nsT t)
  | .node nm mk bs, h => by
    cases h with
    | node hn h0 h1 hb =>
      rw [nsT]
      exact .n (fun c hc => nd_stp hn h0 hc) (cl_Ts bs hb)
theorem cl_Ts : ∀ (ts : List Tr), (∀ t ∈ ts, Wt t) → ∀ i ∈ nsTs ts, Cl 32 i
  | [], _, i, hi => by rw [nsTs] at hi; cases hi
  | t :: ts, h, i, hi => by
    rw [nsTs] at hi
    rcases List.mem_cons.mp hi with e | hi
    · rw [e]; exact cl_T t (h t (by simp))
    · exact cl_Ts ts (fun x hx => h x (by simp [hx])) i hi
end
theorem brk_inn (sep : Nat) : ∀ {is : List Ns}, is ≠ [] → brk sep is = 40 :: (inn sep is ++ [41])
  | [], h => absurd rfl h
  | i :: is, _ => by rw [brk, inn, List.append_assoc]
mutual
theorem len_T : ∀ (t : Tr), Wt t → (txt 32 (nsT t)).length + 1 ≤ 30 * size t
  | .node nm mk bs, h => by
    cases h with
    | node hn h0 h1 hb =>
      have a := nd_len hn h0 h1
      have b := len_Ts bs hb
      rw [nsT, txt, size, List.length_append]
      cases bs with
      | nil =>
        rw [nsTs, brk]
        simp only [List.length_nil]
        omega
      | cons x xs =>
        rw [nsTs, txts] at b
        rw [nsTs, brk]
        simp only [List.length_cons, List.length_append, List.length_nil] at b ⊢
        omega
theorem len_Ts : ∀ (ts : List Tr), (∀ t ∈ ts, Wt t) → (txts 32 (nsTs ts)).length ≤ 30 * sizes ts
  | [], _ => by rw [nsTs, txts]; exact Nat.zero_le _
  | t :: ts, h => by
    have a := len_T t (h t (by simp))
    have b := len_Ts ts fun x hx => h x (by simp [hx])
    rw [nsTs, txts, sizes, List.length_cons, List.length_append]
    omega
end
mutual
theorem asc_T : ∀ (t : Tr), Wt t → ∀ c ∈ txt 32 (nsT t), c < 128
  | .node nm mk bs, h, c, hc => by
    cases h with
    | node hn h0 h1 hb =>
      rw [nsT, txt] at hc
      rcases List.mem_append.mp hc with hc | hc
      · exact nd_asc hn h0 hc
      · cases bs with
        | nil => rw [nsTs, brk] at hc; cases hc
        | cons x xs =>
          have ih := asc_Ts (x :: xs) hb
          rw [nsTs, txts] at ih
          rw [nsTs, brk] at hc
          rcases List.mem_cons.mp hc with rfl | hc
          · decide
          · rw [← List.append_assoc] at hc
            rcases List.mem_append.mp hc with hc | hc
            · exact ih c (by simp only [List.mem_cons]; exact .inr hc)
            · rw [List.mem_singleton.mp hc]; decide
theorem asc_Ts : ∀ (ts : List Tr), (∀ t ∈ ts, Wt t) → ∀ c ∈ txts 32 (nsTs ts), c < 128
  | [], _, c, hc => by rw [nsTs, txts] at hc; cases hc
  | t :: ts, h, c, hc => by
    rw [nsTs, txts] at hc
    rcases List.mem_cons.mp hc with rfl | hc
    · decide
    · rcases List.mem_append.mp hc with hc | hc
      · exact asc_T t (h t (by simp)) c hc
      · exact asc_Ts ts (fun x hx => h x (by simp [hx])) c hc
end
def shT (t : Tr) : Str := mkS (txt 32 (nsT t))
theorem shT_len {t : Tr} (h : Wt t) : (shT t).length < 30 * size t := by
  rw [len_list]
  unfold shT
  rw [mk_list]
  have := len_T t h
  omega
theorem tl_T : ∀ ts : List Tr, tl 32 (ts.map shT) = txts 32 (nsTs ts)
  | [] => by rw [nsTs, txts]; rfl
  | t :: ts => by
    rw [List.map_cons, tl_cons, nsTs, txts, tl_T ts]
    unfold shT
    rw [mk_list]
    rfl
theorem join_T {ts : List Tr} (h : ts ≠ []) : (Txt.join " " (ts.map shT)).cps.toList = inn 32 (nsTs ts) := by
  cases ts with
  | nil => exact absurd rfl h
  | cons t ts =>
    rw [blank, List.map_cons, joinC, tl_T, nsTs, inn]
    unfold shT
    rw [mk_list]
theorem nm_len {z : Str} (h : NmOk z) : z.length ≤ 8 := by rw [len_list]; exact h.2.1
def spShNd : Sp := fun vs H Q _ => ∃ (nm : Str) (mk : Int), vs = [.str nm, .int mk] ∧ NmOk nm ∧ 0 ≤ mk ∧ mk < 1000000000000000000 ∧ Q (.str (mkS (ndT nm mk))) H
def spShT (n : Nat) : Sp := fun vs H Q _ => ∃ t v, vs = [v] ∧ TrIs H t v ∧ Wt t ∧ deep t ≤ n + 1 ∧ size t ≤ 160 ∧ ∀ H', Same H H' → Q (.str (shT t)) H'
section
variable {P : Program} {w : World} {K : PySem.W.Frag} {mg : Str → Option Value} {base : Heap} {T : Adr}
theorem ok_take (X : Tx K mg T) : FnOk P w K mg base CX0 1 T.qtakenoff T.d_qtakenoff ["ready", "count"] spTake := by
  refine X.F_qtakenoff.okQ sc_qtakenoff (fun vs H Q E h => ?_) (fun cdv A outer s H vs Q E hr h => ?_)
  · obtain ⟨_, _, _, _, rfl, _⟩ := h
    rfl
  obtain ⟨r, c, xs, ys, rfl, hr', hc, hc1, q⟩ := h
  refine ⟨_, (qss_cons (qs_set (i := 2) sc_qtakenoff.nd rfl (Or.inl rfl) (qe_lst qa_nil)) (qss_cons (qs_while PassesOwn.never (qt_cmpR op_lt (qe_callB call_len_seq rfl X.z_len PySem.boot_len (qaN (qv 2) qa_nil)) (qv 1) (nomark _)) (qss_one (qs_expr (qe_bm PySem.F.plainAttrs_list PySem.F.slot_list_append PySem.F.type_list_append mt_append (qv 2) (qaK (qe_bm0 PySem.F.plainAttrs_list PySem.F.slot_list_pop PySem.F.type_list_pop mt_pop (qv 0)) qa_nil))))) (qss_one (qs_ret (qe_tupRevL rfl rfl X.z_tuple rfl X.z_reversed (qv 2)))))), ?_⟩
  refine ⟨(by show 0 ≤ sizeLine; decide), fun l hl => ?_⟩
  have nlr : l ≠ r := ne_of_none' hr' hl
  have hhl : hide H r l = none := by rw [hide_ne nlr]; exact hl
  refine ⟨fun m σ H' => ∃ k, k ≤ c ∧ m = c - k ∧ σ = [some (.ref r), some (.int (c : Int)), some (.ref l)] ∧ Same (hide H r) H' ∧ H' r = some (.lst (xs ++ ys.take (c - k))) ∧ H' l = some (.lst (ys.drop (c - k)).reverse),
    ⟨_, 0, Nat.zero_le _, rfl, rfl, same_upd hhl hide_same, ?_, ?_⟩, ?_⟩
  · rw [upd_ne nlr.symm, hr', Nat.sub_zero, ← hc, List.take_length]
  · rw [upd_same, Nat.sub_zero, ← hc, List.drop_length]
    rfl
  rintro m σ H1 ⟨k, hk, rfl, rfl, sm, h1, h2⟩
  have ll : (ys.drop (c - k)).reverse.length = k := by rw [List.length_reverse, List.length_drop]; omega
  refine ⟨_, rfl, l, _, rfl, .inl (SqL.of h2), _, rfl, _, _, rfl, rfl, _, rfl, iteDd (fun hlt => ⟨_, fun σ' H'' h => h, ?_⟩) (fun hge => ?_)⟩
  · rw [ll] at hlt
    have hkc : k < c := by omega
    obtain ⟨y, hy⟩ := some_of_lt (xs := ys) (i := c - k - 1) (by omega)
    have e1 : ys.take (c - k) = ys.take (c - (k + 1)) ++ [y] := by
      have := take_snocA hy
      rw [show c - k - 1 + 1 = c - k by omega] at this
      exact this
    have e2 : ys.drop (c - (k + 1)) = y :: ys.drop (c - k) := by
      obtain ⟨hi, e⟩ := List.getElem?_eq_some_iff.mp hy
      rw [show c - (k + 1) = c - k - 1 by omega, List.drop_eq_getElem_cons hi, e, show c - k - 1 + 1 = c - k by omega]
    rw [e1, ← List.append_assoc] at h1
    refine ⟨_, rfl, .inl ⟨rfl, _, SqL.of h2⟩, _, rfl, .inl ⟨rfl, _, SqL.of h1⟩, r, _, y, rfl, rfl, h1, by simp, l, _, _, rfl, rfl, by rw [upd_ne nlr]; exact h2, fitsL (by rw [ll]; omega), ?_⟩
    refine ⟨c - (k + 1), by omega, k + 1, hkc, rfl, rfl, same_upd hhl (same_upd hide_self sm), ?_, ?_⟩
    · rw [upd_ne nlr.symm, upd_same, List.dropLast_concat]
    · rw [upd_same, e2, List.reverse_cons]
  · rw [ll] at hge
    have hkc : k = c := by omega
    subst hkc
    rw [Nat.sub_self] at h1 h2
    refine ⟨_, rfl, l, _, rfl, SqL.of h2, fun t ht => ?_⟩
    have s1 := same_new ht (.tup (ys.drop 0).reverse.reverse)
    refine q t _ (sm.trans s1) ?_ ?_
    · rw [s1 _ _ h1]
      simp
    · rw [upd_same]
      simp
theorem ok_shnd (X : Tx K mg T) : FnOk P w K mg base CX0 1 T.qshownode T.d_qshownode ["name", "mark"] spShNd := by
  refine X.F_qshownode.okQ sc_qshownode (fun vs H Q E h => ?_) (fun cdv A outer s H vs Q E hr h => ?_)
  · obtain ⟨_, _, rfl, _⟩ := h
    rfl
  obtain ⟨nm, mk, rfl, hn, h0, h1, q⟩ := h
  refine ⟨_, (qss_one (qs_ret (qe_ifExp (qt_cmpR op_eq (qv 1) qe_int (nomark _)) (qv 0) (qe_join (qj_cons (qe_fmt (qv 0)) (qj_cons qe_str (qj_cons (qe_fmt (qv 1)) qj_nil))))))), ?_⟩
  have hl := nm_len hn
  have hd : (Str.ofString (toString mk)).length ≤ 18 := by rw [len_list]; exact (num_len h0 h1).2
  have ee : Str.empty.length = 0 := rfl
  have ec : (Str.ofString ":").length = 1 := by decide
  refine ⟨_, rfl, rfl, _, rfl, iteDd (fun e => ?_) (fun e => ?_)⟩
  · have e : mk = 0 := V.int.inj e
    have es : mkS (ndT nm mk) = nm := str_ext (by rw [mk_list]; unfold ndT; rw [if_pos e, List.append_nil])
    rw [es] at q
    exact ⟨_, rfl, q⟩
  · have e : ¬ mk = 0 := fun z => e (by rw [z])
    have es : mkS (ndT nm mk) = Str.empty ++ nm ++ Str.ofString ":" ++ Str.ofString (toString mk) := str_ext (by
      rw [mk_list, app_list, app_list, app_list]
      unfold ndT
      rw [if_neg e, colon]
      simp [Str.empty])
    rw [es] at q
    exact ⟨_, rfl, .inl ⟨nm, rfl, fits2 (by omega), _, rfl, fits2 (by rw [app_len]; omega), _, rfl, fits2 (by rw [app_len, app_len]; omega), _, rfl, .inr ⟨mk, rfl, small_log h0 (show mk < 1000000000000000000 from h1), _, rfl, fits2 (by rw [app_len, app_len, app_len]; omega), q⟩⟩⟩
theorem ok_shT (X : Tx K mg T) : ∀ n : Nat, FnOk P w K mg base CX0 (n + 2) T.qshowtree T.d_qshowtree ["tree"] (spShT n) := by
  intro n
  induction n with
  | zero =>
    have G_qshownode := ok_shnd (P := P) (w := w) (base := base) X
    have G_qshowtree : FnOk P w K mg base CX0 0 T.qshowtree T.d_qshowtree ["tree"] (fun _ _ _ _ => False) := ⟨fun _ _ _ _ h => h.elim, fun _ _ _ _ _ _ _ _ _ _ _ _ _ h => h.elim⟩
    have G_qshowtree := G_qshowtree.mono (show 0 ≤ 1 by decide)
    refine X.F_qshowtree.okQ sc_qshowtree (fun vs H Q E h => ?_) (fun cdv A outer s H vs Q E hr h => ?_)
    · obtain ⟨_, _, rfl, _⟩ := h
      rfl
    obtain ⟨t, v, rfl, hv, wt, hd, hz, q⟩ := h
    refine ⟨_, (qss_cons (qs_set (i := 1) sc_qshowtree.nd rfl (Or.inl rfl) (qe_call G_qshownode hr rfl X.m_qshownode X.F_qshownode.kp X.b_qshownode .nil pass0 (qaS (qe_ix ix_tup (qv 0) qe_int (fun _ _ => rfl)) (qaS (qe_ix ix_tup (qv 0) qe_int (fun _ _ => rfl)) qa_nil)))) (qss_cons (qs_if (qt_cmpR (op_eqNilT hr.units) (qe_ix ix_tup (qv 0) qe_int (fun _ _ => rfl)) (qe_tup qa_nil) (nomark _)) (qss_one (qs_ret (qv 1))) qss_nil) (qss_one (qs_ret (qe_op op_add_str (qe_op op_add_str (qe_op op_add_str (qv 1) qe_str) (qe_bm PySem.F.plainAttrs_str PySem.F.slot_str_join PySem.F.type_str_join mt_join qe_str (qaE (qe_comp (ys := []) (js := []) rfl rfl (qi_tup (qe_ix ix_tup (qv 0) qe_int (fun _ _ => rfl))) (fun _ _ _ _ _ => qif_nil) (fun _ _ _ _ _ => (qe_call G_qshowtree hr rfl X.m_qshowtree X.F_qshowtree.kp X.b_qshowtree .nil pass0 (qaN (qv 0) qa_nil)))) qa_nil))) qe_str))))), ?_⟩
    obtain ⟨p, b, vs, rfl, hp, hb, hvs⟩ := hv.op
    cases wt with
    | @node nm mk bs hn h0 h1 hbs =>
      have hbn : bs = [] := by
        cases bs with
        | nil => rfl
        | cons x xs =>
          have := deep_br (t := .node nm mk (x :: xs)) (u := x) (by show x ∈ x :: xs; simp)
          have := deep_eq x
          omega
      subst hbn
      have := hvs.nil_of
      subst this
      refine ⟨_, rfl, p, _, 0, _, rfl, rfl, SqT.of hp, rfl, _, rfl, p, _, 1, _, rfl, rfl, SqT.of hp, rfl, nm, mk, rfl, hn, h0, h1, ?_⟩
      refine ⟨_, rfl, p, _, 2, _, rfl, rfl, SqT.of hp, rfl, (by show 0 ≤ sizeLine; decide), fun e he => ?_⟩
      have s1 := same_new he (.tup [])
      refine ⟨b, e, _, rfl, rfl, SqT.of (s1 _ _ hb), SqT.of upd_same, _, rfl, iteT ⟨_, rfl, ?_⟩⟩
      have es : shT (.node nm mk []) = mkS (ndT nm mk) := by unfold shT; rw [nsT, nsTs, txt, brk, List.append_nil]
      rw [es] at q
      exact q _ s1
  | succ n ih =>
    have G_qshownode := (ok_shnd (P := P) (w := w) (base := base) X).mono (show 1 ≤ n + 2 by omega)
    have G_qshowtree := ih
    refine X.F_qshowtree.okQ sc_qshowtree (fun vs H Q E h => ?_) (fun cdv A outer s H vs Q E hr h => ?_)
    · obtain ⟨_, _, rfl, _⟩ := h
      rfl
    obtain ⟨t, v, rfl, hv, wt, hd, hz, q⟩ := h
    refine ⟨_, (qss_cons (qs_set (i := 1) sc_qshowtree.nd rfl (Or.inl rfl) (qe_call G_qshownode hr rfl X.m_qshownode X.F_qshownode.kp X.b_qshownode .nil pass0 (qaS (qe_ix ix_tup (qv 0) qe_int (fun _ _ => rfl)) (qaS (qe_ix ix_tup (qv 0) qe_int (fun _ _ => rfl)) qa_nil)))) (qss_cons (qs_if (qt_cmpR (op_eqNilT hr.units) (qe_ix ix_tup (qv 0) qe_int (fun _ _ => rfl)) (qe_tup qa_nil) (nomark _)) (qss_one (qs_ret (qv 1))) qss_nil) (qss_one (qs_ret (qe_op op_add_str (qe_op op_add_str (qe_op op_add_str (qv 1) qe_str) (qe_bm PySem.F.plainAttrs_str PySem.F.slot_str_join PySem.F.type_str_join mt_join qe_str (qaE (qe_comp (ys := []) (js := []) rfl rfl (qi_tup (qe_ix ix_tup (qv 0) qe_int (fun _ _ => rfl))) (fun _ _ _ _ _ => qif_nil) (fun _ _ _ _ _ => (qe_call G_qshowtree hr rfl X.m_qshowtree X.F_qshowtree.kp X.b_qshowtree .nil pass0 (qaN (qv 0) qa_nil)))) qa_nil))) qe_str))))), ?_⟩
    obtain ⟨p, b, vs, rfl, hp, hb, hvs⟩ := hv.op
    cases wt with
    | @node nm mk bs hn h0 h1 hbs =>
      have lvs := hvs.len
      have lbs : bs.length < 160 := bs_len (t := .node nm mk bs) hz
      have lvs' : vs.length = bs.length := lvs
      refine ⟨_, rfl, p, _, 0, _, rfl, rfl, SqT.of hp, rfl, _, rfl, p, _, 1, _, rfl, rfl, SqT.of hp, rfl, nm, mk, rfl, hn, h0, h1, ?_⟩
      refine ⟨_, rfl, p, _, 2, _, rfl, rfl, SqT.of hp, rfl, (by show 0 ≤ sizeLine; decide), fun e he => ?_⟩
      have s1 := same_new he (.tup [])
      refine ⟨b, e, vs, rfl, rfl, SqT.of (s1 _ _ hb), SqT.of upd_same, _, rfl, ?_⟩
      by_cases hbn : bs = []
      · subst hbn
        have := hvs.nil_of
        subst this
        refine iteT ⟨_, rfl, ?_⟩
        have es : shT (.node nm mk []) = mkS (ndT nm mk) := by unfold shT; rw [nsT, nsTs, txt, brk, List.append_nil]
        rw [es] at q
        exact q _ s1
      · have hvn : ¬ vs = [] := fun z => hbn (by rw [z] at lvs'; exact List.length_eq_zero_iff.mp lvs'.symm)
        rw [decide_eq_false hvn]
        have ln : (mkS (ndT nm mk)).length ≤ 27 := by rw [len_list, mk_list]; exact nd_len hn h0 h1
        have lo : (Str.ofString "(").length = 1 := by decide
        have lcl : (Str.ofString ")").length = 1 := by decide
        have lj : (Txt.join " " (bs.map shT)).length ≤ 4800 := by
          have a := len_Ts bs hbs
          have b' : sizes bs ≤ 160 := by
            have : size (.node nm mk bs) = 1 + sizes bs := size_eq _
            omega
          rw [len_list, join_T hbn]
          have e : (inn 32 (nsTs bs)).length + 1 = (txts 32 (nsTs bs)).length := by
            cases bs with
            | nil => exact absurd rfl hbn
            | cons x xs => rw [nsTs, inn, txts, List.length_cons]
          omega
        refine iteF ⟨_, rfl, _, _, rfl, rfl, fits2 (by omega), rfl, _, rfl, p, _, 2, _, rfl, rfl, SqT.of (s1 _ _ hp), rfl, b, rfl, ⟨_, SqT.of (s1 _ _ hb)⟩, fun D hD => ?_⟩
        refine comp_tupM (K := K) (xs := vs) (ys := (bs.map shT).map V.str) (fitsL (by omega)) (by rw [List.length_map, List.length_map, lvs']) (SqT.of (s1 _ _ hb)) hD (fun i x y H' hx hy sm Q' q' => ?_) (fun H' sm hdd => ?_)
        · obtain ⟨u, hu, hi⟩ := hvs.get hx
          have e : y = V.str (shT u) := by
            rw [List.getElem?_map, List.getElem?_map] at hy
            have hu : bs[i]? = some u := hu
            rw [hu] at hy
            exact (Option.some.inj hy).symm
          have um : u ∈ bs := List.mem_of_getElem? hu
          have d1 := deep_br (t := .node nm mk bs) (u := u) um
          have z1 := size_br (t := .node nm mk bs) (u := u) um
          rw [e] at q'
          exact ⟨_, rfl, u, x, rfl, TrIs.same (sameT (s1.trans sm)) _ hi, hbs u um, by omega, by omega, fun H2 s2 => q' _ s2⟩
        · have hsum : ((bs.map shT).map (·.length)).sum + (bs.map shT).length ≤ 4800 := by
            have a : ∀ ts : List Tr, (∀ t ∈ ts, Wt t) → ((ts.map shT).map (·.length)).sum + (ts.map shT).length ≤ 30 * sizes ts := by
              intro ts
              induction ts with
              | nil => intro _; exact Nat.zero_le _
              | cons x xs ih2 =>
                intro hh
                have b1 := shT_len (hh x (by simp))
                have b2 := ih2 fun y hy => hh y (by simp [hy])
                rw [List.map_cons, List.map_cons, List.sum_cons, List.length_cons, sizes]
                omega
            have a1 := a bs hbs
            have : size (.node nm mk bs) = 1 + sizes bs := size_eq _
            omega
          have e1 : (Str.ofString " ").length = 1 := by decide
          refine ⟨" ", D, bs.map shT, rfl, rfl, SqL.of hdd, by rw [e1]; omega, ?_⟩
          refine ⟨_, _, rfl, rfl, fits2 (by rw [app_len]; omega), _, _, rfl, rfl, fits2 (by rw [app_len, app_len]; omega), ?_⟩
          have es : shT (.node nm mk bs) = mkS (ndT nm mk) ++ Str.ofString "(" ++ Txt.join " " (bs.map shT) ++ Str.ofString ")" := str_ext (by
            rw [app_list, app_list, app_list, join_T hbn, mk_list]
            unfold shT
            rw [mk_list, nsT, txt, brk_inn 32 (fun z => hbn (by cases bs with | nil => rfl | cons x xs => rw [nsTs] at z; cases z)), show (Str.ofString "(").cps.toList = [40] by decide, show (Str.ofString ")").cps.toList = [41] by decide]
            simp)
          rw [es] at q
          exact q _ (s1.trans sm)
end
end K24
set_option Elab.async false
set_option linter.all false
set_option maxRecDepth 100000
set_option maxHeartbeats 4000000
namespace K24
open PySem L2 NS TR
open TM
theorem part_none {c : Nat} {z : Str} (h : c ∉ z.cps.toList) : Txt.partition z ⟨#[c]⟩ = (z, Str.empty, Str.empty) := by
  have hfo := StrLaws.found_one z c
  rw [decide_eq_false h] at hfo
  unfold Txt.partition
  cases e : PySem.Builtin.Str.occurrences z ⟨#[c]⟩ 0 z.length 1 with
  | nil => rfl
  | cons i r => rw [e] at hfo; cases hfo
theorem name_all {x : Str} (h : ∀ c ∈ x.cps.toList, letOk c = true) : allB S26 x = true := all_yes fun c hc => in26 c (let_lt (h c hc)) (h c hc)
theorem nm_name {z : Str} (h : NmOk z) : 1 ≤ z.length ∧ z.length ≤ 8 ∧ allB S26 z = true := by
  refine ⟨?_, nm_len h, name_all h.2.2⟩
  rw [len_list]
  exact List.length_pos_iff.mpr h.1
theorem no_colon {z : Str} (h : NmOk z) : (58 : Nat) ∉ z.cps.toList := fun m => by
  have := h.2.2 58 m
  revert this
  decide
theorem _root_.TM.L2R.unapp {α : Type} {R : α → V → Prop} : ∀ {as bs : List α} {vs : List V}, L2R R (as ++ bs) vs → ∃ xs ys, vs = xs ++ ys ∧ L2R R as xs ∧ L2R R bs ys
  | [], bs, vs, h => ⟨[], vs, rfl, .nil, h⟩
  | a :: as, bs, _, .cons h1 h2 => by
    obtain ⟨xs, ys, e, g1, g2⟩ := TM.L2R.unapp h2
    exact ⟨_ :: xs, ys, by rw [e]; rfl, .cons h1 g1, g2⟩
theorem num_not0 {n : Int} (h0 : 0 ≤ n) (h : ¬ n = 0) : ¬ V.str (Str.ofString (toString n)) = V.str "0" := fun e => h (num_head h0 (by rw [V.str.inj e]; decide))

def nodeB (z : Str) : Bool := nmB (Txt.partition z ":").1 && (decide ((Txt.partition z ":").2.1 = "") || (!decide ((Txt.partition z ":").2.2 = "0") && numB (Txt.partition z ":").2.2))
def spRdNd (N : Addr) : Sp := fun vs H Q E => ∃ z : Str, vs = [.str z] ∧ TxOk z ∧ ((∃ (nm : Str) (mk : Int), z = mkS (ndT nm mk) ∧ NmOk nm ∧ 0 ≤ mk ∧ mk < 1000000000000000000 ∧ ∀ t H', Same H H' → H' t = some (.tup [.str nm, .int mk]) → Q (.ref t) H') ∨
  ((nodeB z = false → ∀ H', Same H H' → E (.ref N) none H') ∧ (nodeB z = true → ∀ t a m H', Same H H' → H' t = some (.tup [.str a, .int m]) → Q (.ref t) H')))
theorem nodeB_no {z : Str} (h : (58 : Nat) ∉ z.cps.toList) : nodeB z = nmB z := by
  have ep : Txt.partition z ":" = (z, Str.empty, Str.empty) := by
    rw [colon]
    exact part_none h
  unfold nodeB
  rw [ep]
  have : decide ((Str.empty : Str) = "") = true := by decide
  simp [this]
theorem nodeB_at {a b : Str} (h : (58 : Nat) ∉ a.cps.toList) : nodeB (a ++ ⟨#[58]⟩ ++ b) = (nmB a && (!decide (b = "0") && numB b)) := by
  have ep : Txt.partition (a ++ ⟨#[58]⟩ ++ b) ":" = (a, (":" : Str), b) := by
    rw [colon]
    exact part_at h
  unfold nodeB
  rw [ep]
  have : decide ((":" : Str) = "") = false := by decide
  simp only [this, Bool.false_or]
theorem split_at {z : Str} (h : (58 : Nat) ∈ z.cps.toList) : ∃ a b : Str, z = a ++ ⟨#[58]⟩ ++ b ∧ (58 : Nat) ∉ a.cps.toList := by
  obtain ⟨as, bs, e, n⟩ := List.eq_append_cons_of_mem h
  exact ⟨mkS as, mkS bs, str_ext (by rw [app_list, app_list, mk_list, mk_list, e]; simp), by rw [mk_list]; exact n⟩
def hg : Nat → List Row → Option Nat
  | n, [] => some n
  | n, x :: rs => if x.2.1 ≤ n then hg (n - x.2.1 + 1) rs else none
theorem hg_snoc (x : Row) : ∀ (rs : List Row) (n : Nat), hg n (rs ++ [x]) = (hg n rs).bind fun m => if x.2.1 ≤ m then some (m - x.2.1 + 1) else none
  | [], n => by simp [hg]
  | y :: rs, n => by
    rw [List.cons_append, hg, hg]
    split
    · exact hg_snoc x rs _
    · rfl
def JJ (st : Ms) : Prop := ∃ m, hg 0 st.rs = some m ∧ (st.op.map (·.2)).sum + (if st.cl = true then 1 else 0) ≤ m
theorem jj_end {st : Ms} {w : Str} {rs : List Row} (j : JJ st) (h : Endd st w rs) : ∃ m, hg 0 rs = some m ∧ (st.op.map (·.2)).sum + 1 ≤ m := by
  obtain ⟨m, h1, h2⟩ := j
  cases h with
  | word =>
    have h1 : hg 0 _ = some m := h1
    refine ⟨m + 1, by rw [hg_snoc, h1]; simp, ?_⟩
    simp at h2 ⊢
    omega
  | again => exact ⟨m, h1, by simpa using h2⟩
theorem jj_step {st st1 : Ms} {p : Str × Str} (j : JJ st) (h : NS.Step 32 st p st1) : JJ st1 := by
  obtain ⟨w, s⟩ := p
  rcases step_inv h with ⟨_, c, rfl⟩ | ⟨rs', op, o, c, e, d, ⟨_, rfl⟩ | ⟨_, rfl⟩⟩ | ⟨rs', d, _, rfl⟩
  · obtain ⟨m, h1, h2⟩ := j
    rw [c] at h2
    exact ⟨m, h1, by simpa using h2⟩
  · obtain ⟨m, h1, h2⟩ := jj_end j d
    rw [e] at h2
    refine ⟨m, h1, ?_⟩
    simp at h2 ⊢
    omega
  · obtain ⟨m, h1, h2⟩ := jj_end j d
    rw [e] at h2
    simp at h2
    refine ⟨m - (c + 1) + 1, ?_, ?_⟩
    · show hg 0 (rs' ++ [(o, c + 1, op.length + 1)]) = _
      rw [hg_snoc, h1]
      show (if c + 1 ≤ m then _ else _) = _
      rw [if_pos (by omega)]
    · simp
      omega
  · obtain ⟨m, h1, h2⟩ := jj_end j d
    refine ⟨m, h1, ?_⟩
    show (st.op.map (·.2)).sum + (if st.cl = true then 1 else 0) ≤ m
    split <;> omega
theorem jj_run {a b : Ms} {ps : List (Str × Str)} : JJ a → NS.Run 32 a ps b → JJ b := by
  induction ps generalizing a with
  | nil => intro j h; have h : a = b := h; subst h; exact j
  | cons x xs ih => rintro j ⟨d, h, g⟩; exact ih (jj_step j h) g
theorem jj_ini : JJ ini := ⟨0, rfl, by simp⟩
theorem in10' : ∀ c, c < 128 → inS S10 c = true → 48 ≤ c ∧ c ≤ 57 := by decide +kernel
mutual
theorem lev_max : ∀ (t : Tr) (l : Nat), ∃ x ∈ rws l (nsT t), x.2.2 + 1 = l + deep t
  | .node nm mk bs, l => by
    rw [nsT, rws, deep]
    by_cases h : bs = []
    · subst h
      exact ⟨_, List.mem_append.mpr (.inr (List.mem_singleton.mpr rfl)), by show l + 1 = l + (1 + deeps []); rw [deeps]⟩
    · obtain ⟨x, hx, e⟩ := lev_maxs bs (l + 1) h
      exact ⟨x, List.mem_append.mpr (.inl hx), by omega⟩
theorem lev_maxs : ∀ (ts : List Tr) (l : Nat), ts ≠ [] → ∃ x ∈ rwss l (nsTs ts), x.2.2 + 1 = l + deeps ts
  | [], _, h => absurd rfl h
  | t :: ts, l, _ => by
    rw [nsTs, rwss, deeps]
    by_cases h : ts = []
    · subst h
      obtain ⟨x, hx, e⟩ := lev_max t l
      exact ⟨x, List.mem_append.mpr (.inl hx), by rw [deeps]; omega⟩
    · obtain ⟨x, hx, e⟩ := lev_max t l
      obtain ⟨y, hy, f⟩ := lev_maxs ts l h
      by_cases g : deep t ≤ deeps ts
      · exact ⟨y, List.mem_append.mpr (.inr hy), by omega⟩
      · exact ⟨x, List.mem_append.mpr (.inl hx), by omega⟩
end
section
variable {P : Program} {w : World} {K : PySem.W.Frag} {mg : Str → Option Value} {base : Heap} {T : Adr}
theorem ok_rdnd (X : Tx K mg T) : FnOk P w K mg base (CXe P w) 2 T.qreadnode T.d_qreadnode ["word"] (spRdNd T.k_NoText) := by
  have G_qisname := ok_name (P := P) (w := w) (base := base) X
  have G_qisnumber := ok_number (P := P) (w := w) (base := base) X
  refine X.F_qreadnode.okE sc_qreadnode (fun vs H Q E h => ?_) (fun cdv A outer s H vs Q E hr h => ?_)
  · obtain ⟨_, rfl, _⟩ := h
    rfl
  obtain ⟨z, rfl, tz, hor⟩ := h
  refine ⟨_, (qss_cons (qs_set (i := 1) sc_qreadnode.nd rfl (Or.inl rfl) (qe_bm PySem.F.plainAttrs_str PySem.F.slot_str_partition PySem.F.type_str_partition mt_partition (qv 0) (qaC qe_str qa_nil))) (qss_cons (qs_if (qt_not (qt_val (qe_call G_qisname hr rfl X.m_qisname X.F_qisname.kp X.b_qisname .nil pass0 (qaS (qe_ix ix_tup (qv 1) qe_int (fun _ _ => rfl)) qa_nil)))) (qss_one (qs_raise rfl rfl X.m_NoText X.e_NoText (qaJ (qe_join (qj_cons (qe_rep hr (qv 0)) (qj_cons qe_str qj_nil))) qa_nil) xe_raise)) qss_nil) (qss_cons (qs_if (qt_cmpR op_eq (qe_ix ix_tup (qv 1) qe_int (fun _ _ => rfl)) qe_str (nomark _)) (qss_one (qs_ret (qe_tup (qaS (qe_ix ix_tup (qv 1) qe_int (fun _ _ => rfl)) (qaC qe_int qa_nil))))) qss_nil) (qss_cons (qs_if (qw_pt (qw_or (qt_cmpR op_eq (qe_ix ix_tup (qv 1) qe_int (fun _ _ => rfl)) qe_str (nomark _)) (qw_or1 (qt_not (qt_val (qe_call G_qisnumber hr rfl X.m_qisnumber X.F_qisnumber.kp X.b_qisnumber .nil pass0 (qaS (qe_ix ix_tup (qv 1) qe_int (fun _ _ => rfl)) qa_nil))))))) (qss_one (qs_raise rfl rfl X.m_NoText X.e_NoText (qaJ (qe_join (qj_cons (qe_rep hr (qv 0)) (qj_cons qe_str qj_nil))) qa_nil) xe_raise)) qss_nil) (qss_one (qs_ret (qe_tup (qaS (qe_ix ix_tup (qv 1) qe_int (fun _ _ => rfl)) (qaK (qe_callTy call_int_txt rfl X.z_int PyProof.Rows.boot_int (qaS (qe_ix ix_tup (qv 1) qe_int (fun _ _ => rfl)) qa_nil)) qa_nil))))))))), ?_⟩
  have hzl := tz.1
  refine ⟨_, rfl, rfl, _, _, rfl, rfl, (by decide), fits2 (by omega), fun l hl => ?_⟩
  have hsz : sizeLine = 16777216 := by decide
  rcases hor with ⟨nm, mk, rfl, hn, h0, h1, q⟩ | ⟨qe, q⟩
  · obtain ⟨n1, n2, n3⟩ := nm_name hn
    have nB : nmB nm = true := by unfold nmB; rw [decide_eq_true n1, decide_eq_true n2, n3]; rfl
    by_cases e : mk = 0
    · have ez : mkS (ndT nm mk) = nm := str_ext (by rw [mk_list]; unfold ndT; rw [if_pos e, List.append_nil])
      have ep : Txt.partition (mkS (ndT nm mk)) ":" = (nm, Str.empty, Str.empty) := by
        rw [ez, colon]
        exact part_none (no_colon hn)
      rw [ep]
      have s1 := same_new hl (.tup [.str nm, .str Str.empty, .str Str.empty])
      have h1' := upd_same (H := H) (a := l) (o := .tup [.str nm, .str Str.empty, .str Str.empty])
      refine ⟨_, rfl, l, _, 0, _, rfl, rfl, SqT.of h1', rfl, nm, rfl, by omega, fun H2 s2 => ⟨_, rfl, iteNot nB ?_⟩⟩
      have h2 := s2 _ _ h1'
      refine ⟨_, rfl, l, _, 1, _, rfl, rfl, SqT.of h2, rfl, rfl, _, rfl, iteYd rfl ?_⟩
      refine ⟨_, rfl, l, _, 0, _, rfl, rfl, SqT.of h2, rfl, (by show 2 ≤ sizeLine; decide), fun t ht => ?_⟩
      subst e
      exact q t _ (s1.trans (s2.trans (same_new ht _))) upd_same
    · have ez : mkS (ndT nm mk) = nm ++ ⟨#[58]⟩ ++ Str.ofString (toString mk) := str_ext (by
        rw [mk_list, app_list, app_list]
        unfold ndT
        rw [if_neg e]
        simp)
      have ep : Txt.partition (mkS (ndT nm mk)) ":" = (nm, (":" : Str), Str.ofString (toString mk)) := by
        rw [ez, colon]
        exact part_at (no_colon hn)
      rw [ep]
      have s1 := same_new hl (.tup [.str nm, .str ":", .str (Str.ofString (toString mk))])
      have h1' := upd_same (H := H) (a := l) (o := .tup [.str nm, .str ":", .str (Str.ofString (toString mk))])
      have nl := num_len h0 h1
      refine ⟨_, rfl, l, _, 0, _, rfl, rfl, SqT.of h1', rfl, nm, rfl, by omega, fun H2 s2 => ⟨_, rfl, iteNot nB ?_⟩⟩
      have h2 := s2 _ _ h1'
      refine ⟨_, rfl, l, _, 1, _, rfl, rfl, SqT.of h2, rfl, rfl, _, rfl, iteNd (by decide) ?_⟩
      have ld : (Str.ofString (toString mk)).length ≤ 18 := by rw [len_list]; exact nl.2
      have l1 : 1 ≤ (Str.ofString (toString mk)).length := by rw [len_list]; exact List.length_pos_iff.mpr nl.1
      have uB : numB (Str.ofString (toString mk)) = true := by
        unfold numB
        rw [decide_eq_true l1, decide_eq_true ld, num_str h0]
        by_cases hh : (Str.ofString (toString mk)).cps.toList.head? = some 48
        · exact absurd (num_head h0 hh) e
        · rw [decide_eq_false hh]; rfl
      refine ⟨_, rfl, l, _, 2, _, rfl, rfl, SqT.of h2, rfl, rfl, _, rfl, iteNd (num_not0 h0 e) ?_⟩
      refine ⟨_, rfl, l, _, 2, _, rfl, rfl, SqT.of h2, rfl, _, rfl, by omega, fun H3 s3 => ⟨_, rfl, iteNot uB ?_⟩⟩
      have h3 := s3 _ _ h2
      refine ⟨_, rfl, l, _, 0, _, rfl, rfl, SqT.of h3, rfl, _, rfl, l, _, 2, _, rfl, rfl, SqT.of h3, rfl, _, mk, rfl, num_reads' h0 (by omega), by omega, (by show 2 ≤ sizeLine; decide), fun t ht => ?_⟩
      exact q t _ (s1.trans (s2.trans (s3.trans (same_new ht _)))) upd_same
  · have ls := shown_str tz
    have e0 : Str.empty.length = 0 := rfl
    have l1 : (Str.ofString " begins with no name of a form").length = 30 := by decide
    have l2 : (Str.ofString " ends with no mark").length = 18 := by decide
    by_cases hc : (58 : Nat) ∈ z.cps.toList
    · obtain ⟨a, b, rfl, ha⟩ := split_at hc
      have ep : Txt.partition (a ++ ⟨#[58]⟩ ++ b) ":" = (a, (":" : Str), b) := by
        rw [colon]
        exact part_at ha
      have en := nodeB_at (b := b) ha
      rw [ep]
      have tl : (a ++ ⟨#[58]⟩ ++ b).length = a.length + 1 + b.length := by rw [app_len, app_len]; rfl
      rw [tl] at hzl
      have s1 := same_new hl (.tup [.str a, .str ":", .str b])
      have h1' := upd_same (H := H) (a := l) (o := .tup [.str a, .str ":", .str b])
      refine ⟨_, rfl, l, _, 0, _, rfl, rfl, SqT.of h1', rfl, a, rfl, by omega, fun H2 s2 => ⟨_, rfl, ?_⟩⟩
      have h2 := s2 _ _ h1'
      cases hn : nmB a with
      | false =>
        rw [hn, Bool.false_and] at en
        exact iteT ⟨_, rfl, .str _, .str _, by simp only [PyData.showable], by simp only [PyData.hasDict], by simp only [PyData.depth]; decide, by omega, _, rfl, by rw [app_len, e0]; omega, _, rfl, by rw [app_len, app_len, e0, l1]; omega, (by show 1 ≤ 10; decide), qe en _ (s1.trans s2)⟩
      | true =>
        rw [hn, Bool.true_and] at en
        refine iteF ⟨_, rfl, l, _, 1, _, rfl, rfl, SqT.of h2, rfl, rfl, _, rfl, iteNd (by decide) ?_⟩
        have bad : ∀ H3, Same H2 H3 → nodeB (a ++ ⟨#[58]⟩ ++ b) = false → E (.ref T.k_NoText) none H3 := fun H3 s3 e => qe e _ (s1.trans (s2.trans s3))
        have fin : ∀ H3, Same H2 H3 → nodeB (a ++ ⟨#[58]⟩ ++ b) = true → H3 l = some (.tup [.str a, .str ":", .str b]) → numB b = true → ∃ n, PySem.intText? b = some n ∧ b.length ≤ 640 := fun H3 _ _ _ hb => by
          unfold numB at hb
          simp only [Bool.and_eq_true, decide_eq_true_eq] at hb
          obtain ⟨⟨b1, b2⟩, _, b4⟩ := hb
          refine ⟨_, intText_digits (fun c hc => in10' c (tz.2 c (by rw [app_list, app_list]; simp [hc])) (List.all_eq_true.mp b4 c hc)) (ne_of_len b1) (by omega), by omega⟩
        unfold tNext
        dsimp only
        refine seq_ifS_by (fun H3 => Same H2 H3 ∧ nodeB (a ++ ⟨#[58]⟩ ++ b) = false) (fun H3 => Same H2 H3 ∧ nodeB (a ++ ⟨#[58]⟩ ++ b) = true ∧ numB b = true) (fun Q' qT qF => ?_) (fun H3 ⟨s3, e⟩ => ?_) (fun H3 ⟨s3, e, hb⟩ => ?_)
        · refine ⟨_, rfl, l, _, 2, _, rfl, rfl, SqT.of h2, rfl, rfl, _, rfl, iteDd (fun h => qT H2 ⟨Same.refl _, ?_⟩) (fun h => ?_)⟩
          · rw [en, decide_eq_true (V.str.inj h)]
            rfl
          · refine ⟨_, rfl, l, _, 2, _, rfl, rfl, SqT.of h2, rfl, b, rfl, by omega, fun H3 s3 => ⟨_, rfl, ?_⟩⟩
            have h' : ¬ b = "0" := fun z => h (by rw [z])
            rw [decide_eq_false h'] at en
            cases hb : numB b with
            | true => exact qF H3 ⟨s3, by rw [en, hb]; rfl, hb⟩
            | false => exact qT H3 ⟨s3, by rw [en, hb]; rfl⟩
        · exact ⟨_, rfl, .str _, .str _, by simp only [PyData.showable], by simp only [PyData.hasDict], by simp only [PyData.depth]; decide, by omega, _, rfl, by rw [app_len, e0]; omega, _, rfl, by rw [app_len, app_len, e0, l2]; omega, (by show 1 ≤ 10; decide), bad _ s3 e⟩
        · have h3 := s3 _ _ h2
          obtain ⟨n, hn1, hn2⟩ := fin H3 s3 e h3 hb
          refine ⟨_, rfl, l, _, 0, _, rfl, rfl, SqT.of h3, rfl, _, rfl, l, _, 2, _, rfl, rfl, SqT.of h3, rfl, _, n, rfl, hn1, hn2, (by show 2 ≤ sizeLine; decide), fun t ht => ?_⟩
          exact q e t _ _ _ (s1.trans (s2.trans (s3.trans (same_new ht _)))) upd_same
    · have ep : Txt.partition z ":" = (z, Str.empty, Str.empty) := by
        rw [colon]
        exact part_none hc
      have en := nodeB_no hc
      rw [ep]
      have s1 := same_new hl (.tup [.str z, .str Str.empty, .str Str.empty])
      have h1' := upd_same (H := H) (a := l) (o := .tup [.str z, .str Str.empty, .str Str.empty])
      refine ⟨_, rfl, l, _, 0, _, rfl, rfl, SqT.of h1', rfl, z, rfl, by omega, fun H2 s2 => ⟨_, rfl, ?_⟩⟩
      have h2 := s2 _ _ h1'
      cases hn : nmB z with
      | false =>
        rw [hn] at en
        exact iteT ⟨_, rfl, .str _, .str _, by simp only [PyData.showable], by simp only [PyData.hasDict], by simp only [PyData.depth]; decide, by omega, _, rfl, by rw [app_len, e0]; omega, _, rfl, by rw [app_len, app_len, e0, l1]; omega, (by show 1 ≤ 10; decide), qe en _ (s1.trans s2)⟩
      | true =>
        rw [hn] at en
        refine iteF ⟨_, rfl, l, _, 1, _, rfl, rfl, SqT.of h2, rfl, rfl, _, rfl, iteYd rfl ?_⟩
        refine ⟨_, rfl, l, _, 0, _, rfl, rfl, SqT.of h2, rfl, (by show 2 ≤ sizeLine; decide), fun t ht => ?_⟩
        exact q en t _ _ _ (s1.trans (s2.trans (same_new ht _))) upd_same
end
end K24
set_option Elab.async false
set_option linter.all false
set_option maxRecDepth 100000
set_option maxHeartbeats 4000000
namespace K24
open PySem L2 NS TR
open TM
def Bad (z : Str) : Prop := ∀ st, NS.Run 32 ini (NS.pcs 32 [] z.cps.toList) st → st.op = [] → ∃ x ∈ st.rs, nodeB x.1 = false
def spRdT (N G : Addr) : Sp := fun vs H Q E => ∃ z : Str, vs = [.str z] ∧ TxOk z ∧ ((∃ t, z = shT t ∧ Wt t ∧ size t ≤ 160 ∧ (size t ≤ 60 → deep t ≤ 20 → ∀ v H', Same H H' → TrIs H' t v → Q v H') ∧ ((60 < size t ∨ 20 < deep t) → ∀ H', Same H H' → E (.ref G) none H')) ∨ (Bad z ∧ ∀ H', Same H H' → E (.ref N) none H'))
theorem endd_ww {st : Ms} {w : Str} {rs : List Row} (h : Endd st w rs) (hw : TxOk w) (hr : ∀ x ∈ st.rs, TxOk x.1) : ∀ x ∈ rs, TxOk x.1 := by
  cases h with
  | word =>
    intro x hx
    rcases List.mem_append.mp hx with h | h
    · exact hr x h
    · rw [List.mem_singleton.mp h]; exact hw
  | again => exact hr
def WW (st : Ms) : Prop := (∀ x ∈ st.rs, TxOk x.1) ∧ ∀ x ∈ st.op, TxOk x.1
theorem ww_ini : WW ini := ⟨fun x hx => absurd (show x ∈ ([] : List Row) from hx) List.not_mem_nil, fun x hx => absurd (show x ∈ ([] : List (Str × Nat)) from hx) List.not_mem_nil⟩
theorem ww_step {st st1 : Ms} {p : Str × Str} (j : WW st) (hp : TxOk p.1) (h : NS.Step 32 st p st1) : WW st1 := by
  obtain ⟨w, s⟩ := p
  rcases step_inv h with ⟨_, c, rfl⟩ | ⟨rs', op, o, c, e, d, ⟨_, rfl⟩ | ⟨_, rfl⟩⟩ | ⟨rs', d, _, rfl⟩
  · refine ⟨j.1, fun x hx => ?_⟩
    rcases List.mem_append.mp hx with h | h
    · exact j.2 x h
    · rw [List.mem_singleton.mp h]; exact hp
  · have j2 := j.2
    rw [e] at j2
    refine ⟨endd_ww d hp j.1, fun x hx => ?_⟩
    rcases List.mem_append.mp hx with h | h
    · exact j2 x (List.mem_append.mpr (.inl h))
    · rw [List.mem_singleton.mp h]; exact j2 (o, c) (List.mem_append.mpr (.inr (by simp)))
  · have j2 := j.2
    rw [e] at j2
    refine ⟨fun x hx => ?_, fun x hx => j2 x (List.mem_append.mpr (.inl hx))⟩
    rcases List.mem_append.mp hx with h | h
    · exact endd_ww d hp j.1 x h
    · rw [List.mem_singleton.mp h]; exact j2 (o, c) (List.mem_append.mpr (.inr (by simp)))
  · exact ⟨endd_ww d hp j.1, j.2⟩
theorem ww_run {a b : Ms} {ps : List (Str × Str)} : WW a → (∀ p ∈ ps, TxOk p.1) → NS.Run 32 a ps b → WW b := by
  induction ps generalizing a with
  | nil => intro j _ h; have h : a = b := h; subst h; exact j
  | cons x xs ih => rintro j hp ⟨d, h, g⟩; exact ih (ww_step j (hp x (by simp)) h) (fun p hx => hp p (by simp [hx])) g
theorem len_run {a b : Ms} {ps : List (Str × Str)} : NS.Run 32 a ps b → b.rs.length ≤ a.rs.length + 2 * ps.length := by
  induction ps generalizing a with
  | nil => intro h; have h : a = b := h; subst h; simp
  | cons x xs ih =>
    rintro ⟨d, h, g⟩
    have w1 := (NS.step_wt h).1
    have := ih g
    rw [List.length_cons]
    omega
theorem pcs_tx {z : Str} (hz : TxOk z) : ∀ p ∈ NS.pcs 32 [] z.cps.toList, TxOk p.1 := fun p hp => by
  obtain ⟨a, b, c⟩ := pcs_in hp
  have hl0 := hz.1
  refine ⟨by rw [len_list]; rw [len_list] at hl0; simp at b hl0 ⊢; omega, fun x hx => ?_⟩
  rcases a x hx with h | h
  · cases h
  · exact hz.2 x h
theorem nd_tx {nm : Str} {mk : Int} (hn : NmOk nm) (h0 : 0 ≤ mk) (h1 : mk < 1000000000000000000) : TxOk (mkS (ndT nm mk)) := by
  refine ⟨by rw [len_list, mk_list]; have := nd_len hn h0 h1; omega, fun c hc => ?_⟩
  rw [mk_list] at hc
  exact nd_asc hn h0 hc
theorem shT_tx {t : Tr} (h : Wt t) (hz : size t ≤ 160) : TxOk (shT t) := by
  have := shT_len h
  refine ⟨by omega, fun c hc => ?_⟩
  unfold shT at hc
  rw [mk_list] at hc
  exact asc_T t h c hc
theorem hg_cons {n m : Nat} {x : Row} {rs : List Row} (h : hg n (x :: rs) = some m) : x.2.1 ≤ n ∧ hg (n - x.2.1 + 1) rs = some m := by
  rw [hg] at h
  split at h
  · rename_i h1; exact ⟨h1, h⟩
  · cases h
section
variable {P : Program} {w : World} {K : PySem.W.Frag} {mg : Str → Option Value} {base : Heap} {T : Adr}
theorem ok_rdT (X : Tx K mg T) : FnOk P w K mg base (CXe P w) 5 T.qreadtree T.d_qreadtree ["text"] (spRdT T.k_NoText T.k_TooGreat) := by
  have G_qnestrows := ok_nest (P := P) (w := w) (base := base) X
  have G_qtakenoff := (ok_take (P := P) (w := w) (base := base) X).mono (show 1 ≤ 4 by decide)
  have G_qreadnode := (ok_rdnd (P := P) (w := w) (base := base) X).mono (show 2 ≤ 4 by decide)
  have G_qdeepest := (ok_deep (P := P) (w := w) (base := base) X).mono (show 1 ≤ 4 by decide)
  refine X.F_qreadtree.okE sc_qreadtree (fun vs H Q E h => ?_) (fun cdv A outer s H vs Q E hr h => ?_)
  · obtain ⟨_, rfl, _⟩ := h
    rfl
  obtain ⟨z, rfl, tz, hor⟩ := h
  refine ⟨_, (qss_cons (qs_set (i := 1) sc_qreadtree.nd rfl (Or.inl rfl) (qe_call G_qnestrows hr rfl X.m_qnestrows X.F_qnestrows.kp X.b_qnestrows .nil pass_on (qaN (qv 0) (qaC qe_str qa_nil)))) (qss_cons (qs_set (i := 2) sc_qreadtree.nd rfl (Or.inl rfl) (qe_lst qa_nil)) (qss_cons (qs_for PassesOwn.leaving rfl (qi_list (qv 1)) (qg_tup rfl (qgs_cons (qg_name (i := 3) sc_qreadtree.nd rfl (Or.inl rfl)) (qgs_cons (qg_name (i := 4) sc_qreadtree.nd rfl (Or.inl rfl)) (qgs_cons (qg_name (i := 5) sc_qreadtree.nd rfl (Or.inl rfl)) qgs_nil)))) (qss_cons (qs_set (i := 6) sc_qreadtree.nd rfl (Or.inl rfl) (qe_call G_qtakenoff hr rfl X.m_qtakenoff X.F_qtakenoff.kp X.b_qtakenoff .nil pass0 (qaN (qv 2) (qaN (qv 4) qa_nil)))) (qss_one (qs_expr (qe_bm PySem.F.plainAttrs_list PySem.F.slot_list_append PySem.F.type_list_append mt_append (qv 2) (qaB (qe_op op_catA (qe_call G_qreadnode hr rfl X.m_qreadnode X.F_qreadnode.kp X.b_qreadnode .nil pass_on (qaN (qv 3) qa_nil)) (qe_tup (qaN (qv 6) qa_nil))) qa_nil)))))) (qss_cons (qs_if (qw_pt (qw_or (qt_cmpR op_gt (qe_callB call_len_seq rfl X.z_len PySem.boot_len (qaN (qv 1) qa_nil)) (qe_glob rfl X.c_MOST_NODES (v := V.int 60) ⟨_, rfl⟩) (nomark _)) (qw_or1 (qt_cmpR op_gt (qe_call G_qdeepest hr rfl X.m_qdeepest X.F_qdeepest.kp X.b_qdeepest .nil pass0 (qaN (qv 1) qa_nil)) (qe_glob rfl X.c_MOST_DEEP (v := V.int 20) ⟨_, rfl⟩) (nomark _))))) (qss_one (qs_raise rfl rfl X.m_TooGreat X.e_TooGreat (qaJ (qe_join (qj_cons qe_str (qj_cons (qe_fmt (qe_glob rfl X.c_MOST_NODES (v := V.int 60) ⟨_, rfl⟩)) (qj_cons qe_str (qj_cons (qe_fmt (qe_glob rfl X.c_MOST_DEEP (v := V.int 20) ⟨_, rfl⟩)) qj_nil))))) qa_nil) xe_raise)) qss_nil) (qss_one (qs_ret (qe_ix ix_list (qv 2) qe_int (fun _ _ => rfl)))))))), ?_⟩
  rcases hor with ⟨t, ez, wt, hz, q, qg⟩ | ⟨bad, qe⟩
  · have el : z.cps.toList = txt 32 (nsT t) := by rw [ez]; unfold shT; rw [mk_list]
    have run := runT_all wt
    have lrw : (rws 1 (nsT t)).length = size t := by rw [rws_len, many_T]
    have lvl : ∀ x ∈ rws 1 (nsT t), x.2.2 ≤ deep t := fun x hx => by have := lev_T t hx; omega
    have lmx : ∃ x ∈ rws 1 (nsT t), x.2.2 = deep t := by
      obtain ⟨x, hx, e⟩ := lev_max t 1
      exact ⟨x, hx, by omega⟩
    obtain ⟨cl, rall⟩ := NS.run_all (cl_T t wt)
    rw [← el] at rall
    refine ⟨_, rfl, z, rfl, tz, (fun st hst hop D us H1 s1 nD hD hrs => ?_), fun hno => absurd rfl (hno _ rall)⟩
    have est := run_det hst rall
    subst est
    have hrs : L2R (RwIs H1) (rws 1 (nsT t)) us := hrs
    have lus := hrs.len
    generalize rws 1 (nsT t) = rows at hrs lus run lrw lvl lmx
    have sp := size_pos t
    refine ⟨(by show 0 ≤ sizeLine; decide), fun r hr' => ?_⟩
    have s2 := same_new hr' (.lst [])
    refine ⟨_, rfl, D, rfl, ⟨_, SqL.of (s2 _ _ hD)⟩, for_list (K := K) (a := D) (xs := us) (fun j σ H' => (∃ x3 x4 x5 x6, σ = [some (.str z), some (.ref D), some (.ref r), x3, x4, x5, x6]) ∧ Same H1 H' ∧ ∃ S vs, H' r = some (.lst vs) ∧ L2R (TrIs H') S vs ∧ RunT S (rows.drop j) [t] ∧ S.length ≤ j)
      ⟨⟨none, none, none, none, rfl⟩, s2, [], [], upd_same, .nil, run, Nat.le_refl _⟩ (fun j σ H' _ ⟨_, sm, _⟩ => SqL.of (sm _ _ hD)) ?_ ?_⟩
    · rintro j y σ H' hy ⟨⟨x3, x4, x5, x6, rfl⟩, sm, S, vs, hr1, hS, hrun, hlen⟩
      obtain ⟨x, hx, a, rfl, ha⟩ := hrs.get hy
      have hj := lt_of_some hy
      obtain ⟨hj2, ex⟩ := List.getElem?_eq_some_iff.mp hx
      rw [List.drop_eq_getElem_cons hj2, ex] at hrun
      obtain ⟨S0, bs, nm, mk, rfl, hbs, hwt, hwd, hrun1⟩ := hrun
      obtain ⟨xs, ys, rfl, g1, g2⟩ := hS.unapp
      have ly := g2.len
      have lx := g1.len
      rw [List.length_append] at hlen
      refine ⟨a, _, rfl, SqT.of (sm _ _ ha), rfl, _, _, rfl, _, _, rfl, _, _, rfl, rfl, ?_⟩
      refine ⟨_, rfl, _, rfl, r, x.2.1, xs, ys, rfl, hr1, by omega, by omega, fun tb H2 sh h2r h2t => ?_⟩
      have tt : SameT H' H2 := fun b zs e => sh b _ (by rw [hide_ne (ne_of e hr1 (fun z => nomatch z))]; exact e)
      have s12 : Same H1 H2 := fun b o e => by
        have nb : b ≠ r := ne_of_none e hr'
        exact sh b o (by rw [hide_ne nb]; exact sm _ _ e)
      cases hwt with
      | node hn h0 h1 hb =>
        refine ⟨_, rfl, .inl ⟨rfl, _, SqL.of h2r⟩, _, rfl, x.1, rfl, by rw [hwd]; exact nd_tx hn h0 h1, .inl ⟨nm, mk, hwd, hn, h0, h1, fun t1 H3 s3 h3 => ⟨_, rfl, (by show 1 ≤ sizeLine; decide), fun t2 ht2 => ?_⟩⟩⟩
        have s4 := same_new ht2 (.tup [.ref tb])
        refine ⟨t1, t2, _, _, rfl, rfl, s4 _ _ h3, upd_same, (by show 2 + 1 ≤ sizeLine; decide), fun t3 H5 s5 h5 => ?_⟩
        have s25 := s3.trans (s4.trans s5)
        have hr5 := s25 _ _ h2r
        refine ⟨r, xs, _, rfl, rfl, hr5, fitsL (by omega), ?_⟩
        have tL : SameT H5 (upd H5 r (.lst (xs ++ [.ref t3]))) := sameT_lst hr5
        have t25 : SameT H' (upd H5 r (.lst (xs ++ [.ref t3]))) := tt.trans ((sameT s25).trans tL)
        refine ⟨⟨_, _, _, _, rfl⟩, same_upd hr' (s12.trans s25), _, _, upd_same, (g1.imp fun _ _ h => TrIs.same t25 _ h).snoc ?_, hrun1, by rw [List.length_append, List.length_singleton]; omega⟩
        exact TrIs.cl (tL _ _ h5) (tL _ _ (s25 _ _ h2t)) (g2.imp fun _ _ h => TrIs.same t25 _ h)
    · rintro σ H' ⟨⟨x3, x4, x5, x6, rfl⟩, sm, S, vs, hr1, hS, hrun, hlen⟩
      rw [List.drop_eq_nil_of_le (by omega)] at hrun
      have e : S = [t] := hrun
      subst e
      obtain ⟨v, r', rfl, hv, hnil⟩ := hS.inv_cons
      have := hnil.nil_of
      subst this
      have l1 : (Str.ofString "a tree has more than ").length = 21 := by decide
      unfold tNext
      dsimp only
      refine seq_ifS_by (fun H2 => Same H1 H2 ∧ (60 < size t ∨ 20 < deep t)) (fun H2 => Same H1 H2 ∧ H2 r = some (.lst [v]) ∧ TrIs H2 t v ∧ size t ≤ 60 ∧ deep t ≤ 20) (fun Q' qT qF => ?_) (fun H2 ⟨s3, hgr⟩ => ?_) (fun H2 ⟨s3, hr2, hv2, h60, h20⟩ => ?_)
      · refine ⟨_, rfl, D, _, rfl, .inl (SqL.of (sm _ _ hD)), _, _, rfl, rfl, _, rfl, iteDd (fun h => qT H' ⟨sm, .inl (by omega)⟩) (fun h => ?_)⟩
        refine ⟨_, rfl, D, us, rows, rfl, sm _ _ hD, hrs.imp fun _ _ => RwIs.same (sameT sm), (fun z => by rw [z] at lrw; have : 0 = size t := lrw; omega), by omega, fun M H2 hM hB s3 => ?_⟩
        refine ⟨_, _, rfl, rfl, _, rfl, ?_⟩
        obtain ⟨x, hx, eM⟩ := hM
        obtain ⟨y, hy, ey⟩ := lmx
        have b1 := lvl x hx
        have b2 := hB y hy
        by_cases hM : 20 < M
        · rw [decide_eq_true hM]
          exact qT H2 ⟨sm.trans s3, .inr (by omega)⟩
        · rw [decide_eq_false hM]
          exact qF H2 ⟨sm.trans s3, s3 _ _ hr1, TrIs.same (sameT s3) _ hv, by omega, by omega⟩
      · exact ⟨_, rfl, fits2 (by decide +kernel), .inr ⟨60, rfl, small_log (by decide) (by decide), _, rfl, fits2 (by decide +kernel), _, rfl, fits2 (by decide +kernel), .inr ⟨20, rfl, small_log (by decide) (by decide), _, rfl, fits2 (by decide +kernel), (by show 1 ≤ 10; decide), qg hgr _ (s1.trans s3)⟩⟩⟩
      · exact ⟨_, rfl, r, _, 0, _, rfl, rfl, SqL.of hr2, rfl, q h60 h20 v H2 (s1.trans s3) hv2⟩
  · refine ⟨_, rfl, z, rfl, tz, (fun st hst hop D us H1 s1 nD hD hrs => ?_), fun hno => qe⟩
    obtain ⟨x0, hx0, ebad⟩ := bad st hst hop
    obtain ⟨m, hm, _⟩ := jj_run jj_ini hst
    have ww := (ww_run ww_ini (pcs_tx tz) hst).1
    have lr := len_run hst
    have lp := NS.pcs_len 32 z.cps.toList []
    have lz := tz.1
    rw [len_list] at lz
    have lrs : st.rs.length ≤ 40010 := by
      have e : (ini : Ms).rs.length = 0 := rfl
      rw [e] at lr
      omega
    have lus := hrs.len
    generalize st.rs = rows at hrs lus hm ww lrs hx0
    refine ⟨(by show 0 ≤ sizeLine; decide), fun r hr' => ?_⟩
    have s2 := same_new hr' (.lst [])
    refine ⟨_, rfl, D, rfl, ⟨_, SqL.of (s2 _ _ hD)⟩, for_list (K := K) (a := D) (xs := us) (fun j σ H' => (∃ x3 x4 x5 x6, σ = [some (.str z), some (.ref D), some (.ref r), x3, x4, x5, x6]) ∧ Same H1 H' ∧ ∃ vs, H' r = some (.lst vs) ∧ hg vs.length (rows.drop j) = some m ∧ vs.length ≤ j ∧ ∀ x ∈ rows.take j, nodeB x.1 = true)
      ⟨⟨none, none, none, none, rfl⟩, s2, [], upd_same, hm, Nat.le_refl _, (fun x hx => nomatch hx)⟩ (fun j σ H' _ ⟨_, sm, _⟩ => SqL.of (sm _ _ hD)) ?_ ?_⟩
    · rintro j y σ H' hy ⟨⟨x3, x4, x5, x6, rfl⟩, sm, vs, hr1, hh, hlen, hall⟩
      obtain ⟨x, hx, a, rfl, ha⟩ := hrs.get hy
      have hj := lt_of_some hy
      obtain ⟨hj2, ex⟩ := List.getElem?_eq_some_iff.mp hx
      rw [List.drop_eq_getElem_cons hj2, ex] at hh
      obtain ⟨hc, hh⟩ := hg_cons hh
      have tx := ww x (List.mem_of_getElem? hx)
      have evs : vs = vs.take (vs.length - x.2.1) ++ vs.drop (vs.length - x.2.1) := (List.take_append_drop _ _).symm
      refine ⟨a, _, rfl, SqT.of (sm _ _ ha), rfl, _, _, rfl, _, _, rfl, _, _, rfl, rfl, ?_⟩
      refine ⟨_, rfl, _, rfl, r, x.2.1, vs.take (vs.length - x.2.1), vs.drop (vs.length - x.2.1), rfl, by rw [← evs]; exact hr1, by rw [List.length_drop]; omega, by omega, fun tb H2 sh h2r h2t => ?_⟩
      have s12 : Same H1 H2 := fun b o e => by
        have nb : b ≠ r := ne_of_none e hr'
        exact sh b o (by rw [hide_ne nb]; exact sm _ _ e)
      have ltk : (vs.take (vs.length - x.2.1)).length = vs.length - x.2.1 := by rw [List.length_take]; omega
      refine ⟨_, rfl, .inl ⟨rfl, _, SqL.of h2r⟩, _, rfl, x.1, rfl, tx, .inr ⟨(fun en H3 s3 => qe _ (s1.trans (s12.trans s3))), fun en t1 a1 m1 H3 s3 h3 => ⟨_, rfl, (by show 1 ≤ sizeLine; decide), fun t2 ht2 => ?_⟩⟩⟩
      have s4 := same_new ht2 (.tup [.ref tb])
      refine ⟨t1, t2, _, _, rfl, rfl, s4 _ _ h3, upd_same, (by show 2 + 1 ≤ sizeLine; decide), fun t3 H5 s5 h5 => ?_⟩
      have s25 := s3.trans (s4.trans s5)
      have hr5 := s25 _ _ h2r
      refine ⟨r, _, _, rfl, rfl, hr5, fitsL (by omega), ?_⟩
      refine ⟨⟨_, _, _, _, rfl⟩, same_upd hr' (s12.trans s25), _, upd_same, by rw [List.length_append, ltk]; exact hh, by rw [List.length_append, ltk, List.length_singleton]; omega, fun y hy => ?_⟩
      rw [take_snocA hx] at hy
      rcases List.mem_append.mp hy with h | h
      · exact hall y h
      · rw [List.mem_singleton.mp h]; exact en
    · rintro σ H' ⟨⟨x3, x4, x5, x6, rfl⟩, sm, vs, hr1, hh, hlen, hall⟩
      rw [List.take_of_length_le (by omega)] at hall
      have := hall x0 hx0
      rw [ebad] at this
      cases this
end
end K24
set_option Elab.async false
set_option linter.all false
set_option maxRecDepth 100000
set_option maxHeartbeats 4000000
namespace K24
open PySem L2 NS TR
open TM
def spSame (n : Nat) : Sp := fun vs H Q _ => ∃ v1 v2, vs = [v1, v2] ∧ Al H n v1 v2 ∧ ∀ H', Same H H' → Q (.bl true) H'
def spWhl : Sp := fun vs H Q _ => ∃ i : Int, vs = [.int i] ∧ Q (.bl true) H
def spWord : Sp := fun vs H Q _ => ∃ c k : Int, vs = [.int c, .int k] ∧ ∀ z H', NmOk z → Same H H' → Q (.str z) H'
theorem fold_app : ∀ (l : List (Array Nat)) (acc : Array Nat), (l.foldl (· ++ ·) acc).toList = acc.toList ++ (l.map Array.toList).flatten
  | [], acc => by simp
  | a :: l, acc => by rw [List.foldl_cons, fold_app l]; simp
theorem mul_all (g : Nat) (n : Int) : ∀ c ∈ (Txt.mul ⟨#[g]⟩ n).cps.toList, c = g := by
  intro c hc
  unfold Txt.mul at hc
  split at hc
  · exact absurd hc (by simp [Str.empty])
  · split at hc
    · simpa using hc
    · rw [show ((⟨(List.replicate n.toNat (#[g] : Array Nat)).foldl (· ++ ·) #[]⟩ : Str)).cps.toList = _ from fold_app _ _] at hc
      simp only [List.map_replicate, List.nil_append, List.mem_flatten] at hc
      obtain ⟨l, hl, h⟩ := hc
      have h1 : 0 < n ∧ l = [g] := by simpa using hl
      rw [h1.2] at h
      simpa using h
abbrev letters26 : Str := "abcdefghijklmnopqrstuvwxyz"
theorem at_letters {m : Int} (h0 : 0 ≤ m) (h1 : m < 26) : ∃ c, atI letters26.cps.toList m = some c ∧ c ∈ letters26.cps.toList := by
  obtain ⟨k, rfl⟩ := Int.eq_ofNat_of_zero_le h0
  have hl : letters26.cps.toList.length = 26 := by decide +kernel
  exact ⟨_, atI_nat (List.getElem?_eq_getElem (by omega)), List.getElem_mem _⟩
theorem let_in : ∀ c ∈ letters26.cps.toList, letOk c = true := by decide +kernel
theorem at_mod26 (c : Int) : ∃ g, atI letters26.cps.toList (c % 26) = some g ∧ letOk g = true := by
  obtain ⟨g, h, m⟩ := at_letters (Int.emod_nonneg c (show (26 : Int) ≠ 0 by decide)) (Int.emod_lt_of_pos c (show (0 : Int) < 26 by decide))
  exact ⟨g, h, let_in g m⟩
theorem mul1_len (g : Nat) {n : Int} (h0 : 0 ≤ n) : ((Txt.mul ⟨#[g]⟩ n).length : Int) = n := by
  have e := PyProof.Rows.len_mul ⟨#[g]⟩ n
  have e1 : (Str.length ⟨#[g]⟩) = 1 := rfl
  rw [e1, if_neg (by simpa using h0)] at e
  omega
theorem at_of {zs : List Str} {m : Int} (h0 : 0 ≤ m) (h1 : m < zs.length) : ∃ z, atI (zs.map V.str) m = some (.str z) ∧ z ∈ zs := by
  obtain ⟨x, hx, hm⟩ := atI_in (xs := zs.map V.str) h0 (by rw [List.length_map]; exact h1)
  obtain ⟨d, hd, rfl⟩ := List.mem_map.mp hm
  exact ⟨d, hx, hd⟩
theorem seq_setC {v : V} {i : Nat} {rest : TS} {D : Ends} {σ : St} {H : Hp} (h : rest D (σ.set i (some v)) H) : tSeq (tAsg (tC v) (gName i)) rest D σ H := h
abbrev names12 : List Str := ["mark", "text", "up", "sign", "down", "form", "num", "row", "add", "many", "show", "a"]
theorem names_good : ∀ z ∈ names12, z.cps.toList ≠ [] ∧ z.cps.toList.length ≤ 8 ∧ ∀ c ∈ z.cps.toList, letOk c = true := by decide +kernel
section
variable {P : Program} {w : World} {K : PySem.W.Frag} {mg : Str → Option Value} {base : Heap} {T : Adr}
theorem ok_whole' (X : Tx K mg T) : FnOk P w K mg base CX0 1 T.qwhole T.d_qwhole ["_law_found"] spWhl := by
  refine X.F_qwhole.okQ sc_qwhole (fun vs H Q E h => ?_) (fun cdv A outer s H vs Q E hr h => ?_)
  · obtain ⟨_, rfl, _⟩ := h
    rfl
  obtain ⟨i, rfl, q⟩ := h
  refine ⟨_, (qss_one (qs_ret (qe_and (qe_callB call_isinst rfl X.z_isinstance PyProof.Rows.boot_isinstance (qaN (qv 0) (qaN (qe_bltn rfl X.z_int PyProof.Rows.boot_int rfl (v := .ty "int")) qa_nil))) (qe_one (qe_not (qe_callB call_isinst rfl X.z_isinstance PyProof.Rows.boot_isinstance (qaN (qv 0) (qaN (qe_bltn rfl X.z_bool PyProof.Rows.boot_bool rfl (v := .ty "bool")) qa_nil)))))))), ?_⟩
  exact ⟨_, rfl, _, "int", _, _, rfl, .int i, k_ii, _, rfl, iteT ⟨_, rfl, _, "bool", _, _, rfl, .int i, k_ib, _, rfl, q⟩⟩
theorem ok_same (X : Tx K mg T) : ∀ n : Nat, FnOk P w K mg base CX0 (n + 2) T.qsame T.d_qsame ["_law_found", "_law_due"] (spSame n) := by
  intro n
  induction n with
  | zero =>
    have G_qwhole := ok_whole' (P := P) (w := w) (base := base) X
    have G_qsame : FnOk P w K mg base CX0 0 T.qsame T.d_qsame ["_law_found", "_law_due"] (fun _ _ _ _ => False) := ⟨fun _ _ _ _ h => h.elim, fun _ _ _ _ _ _ _ _ _ _ _ _ _ h => h.elim⟩
    have G_qsame := G_qsame.mono (show 0 ≤ 1 by decide)
    refine X.F_qsame.okQ sc_qsame (fun vs H Q E h => ?_) (fun cdv A outer s H vs Q E hr h => ?_)
    · obtain ⟨_, _, rfl, _⟩ := h
      rfl
    obtain ⟨v1, v2, rfl, al, q⟩ := h
    refine ⟨_, (qss_cons (qs_if (qt_val (qe_callB call_isinst rfl X.z_isinstance PyProof.Rows.boot_isinstance (qaN (qv 1) (qaN (qe_bltn rfl X.z_str PyProof.Rows.boot_str rfl (v := .ty "str")) qa_nil)))) (qss_one (qs_ret (qe_and (qe_callB call_isinst rfl X.z_isinstance PyProof.Rows.boot_isinstance (qaN (qv 0) (qaN (qe_bltn rfl X.z_str PyProof.Rows.boot_str rfl (v := .ty "str")) qa_nil))) (qe_one (qe_cmpR op_eq (qv 0) (qv 1) (nomark _)))))) qss_nil) (qss_cons (qs_if (qt_not (qt_val (qe_callB call_isinst rfl X.z_isinstance PyProof.Rows.boot_isinstance (qaN (qv 1) (qaN (qe_bltn rfl X.z_tuple PyProof.Rows.boot_tuple rfl (v := .ty "tuple")) qa_nil))))) (qss_one (qs_ret (qe_and (qe_call G_qwhole hr rfl X.m_qwhole X.F_qwhole.kp X.b_qwhole .nil pass0 (qaN (qv 0) qa_nil)) (qe_one (qe_cmpR op_eq (qv 0) (qv 1) (nomark _)))))) qss_nil) (qss_cons (qs_if (qw_pt (qw_or (qt_not (qt_val (qe_callB call_isinst rfl X.z_isinstance PyProof.Rows.boot_isinstance (qaN (qv 0) (qaN (qe_bltn rfl X.z_tuple PyProof.Rows.boot_tuple rfl (v := .ty "tuple")) qa_nil))))) (qw_or1 (qt_cmpR op_ne (qe_callB (call_len_seq.or call_len_str) rfl X.z_len PySem.boot_len (qaN (qv 0) qa_nil)) (qe_callB (call_len_seq.or call_len_str) rfl X.z_len PySem.boot_len (qaN (qv 1) qa_nil)) (nomark _))))) qss_never qss_nil) (qss_cons (qs_for PassesOwn.never rfl (qi_zipT rfl X.z_zip (qaN (qv 0) (qaN (qv 1) qa_nil))) (qg_tup rfl (qgs_cons (qg_name (i := 2) sc_qsame.nd rfl (Or.inl rfl)) (qgs_cons (qg_name (i := 3) sc_qsame.nd rfl (Or.inl rfl)) qgs_nil))) (qss_one (qs_if (qt_not (qt_val (qe_call G_qsame hr rfl X.m_qsame X.F_qsame.kp X.b_qsame .nil pass0 (qaN (qv 2) (qaN (qv 3) qa_nil))))) qss_never qss_nil))) (qss_one (qs_ret qe_bl)))))), ?_⟩
    have qs := q H (Same.refl H)
    cases al with
    | str z => exact ⟨_, rfl, _, "str", _, _, rfl, .str z, k_ss, _, rfl, iteT ⟨_, rfl, _, "str", _, _, rfl, .str z, k_ss, _, rfl, iteT ⟨_, rfl, _, rfl, rfl, by rw [decide_eq_true rfl]; exact qs⟩⟩⟩
    | int i => exact ⟨_, rfl, _, "str", _, _, rfl, .int i, k_is', _, rfl, iteF ⟨_, rfl, _, "tuple", _, _, rfl, .int i, k_it, _, rfl, iteT ⟨_, rfl, i, rfl, _, rfl, iteT ⟨_, rfl, _, rfl, rfl, by rw [decide_eq_true rfl]; exact qs⟩⟩⟩⟩
  | succ n ih =>
    have G_qwhole := (ok_whole' (P := P) (w := w) (base := base) X).mono (show 1 ≤ n + 2 by omega)
    have G_qsame := ih
    refine X.F_qsame.okQ sc_qsame (fun vs H Q E h => ?_) (fun cdv A outer s H vs Q E hr h => ?_)
    · obtain ⟨_, _, rfl, _⟩ := h
      rfl
    obtain ⟨v1, v2, rfl, al, q⟩ := h
    refine ⟨_, (qss_cons (qs_if (qt_val (qe_callB call_isinst rfl X.z_isinstance PyProof.Rows.boot_isinstance (qaN (qv 1) (qaN (qe_bltn rfl X.z_str PyProof.Rows.boot_str rfl (v := .ty "str")) qa_nil)))) (qss_one (qs_ret (qe_and (qe_callB call_isinst rfl X.z_isinstance PyProof.Rows.boot_isinstance (qaN (qv 0) (qaN (qe_bltn rfl X.z_str PyProof.Rows.boot_str rfl (v := .ty "str")) qa_nil))) (qe_one (qe_cmpR op_eq (qv 0) (qv 1) (nomark _)))))) qss_nil) (qss_cons (qs_if (qt_not (qt_val (qe_callB call_isinst rfl X.z_isinstance PyProof.Rows.boot_isinstance (qaN (qv 1) (qaN (qe_bltn rfl X.z_tuple PyProof.Rows.boot_tuple rfl (v := .ty "tuple")) qa_nil))))) (qss_one (qs_ret (qe_and (qe_call G_qwhole hr rfl X.m_qwhole X.F_qwhole.kp X.b_qwhole .nil pass0 (qaN (qv 0) qa_nil)) (qe_one (qe_cmpR op_eq (qv 0) (qv 1) (nomark _)))))) qss_nil) (qss_cons (qs_if (qw_pt (qw_or (qt_not (qt_val (qe_callB call_isinst rfl X.z_isinstance PyProof.Rows.boot_isinstance (qaN (qv 0) (qaN (qe_bltn rfl X.z_tuple PyProof.Rows.boot_tuple rfl (v := .ty "tuple")) qa_nil))))) (qw_or1 (qt_cmpR op_ne (qe_callB (call_len_seq.or call_len_str) rfl X.z_len PySem.boot_len (qaN (qv 0) qa_nil)) (qe_callB (call_len_seq.or call_len_str) rfl X.z_len PySem.boot_len (qaN (qv 1) qa_nil)) (nomark _))))) qss_never qss_nil) (qss_cons (qs_for PassesOwn.never rfl (qi_zipT rfl X.z_zip (qaN (qv 0) (qaN (qv 1) qa_nil))) (qg_tup rfl (qgs_cons (qg_name (i := 2) sc_qsame.nd rfl (Or.inl rfl)) (qgs_cons (qg_name (i := 3) sc_qsame.nd rfl (Or.inl rfl)) qgs_nil))) (qss_one (qs_if (qt_not (qt_val (qe_call G_qsame hr rfl X.m_qsame X.F_qsame.kp X.b_qsame .nil pass0 (qaN (qv 2) (qaN (qv 3) qa_nil))))) qss_never qss_nil))) (qss_one (qs_ret qe_bl)))))), ?_⟩
    have qs := q H (Same.refl H)
    cases al with
    | str z => exact ⟨_, rfl, _, "str", _, _, rfl, .str z, k_ss, _, rfl, iteT ⟨_, rfl, _, "str", _, _, rfl, .str z, k_ss, _, rfl, iteT ⟨_, rfl, _, rfl, rfl, by rw [decide_eq_true rfl]; exact qs⟩⟩⟩
    | int i => exact ⟨_, rfl, _, "str", _, _, rfl, .int i, k_is', _, rfl, iteF ⟨_, rfl, _, "tuple", _, _, rfl, .int i, k_it, _, rfl, iteT ⟨_, rfl, i, rfl, _, rfl, iteT ⟨_, rfl, _, rfl, rfl, by rw [decide_eq_true rfl]; exact qs⟩⟩⟩⟩
    | @tup _ a b xs ys ha hb e hl hi =>
      refine ⟨_, rfl, _, "str", _, _, rfl, .tup hb, k_ts, _, rfl, iteF ⟨_, rfl, _, "tuple", _, _, rfl, .tup hb, k_tt, _, rfl, iteF ⟨_, rfl, _, "tuple", _, _, rfl, .tup ha, k_tt, _, rfl, iteF ?_⟩⟩⟩
      refine ⟨_, rfl, .inl ⟨a, xs, rfl, .inr (SqT.of ha), _, rfl, .inl ⟨b, ys, rfl, .inr (SqT.of hb), rfl, _, rfl, iteNS (by rw [e]) ?_⟩⟩⟩
      refine ⟨_, rfl, _, rfl, a, b, xs, ys, rfl, SqT.of ha, SqT.of hb, e, for_wt (fun i σ H' => (∃ x2 x3, σ = [some (.ref a), some (.ref b), x2, x3]) ∧ Same H H') ⟨⟨none, none, rfl⟩, Same.refl _⟩ (fun i σ H' _ ⟨_, sm⟩ => ⟨SqT.of (sm _ _ ha), SqT.of (sm _ _ hb)⟩) ?_ ?_⟩
      · rintro i T' vs' σ H' hlt ⟨x, y, hx, hy, rfl⟩ ⟨⟨x2, x3, rfl⟩, sm⟩ hT
        have s1 := same_new hT (.tup [x, y])
        refine ⟨T', _, rfl, SqT.of upd_same, rfl, _, _, rfl, _, _, rfl, rfl, ?_⟩
        exact ⟨_, rfl, _, rfl, x, y, rfl, ((hi i x y hx hy).same sm).same s1, fun H2 s2 => ⟨_, rfl, iteF ⟨⟨_, _, rfl⟩, (sm.trans s1).trans s2⟩⟩⟩
      · rintro σ H' ⟨⟨x2, x3, rfl⟩, sm⟩
        exact q H' sm
theorem ok_word (X : Tx K mg T) : FnOk P w K mg base CX0 1 T.qword T.d_qword ["_law_cell", "_law_k"] spWord := by
  refine X.F_qword.okQ sc_qword (fun vs H Q E h => ?_) (fun cdv A outer s H vs Q E hr h => ?_)
  · obtain ⟨_, _, rfl, _⟩ := h
    rfl
  obtain ⟨c, k, rfl, q⟩ := h
  refine ⟨_, (qss_cons (qs_set (i := 2) sc_qword.nd rfl (Or.inl rfl) qe_str) (qss_cons (qs_if (qw_pt (qw_and (qt_cmpR op_eq (qe_op op_mod (qv 0) qe_int) qe_int (nomark _)) (qw_and1 (qt_cmpR op_lt (qv 1) qe_int (nomark _))))) (qss_cons (qs_set (i := 3) sc_qword.nd rfl (Or.inl rfl) (qe_lst (qaC qe_str (qaC qe_str (qaC qe_str (qaC qe_str (qaC qe_str (qaC qe_str (qaC qe_str (qaC qe_str (qaC qe_str (qaC qe_str (qaC qe_str (qaC qe_str qa_nil)))))))))))))) (qss_one (qs_ret (qe_ix ix_list (qv 3) (qe_op op_mod (qe_op op_add (qe_op op_fdiv (qv 0) qe_int) (qv 1)) qe_int) (fun _ _ => rfl))))) qss_nil) (qss_cons (qs_set (i := 4) sc_qword.nd rfl (Or.inl rfl) (qe_op op_add qe_int (qe_op op_mod (qv 0) qe_int))) (qss_cons (qs_set (i := 5) sc_qword.nd rfl (Or.inl rfl) (qe_op op_mod (qe_op op_fdiv (qv 0) qe_int) (qv 4))) (qss_cons (qs_set (i := 6) sc_qword.nd rfl (Or.inl rfl) (qe_ix ix_str (qv 2) (qe_op op_mod (qe_op op_fdiv (qv 0) qe_int) qe_int) (fun _ _ => rfl))) (qss_one (qs_ret (qe_op op_add_str (qe_op op_add_str (qe_op op_rep_str (qv 6) (qv 5)) (qe_ix ix_str (qv 2) (qe_op op_mod (qe_op op_add (qe_op op_fdiv (qv 0) qe_int) (qv 1)) qe_int) (fun _ _ => rfl))) (qe_op op_rep_str (qv 6) (qe_op op_sub (qe_op op_sub (qv 4) (qv 5)) qe_int)))))))))), ?_⟩
  refine seq_setC ?_
  refine seq_ifS_by (fun H1 => H1 = H) (fun H1 => H1 = H) (fun Q' qT qF => ?_) (fun H1 e => ?_) (fun H1 e => ?_)
  · refine ⟨_, rfl, _, _, rfl, rfl, (by show (0 : Int) < 3; decide), rfl, _, rfl, iteDd (fun _ => ⟨_, rfl, _, _, rfl, rfl, _, rfl, ?_⟩) (fun _ => qF H rfl)⟩
    by_cases h0 : k < 12
    · rw [decide_eq_true h0]
      exact qT H rfl
    · rw [decide_eq_false h0]
      exact qF H rfl
  · subst e
    refine ⟨(by show 12 ≤ sizeLine; decide), fun p hp => ?_⟩
    have s1 := same_new hp (.lst (names12.map V.str))
    obtain ⟨z, hz, hm⟩ := at_of (zs := names12) (m := (c / 3 + k) % 12) (Int.emod_nonneg _ (by decide)) (Int.emod_lt_of_pos _ (by decide))
    exact ⟨_, rfl, _, rfl, _, _, rfl, rfl, ⟨by decide, by decide⟩, _, rfl, _, _, rfl, rfl, _, _, rfl, rfl, (by show (0 : Int) < 12; decide), p, _, _, _, rfl, rfl, SqL.of upd_same, hz, q z _ (names_good z hm) s1⟩
  subst e
  have c0 := Int.emod_nonneg c (show (8 : Int) ≠ 0 by decide)
  have c1 := Int.emod_lt_of_pos c (show (0 : Int) < 8 by decide)
  have hpos : (0 : Int) < 1 + c % 8 := by omega
  have a0 := Int.emod_nonneg (c / 8) (show (1 + c % 8 : Int) ≠ 0 by omega)
  have a1 := Int.emod_lt_of_pos (c / 8) hpos
  obtain ⟨g, hg, lg⟩ := at_mod26 (c / 64)
  obtain ⟨g2, hg2, lg2⟩ := at_mod26 (c / 1664 + k)
  refine ⟨_, rfl, _, _, rfl, rfl, (by show (0 : Int) < 8; decide), _, _, rfl, rfl, ?_⟩
  refine ⟨_, rfl, _, _, rfl, rfl, ⟨by decide, by decide⟩, _, rfl, _, _, rfl, rfl, hpos, ?_⟩
  refine ⟨_, rfl, _, rfl, _, _, rfl, rfl, ⟨by decide, by decide⟩, _, _, rfl, rfl, (by show (0 : Int) < 26; decide), letters26, _, g, rfl, rfl, (by decide +kernel), hg, ?_⟩
  have l1 := mul1_len g (n := c / 8 % (1 + c % 8)) (by omega)
  have l2 := mul1_len g (n := 1 + c % 8 - c / 8 % (1 + c % 8) - 1) (by omega)
  have e1 : (Str.length ⟨#[g]⟩) = 1 := rfl
  have e2 : (Str.length ⟨#[g2]⟩) = 1 := rfl
  refine ⟨_, rfl, _, rfl, _, _, rfl, rfl, (by rw [e1]; decide), by omega, by omega, _, rfl, _, rfl, _, _, rfl, rfl, ⟨by decide, by decide⟩, _, rfl, _, _, rfl, rfl, _, _, rfl, rfl, (by show (0 : Int) < 26; decide), letters26, _, g2, rfl, rfl, (by decide +kernel), hg2, _, _, rfl, rfl, fits2 (by omega), ?_⟩
  refine ⟨_, rfl, _, rfl, _, rfl, _, _, rfl, rfl, _, _, rfl, rfl, _, _, rfl, rfl, (by rw [e1]; decide), by omega, by omega, _, _, rfl, rfl, fits2 (by rw [app_len]; omega), q _ _ ⟨?_, ?_, ?_⟩ (Same.refl _)⟩
  · rw [app_list, app_list]
    simp
  · rw [← len_list, app_len, app_len]
    omega
  · intro x hx
    rw [app_list, app_list] at hx
    simp only [List.mem_append] at hx
    rcases hx with (h | h) | h
    · rw [mul_all g _ x h]; exact lg
    · have : x = g2 := by simpa using h
      rw [this]; exact lg2
    · rw [mul_all g _ x h]; exact lg
end
end K24
set_option Elab.async false
set_option linter.all false
set_option maxRecDepth 100000
set_option maxHeartbeats 4000000
namespace K24
open PySem L2 NS TR
open TM
abbrev kdV (ks : List Nat) : List V := ks.map fun (j : Nat) => V.int (j : Int)
theorem qe_dnewK {X : Cx} {pos : Pos} : QE X (.Dict [] [] pos) tDNewK := ⟨pe_dnewK⟩
def setN (f : Nat → Addr) (n : Nat) (a : Addr) : Nat → Addr := fun j => if j = n then a else f j
theorem setN_at {f : Nat → Addr} {n j : Nat} {a : Addr} (e : j = n) : setN f n a j = a := if_pos e
theorem setN_ne {f : Nat → Addr} {n j : Nat} {a : Addr} (e : ¬ j = n) : setN f n a j = f j := if_neg e
structure RowsAt (B H : Hp) (D : Addr) (n : Nat) (R : Nat → Rw) : Prop where
  sm : Same B H
  nD : B D = none
  ex : ∃ Pa La : Nat → Addr, H D = some (.lst ((List.range n).map fun i => V.ref (Pa i))) ∧ (∀ i, i < n → H (Pa i) = some (.lst [.str (R i).nm, .int (R i).ma, .ref (La i), .int ((R i).lv : Int)])) ∧
    (∀ i, i < n → H (La i) = some (.lst (kdV (R i).kd))) ∧ (∀ i, i < n → B (La i) = none) ∧ ∀ i j, i < n → j < n → La i = La j → i = j
theorem lst_ne1 {H : Hp} {a b : Addr} {x : Str} {xs : List V} {ks : List Nat} (h : H a = some (.lst (.str x :: xs))) (g : H b = some (.lst (kdV ks))) : a ≠ b := ne_of h g (fun z => by
  cases ks with
  | nil => cases z
  | cons k ks => cases z)
theorem range_at {Pa : Nat → Addr} {n i : Nat} (h : i < n) : ((List.range n).map fun i => V.ref (Pa i))[i]? = some (.ref (Pa i)) := by
  rw [List.getElem?_map, List.getElem?_range h]
  rfl
theorem D_ne_L {H : Hp} {D l : Addr} {Pa : Nat → Addr} {n : Nat} {ks : List Nat} (hn : 1 ≤ n) (h : H D = some (.lst ((List.range n).map fun i => V.ref (Pa i)))) (g : H l = some (.lst (kdV ks))) : D ≠ l := ne_of h g (fun z => by
  have e := HO.lst.inj z
  have h0 := range_at (Pa := Pa) (n := n) (i := 0) hn
  rw [e] at h0
  cases ks with
  | nil => cases h0
  | cons k ks => cases h0)
theorem D_ne_P {H : Hp} {D p : Addr} {Pa : Nat → Addr} {n : Nat} {x : Str} {xs : List V} (hn : 1 ≤ n) (h : H D = some (.lst ((List.range n).map fun i => V.ref (Pa i)))) (g : H p = some (.lst (.str x :: xs))) : D ≠ p := ne_of h g (fun z => by
  have e := HO.lst.inj z
  have h0 := range_at (Pa := Pa) (n := n) (i := 0) hn
  rw [e] at h0
  cases h0)
theorem atI_range {Pa : Nat → Addr} {n u : Nat} (h : u < n) : atI ((List.range n).map fun i => V.ref (Pa i)) (u : Int) = some (.ref (Pa u)) := atI_nat (range_at h)
def spBuilt (K : PySem.W.Frag) : Sp := fun vs H Q _ => ∃ (a : Addr) (ns : List Int) (wd : Int) (most : Nat), vs = [.ref a, .int wd, .int (most : Int)] ∧ SqL K H a (ns.map V.int) ∧ ns.length ≤ 63 ∧ 2 ≤ most ∧
  ∀ t v H', Same H H' → TrIs H' t v → Wt t → size t ≤ 60 → deep t ≤ most → Q v H'
theorem seq_if_set {c : TT} {v : V} {i : Nat} {rest : TS} {D : Ends} {σ σ' : St} {H : Hp} (b : Bool) (hc : ∀ Q : Bool → Hp → Prop, Q b H → c σ H Q) (e : (if b = true then σ.set i (some v) else σ) = σ') (h : rest D σ' H) : tSeq (tIfS c (tAsg (tC v) (gName i)) tNext) rest D σ H := by
  subst e
  refine hc _ ?_
  cases b with
  | true => exact h
  | false => exact h
theorem mark_at {g : Int} (h0 : 0 ≤ g) (h1 : g < 1000000000000000000) : ∃ m : Int, atI [V.int 0, .int (g / 11 % 10), .int g] (g / 7 % 3) = some (.int m) ∧ 0 ≤ m ∧ m < 1000000000000000000 := by
  have a0 := Int.emod_nonneg (g / 7) (show (3 : Int) ≠ 0 by decide)
  have a1 := Int.emod_lt_of_pos (g / 7) (show (0 : Int) < 3 by decide)
  have b0 := Int.emod_nonneg (g / 11) (show (10 : Int) ≠ 0 by decide)
  have b1 := Int.emod_lt_of_pos (g / 11) (show (0 : Int) < 10 by decide)
  have : g / 7 % 3 = 0 ∨ g / 7 % 3 = 1 ∨ g / 7 % 3 = 2 := by omega
  rcases this with e | e | e <;> rw [e]
  · exact ⟨0, rfl, by omega, by omega⟩
  · exact ⟨_, rfl, b0, by omega⟩
  · exact ⟨g, rfl, h0, h1⟩
theorem up_at {n : Nat} (hn : 1 ≤ n) (g : Int) (b : Bool) : ∃ u : Nat, u < n ∧ atI [V.int ((n : Int) - 1), .int (g / 5 % (n : Int))] (if b then 1 else 0) = some (.int (u : Int)) := by
  have a0 := Int.emod_nonneg (g / 5) (show (n : Int) ≠ 0 by omega)
  have a1 := Int.emod_lt_of_pos (g / 5) (show (0 : Int) < (n : Int) by omega)
  cases b with
  | false => exact ⟨n - 1, by omega, by rw [show ((n - 1 : Nat) : Int) = (n : Int) - 1 by omega]; rfl⟩
  | true =>
    obtain ⟨u, hu⟩ := Int.eq_ofNat_of_zero_le a0
    exact ⟨u, by omega, by rw [hu]; rfl⟩
section
variable {P : Program} {w : World} {K : PySem.W.Frag} {mg : Str → Option Value} {base : Heap} {T : Adr}
theorem ok_built (X : Tx K mg T) : FnOk P w K mg base CX0 2 T.qbuilt T.d_qbuilt ["_law_script", "_law_word_here", "_law_most"] (spBuilt K) := by
  have G_qword := ok_word (P := P) (w := w) (base := base) X
  refine X.F_qbuilt.okQ sc_qbuilt (fun vs H Q E h => ?_) (fun cdv A outer s H vs Q E hr h => ?_)
  · obtain ⟨_, _, _, _, rfl, _⟩ := h
    rfl
  obtain ⟨a, ns, wd, most, rfl, hS, h63, hm2, q⟩ := h
  refine ⟨_, (qss_cons (qs_set (i := 3) sc_qbuilt.nd rfl (Or.inl rfl) (qe_lst (qaL (qe_lst (qaK (qe_call G_qword hr rfl X.m_qword X.F_qword.kp X.b_qword .nil pass0 (qaN (qv 1) (qaC qe_int qa_nil))) (qaC qe_int (qaL (qe_lst qa_nil) (qaC qe_int qa_nil))))) qa_nil))) (qss_cons (qs_for PassesOwn.never rfl (qi_list (qe_slice sl_list (qv 0) qo_none (qo_some qe_int))) (qg_name (i := 4) sc_qbuilt.nd rfl (Or.inl rfl)) (qss_cons (qs_set (i := 5) sc_qbuilt.nd rfl (Or.inl rfl) (qe_op op_mod (qv 4) (qe_op op_pow qe_int qe_int))) (qss_cons (qs_set (i := 6) sc_qbuilt.nd rfl (Or.inl rfl) (qe_ix ix_list (qe_lst (qaB (qe_op op_sub (qe_callB call_len_seq rfl X.z_len PySem.boot_len (qaN (qv 3) qa_nil)) qe_int) (qaB (qe_op op_mod (qe_op op_fdiv (qv 5) qe_int) (qe_callB call_len_seq rfl X.z_len PySem.boot_len (qaN (qv 3) qa_nil))) qa_nil))) (qe_callTy call_int1 rfl X.z_int PyProof.Rows.boot_int (qaM (qe_cmpR op_gt (qe_op op_mod (qv 5) qe_int) qe_int (nomark _)) qa_nil)) (fun _ _ => rfl))) (qss_cons (qs_if (qt_cmpR op_ge (qe_ix ix_list (qe_ix ix_list (qv 3) (qv 6) (fun _ _ => rfl)) qe_int (fun _ _ => rfl)) (qv 2) (nomark _)) (qss_one (qs_set (i := 6) sc_qbuilt.nd rfl (Or.inl rfl) qe_int)) qss_nil) (qss_cons (qs_set (i := 7) sc_qbuilt.nd rfl (Or.inl rfl) (qe_ix ix_list (qe_lst (qaC qe_int (qaB (qe_op op_mod (qe_op op_fdiv (qv 5) qe_int) qe_int) (qaN (qv 5) qa_nil)))) (qe_op op_mod (qe_op op_fdiv (qv 5) qe_int) qe_int) (fun _ _ => rfl))) (qss_cons (qs_expr (qe_bm PySem.F.plainAttrs_list PySem.F.slot_list_insert PySem.F.type_list_insert mt_insert (qe_ix ix_list (qe_ix ix_list (qv 3) (qv 6) (fun _ _ => rfl)) qe_int (fun _ _ => rfl)) (qaB (qe_op op_mod (qe_op op_fdiv (qv 5) qe_int) (qe_op op_add (qe_callB call_len_seq rfl X.z_len PySem.boot_len (qaS (qe_ix ix_list (qe_ix ix_list (qv 3) (qv 6) (fun _ _ => rfl)) qe_int (fun _ _ => rfl)) qa_nil)) qe_int)) (qaK (qe_callB call_len_seq rfl X.z_len PySem.boot_len (qaN (qv 3) qa_nil)) qa_nil)))) (qss_one (qs_expr (qe_bm PySem.F.plainAttrs_list PySem.F.slot_list_append PySem.F.type_list_append mt_append (qv 3) (qaL (qe_lst (qaK (qe_call G_qword hr rfl X.m_qword X.F_qword.kp X.b_qword .nil pass0 (qaN (qv 1) (qaB (qe_op op_mod (qe_op op_fdiv (qv 5) qe_int) qe_int) qa_nil))) (qaN (qv 7) (qaL (qe_lst qa_nil) (qaB (qe_op op_add (qe_ix ix_list (qe_ix ix_list (qv 3) (qv 6) (fun _ _ => rfl)) qe_int (fun _ _ => rfl)) qe_int) qa_nil))))) qa_nil)))))))))) (qss_cons (qs_set (i := 8) sc_qbuilt.nd rfl (Or.inr rfl) qe_dnewK) (qss_cons (qs_for PassesOwn.never rfl (qi_revR rfl rfl X.z_reversed rfl X.z_range (qe_callB call_len_seq rfl X.z_len PySem.boot_len (qaN (qv 3) qa_nil))) (qg_name (i := 9) sc_qbuilt.nd rfl (Or.inl rfl)) (qss_one (qs_dput (hu_of hr) (qv 8) (qv 9) (qe_tup (qaS (qe_ix ix_list (qe_ix ix_list (qv 3) (qv 9) (fun _ _ => rfl)) qe_int (fun _ _ => rfl)) (qaS (qe_ix ix_list (qe_ix ix_list (qv 3) (qv 9) (fun _ _ => rfl)) qe_int (fun _ _ => rfl)) (qaK (qe_callTy call_tuple_of rfl X.z_tuple PyProof.Rows.boot_tuple (qaE (qe_comp (ys := ["_law_made"]) (js := [8]) rfl rfl (qi_list (qe_ix ix_list (qe_ix ix_list (qv 3) (qv 9) (fun _ _ => rfl)) qe_int (fun _ _ => rfl))) (fun _ _ _ _ _ => qif_nil) (fun _ _ _ _ _ => (qe_dget (hu_of hr) (qv 1) (qv 0)))) qa_nil)) qa_nil)))) rfl))) (qss_one (qs_ret (qe_dget (hu_of hr) (qv 8) qe_int))))))), ?_⟩
  refine ⟨_, rfl, _, _, rfl, fun z0 H1 ok0 s1 => ⟨(by show 0 ≤ sizeLine; decide), fun L0 hL0 => ⟨(by show 4 ≤ sizeLine; decide), fun P0 hP0 => ⟨(by show 1 ≤ sizeLine; decide), fun D hD => ?_⟩⟩⟩⟩
  have t1 := same_new hL0 (.lst [])
  have t2 := same_new hP0 (.lst [.str z0, .int 0, .ref L0, .int 1])
  have t3 := same_new hD (.lst [.ref P0])
  have fL : H L0 = none := s1.free hL0
  have fD : H D = none := (s1.trans (t1.trans t2)).free hD
  have hL : upd (upd (upd H1 L0 (.lst [])) P0 (.lst [.str z0, .int 0, .ref L0, .int 1])) D (.lst [.ref P0]) L0 = some (.lst []) := t3 _ _ (t2 _ _ upd_same)
  have hP : upd (upd (upd H1 L0 (.lst [])) P0 (.lst [.str z0, .int 0, .ref L0, .int 1])) D (.lst [.ref P0]) P0 = some (.lst [.str z0, .int 0, .ref L0, .int 1]) := t3 _ _ upd_same
  have hDD := upd_same (H := upd (upd H1 L0 (.lst [])) P0 (.lst [.str z0, .int 0, .ref L0, .int 1])) (a := D) (o := .lst [.ref P0])
  have s3 := s1.trans (t1.trans (t2.trans t3))
  have fP : H P0 = none := (s1.trans t1).free hP0
  generalize upd (upd (upd H1 L0 (.lst [])) P0 (.lst [.str z0, .int 0, .ref L0, .int 1])) D (.lst [.ref P0]) = H3 at hL hP hDD s3 ⊢
  refine ⟨_, rfl, _, rfl, a, _, rfl, s3.seq hS, fun sl hsl => ?_⟩
  have ecs : cutV (ns.map V.int) none (some 39) = (ns.take 39).map V.int := by
    rw [show (some 39 : Option Int) = some ((39 : Nat) : Int) from rfl, cut_take', List.map_take]
  rw [ecs]
  generalize hns : ns.take 39 = ms
  have lms : ms.length ≤ 39 := by rw [← hns, List.length_take]; omega
  clear hns
  have t4 := same_new hsl (.lst (ms.map V.int))
  have hsl4 := upd_same (H := H3) (a := sl) (o := .lst (ms.map V.int))
  have s4 := s3.trans t4
  have hL4 := t4 _ _ hL
  have hP4 := t4 _ _ hP
  have hD4 := t4 _ _ hDD
  have nsD : sl ≠ D := ne_of_none' hDD hsl
  have nsL : sl ≠ L0 := ne_of_none' hL hsl
  generalize upd H3 sl (.lst (ms.map V.int)) = H4 at t4 hsl4 s4 hL4 hP4 hD4 ⊢
  let B : Hp := fun b => if b = D ∨ b = L0 then none else H4 b
  have BD : B D = none := if_pos (.inl rfl)
  have BL : B L0 = none := if_pos (.inr rfl)
  have BH : Same B H4 := fun b o e => by
    by_cases hb : b = D ∨ b = L0
    · have e' : (if b = D ∨ b = L0 then none else H4 b) = some o := e
      rw [if_pos hb] at e'; cases e'
    · have e' : (if b = D ∨ b = L0 then none else H4 b) = some o := e
      rw [if_neg hb] at e'; exact e'
  have HB : Same H B := fun b o e => by
    show (if b = D ∨ b = L0 then none else H4 b) = some o
    rw [if_neg (by rintro (h | h); exact ne_of_none e fD h; exact ne_of_none e fL h)]
    exact s4 _ _ e
  have slB : B sl = some (.lst (ms.map V.int)) := by
    show (if sl = D ∨ sl = L0 then none else H4 sl) = _
    rw [if_neg (by rintro (h | h); exact nsD h; exact nsL h)]
    exact hsl4
  clear_value B
  have R0 : RowsAt B H4 D 1 (fun _ => ⟨z0, 0, [], 1⟩) := ⟨BH, BD, fun _ => P0, fun _ => L0, hD4, fun i _ => hP4, fun i _ => hL4, fun i _ => BL, fun i j hi hj _ => by omega⟩
  have ok1 : RwOk most 1 (fun _ => ⟨z0, 0, [], 1⟩) := RwOk.one (by omega) ok0 rfl
  refine ⟨sl, rfl, ⟨_, SqL.of hsl4⟩, for_list (K := K) (a := sl) (xs := ms.map V.int) (fun i σ H' => (∃ x4 x5 x6 x7, σ = [some (.ref a), some (.int wd), some (.int (most : Int)), some (.ref D), x4, x5, x6, x7, none, none]) ∧ ∃ R, RwOk most (i + 1) R ∧ RowsAt B H' D (i + 1) R)
    ⟨⟨none, none, none, none, rfl⟩, _, ok1, R0⟩ (fun i σ H' _ ⟨_, R, _, rw⟩ => SqL.of (rw.sm _ _ slB)) ?_ ?_⟩
  · rintro i y σ H' hy ⟨⟨x4, x5, x6, x7, rfl⟩, R, ok, rw⟩
    have hi := lt_of_some hy
    rw [List.length_map] at hi
    rw [List.getElem?_map] at hy
    obtain ⟨c, _, rfl⟩ := Option.map_eq_some_iff.mp hy
    obtain ⟨sm, nD, Pa, La, hD', hP', hL', bL, inj⟩ := rw
    have ln : ((List.range (i + 1)).map fun i => V.ref (Pa i)).length = i + 1 := by rw [List.length_map, List.length_range]
    refine ⟨_, rfl, _, _, rfl, rfl, ⟨by decide, by decide, by decide⟩, _, _, rfl, rfl, (by show (0 : Int) < 10 ^ Int.toNat 18; decide), ?_⟩
    have g0 := Int.emod_nonneg c (show (10 ^ Int.toNat 18 : Int) ≠ 0 by decide)
    have g1 : c % 10 ^ Int.toNat 18 < 1000000000000000000 := Int.emod_lt_of_pos c (by decide)
    try dsimp only
    generalize c % 10 ^ Int.toNat 18 = g at g0 g1 ⊢
    refine ⟨_, rfl, D, _, rfl, .inl (SqL.of hD'), _, _, rfl, rfl, _, rfl, _, _, rfl, rfl, ⟨by decide, by decide⟩, _, rfl, D, _, rfl, .inl (SqL.of hD'), _, _, rfl, rfl, (by rw [ln]; omega), (by show 2 ≤ sizeLine; decide), fun l2 hl2 => ?_⟩
    rw [ln]
    obtain ⟨u0, hu0, at0⟩ := up_at (n := i + 1) (by omega) g (decide (1 < g % 5))
    have t5 := same_new hl2 (.lst [.int (((i + 1 : Nat) : Int) - 1), .int (g / 5 % ((i + 1 : Nat) : Int))])
    refine ⟨_, rfl, _, _, rfl, rfl, (by show (0 : Int) < 5; decide), _, _, rfl, rfl, .inr ⟨_, rfl, l2, _, _, _, rfl, rfl, SqL.of upd_same, at0, ?_⟩⟩
    have hD5 := t5 _ _ hD'
    have hP5 : ∀ j, j < i + 1 → _ := fun j hj => t5 _ _ (hP' j hj)
    have hL5 : ∀ j, j < i + 1 → _ := fun j hj => t5 _ _ (hL' j hj)
    have sm5 := sm.trans t5
    try dsimp only
    generalize upd H' l2 (.lst [.int (((i + 1 : Nat) : Int) - 1), .int (g / 5 % ((i + 1 : Nat) : Int))]) = H5 at hD5 hP5 hL5 sm5 ⊢
    obtain ⟨u, hu, hlv, eσ⟩ : ∃ u, u < i + 1 ∧ (R u).lv < most ∧ (if decide ((most : Int) ≤ ((R u0).lv : Int)) = true then ([some (.ref a), some (.int wd), some (.int (most : Int)), some (.ref D), some (.int c), some (.int g), some (.int (u0 : Int)), x7, none, none] : St).set 6 (some (.int 0)) else [some (.ref a), some (.int wd), some (.int (most : Int)), some (.ref D), some (.int c), some (.int g), some (.int (u0 : Int)), x7, none, none]) = [some (.ref a), some (.int wd), some (.int (most : Int)), some (.ref D), some (.int c), some (.int g), some (.int (u : Int)), x7, none, none] := by
      by_cases hle : (most : Int) ≤ ((R u0).lv : Int)
      · rw [if_pos (decide_eq_true hle)]
        exact ⟨0, by omega, by rw [ok.top]; omega, rfl⟩
      · rw [if_neg (by rw [decide_eq_false hle]; decide)]
        exact ⟨u0, hu0, by omega, rfl⟩
    refine seq_if_set (decide ((most : Int) ≤ ((R u0).lv : Int))) (fun Q' q' => ⟨_, rfl, _, rfl, D, _, _, _, rfl, rfl, SqL.of hD5, atI_range hu0, Pa u0, _, 3, _, rfl, rfl, SqL.of (hP5 u0 hu0), rfl, _, rfl, _, _, rfl, rfl, _, rfl, q'⟩) eσ ?_
    obtain ⟨mk, hmk, m0, m1⟩ := mark_at g0 g1
    refine ⟨_, rfl, _, _, rfl, rfl, ⟨by decide, by decide⟩, _, _, rfl, rfl, (by show (0 : Int) < 10; decide), _, rfl, (by show 3 ≤ sizeLine; decide), fun l3 hl3 => ?_⟩
    have t6 := same_new hl3 (.lst [.int 0, .int (g / 11 % 10), .int g])
    refine ⟨_, rfl, _, _, rfl, rfl, ⟨by decide, by decide⟩, _, _, rfl, rfl, (by show (0 : Int) < 3; decide), l3, _, _, _, rfl, rfl, SqL.of upd_same, hmk, ?_⟩
    have hD6 := t6 _ _ hD5
    have hP6 : ∀ j, j < i + 1 → _ := fun j hj => t6 _ _ (hP5 j hj)
    have hL6 : ∀ j, j < i + 1 → _ := fun j hj => t6 _ _ (hL5 j hj)
    have sm6 := sm5.trans t6
    try dsimp only
    generalize upd H5 l3 (.lst [.int 0, .int (g / 11 % 10), .int g]) = H6 at hD6 hP6 hL6 sm6 ⊢
    have few := ok.few hu
    have lk : (kdV (R u).kd).length = (R u).kd.length := List.length_map ..
    have k0 := Int.emod_nonneg (g / 13) (show (((kdV (R u).kd).length : Int) + 1) ≠ 0 by omega)
    have k1 := Int.emod_lt_of_pos (g / 13) (show (0 : Int) < (((kdV (R u).kd).length : Int) + 1) by omega)
    refine ⟨_, rfl, _, rfl, D, _, _, _, rfl, rfl, SqL.of hD6, atI_range hu, Pa u, _, 2, _, rfl, rfl, SqL.of (hP6 u hu), rfl, .inl ⟨rfl, _, SqL.of (hL6 u hu)⟩, _, rfl, _, _, rfl, rfl, ⟨by decide, by decide⟩, _, rfl, _, rfl, D, _, _, _, rfl, rfl, SqL.of hD6, atI_range hu, Pa u, _, 2, _, rfl, rfl, SqL.of (hP6 u hu), rfl, La u, _, rfl, .inl (SqL.of (hL6 u hu)), _, _, rfl, rfl, _, _, rfl, rfl, (by omega), _, rfl, D, _, rfl, .inl (SqL.of hD6), La u, _, _, _, rfl, rfl, hL6 u hu, k0, by omega, fitsL (by omega), ?_⟩
    rw [ln]
    generalize hpos : (g / 13 % (((kdV (R u).kd).length : Int) + 1)).toNat = pos
    have nDL : D ≠ La u := D_ne_L (by omega) hD6 (hL6 u hu)
    have nPL : ∀ j, j < i + 1 → Pa j ≠ La u := fun j hj => lst_ne1 (hP6 j hj) (hL6 u hu)
    have ekd : (kdV (R u).kd).take pos ++ V.int ((i + 1 : Nat) : Int) :: (kdV (R u).kd).drop pos = kdV ((R u).kd.take pos ++ (i + 1) :: (R u).kd.drop pos) := by simp [kdV, List.map_take, List.map_drop]
    rw [ekd]
    have hD7 : upd H6 (La u) (.lst (kdV ((R u).kd.take pos ++ (i + 1) :: (R u).kd.drop pos))) D = some (.lst ((List.range (i + 1)).map fun i => V.ref (Pa i))) := by rw [upd_ne nDL]; exact hD6
    have hP7 : ∀ j, j < i + 1 → upd H6 (La u) (.lst (kdV ((R u).kd.take pos ++ (i + 1) :: (R u).kd.drop pos))) (Pa j) = some (.lst [.str (R j).nm, .int (R j).ma, .ref (La j), .int ((R j).lv : Int)]) := fun j hj => by rw [upd_ne (nPL j hj)]; exact hP6 j hj
    have hLu7 := upd_same (H := H6) (a := La u) (o := .lst (kdV ((R u).kd.take pos ++ (i + 1) :: (R u).kd.drop pos)))
    have hL7 : ∀ j, j < i + 1 → j ≠ u → upd H6 (La u) (.lst (kdV ((R u).kd.take pos ++ (i + 1) :: (R u).kd.drop pos))) (La j) = some (.lst (kdV (R j).kd)) := fun j hj hne => by
      rw [upd_ne (fun z => hne (inj j u hj hu z))]
      exact hL6 j hj
    have sm7 : Same B (upd H6 (La u) (.lst (kdV ((R u).kd.take pos ++ (i + 1) :: (R u).kd.drop pos)))) := same_upd (bL u hu) sm6
    try dsimp only
    generalize upd H6 (La u) (.lst (kdV ((R u).kd.take pos ++ (i + 1) :: (R u).kd.drop pos))) = H7 at hD7 hP7 hLu7 hL7 sm7 ⊢
    refine ⟨_, rfl, .inl ⟨rfl, _, SqL.of hD7⟩, _, rfl, _, rfl, _, _, rfl, rfl, ⟨by decide, by decide⟩, _, _, rfl, rfl, (by show (0 : Int) < 9; decide), _, _, rfl, fun z H8 okz s8 => ⟨_, rfl, (by show 0 ≤ sizeLine; decide), fun Ln hLn => ?_⟩⟩
    have t9 := same_new hLn (.lst [])
    have s79 := s8.trans t9
    refine ⟨_, rfl, _, rfl, D, _, _, _, rfl, rfl, SqL.of (s79 _ _ hD7), atI_range hu, Pa u, _, 3, _, rfl, rfl, SqL.of (s79 _ _ (hP7 u hu)), rfl, _, _, rfl, rfl, (by show 4 ≤ sizeLine; decide), fun Pn hPn => ?_⟩
    have t10 := same_new hPn (.lst [.str z, .int mk, .ref Ln, .int (((R u).lv : Int) + 1)])
    have s710 := s79.trans t10
    have hD10 := s710 _ _ hD7
    refine ⟨D, _, _, rfl, rfl, hD10, fitsL (by rw [ln]; omega), ?_⟩
    have nLnD : Ln ≠ D := ne_of_none' (s8 _ _ hD7) hLn
    have nPnD : Pn ≠ D := ne_of_none' (s79 _ _ hD7) hPn
    have nLnP : Ln ≠ Pn := fun e => by rw [← e, upd_same] at hPn; cases hPn
    have hLn10 := t10 _ _ (upd_same (H := H8) (a := Ln) (o := .lst []))
    refine ⟨⟨_, _, _, _, rfl⟩, grow R (i + 1) u pos ⟨z, mk, [], (R u).lv + 1⟩, ok.grow hu hlv okz m0 m1, same_upd nD (sm7.trans s710), nD, setN Pa (i + 1) Pn, setN La (i + 1) Ln, ?_, fun j hj => ?_, fun j hj => ?_, fun j hj => ?_, fun j k hj hk e => ?_⟩
    · have em : (List.range (i + 1 + 1)).map (fun j => V.ref (setN Pa (i + 1) Pn j)) = ((List.range (i + 1)).map fun j => V.ref (Pa j)) ++ [V.ref Pn] := by
        rw [List.range_succ (n := i + 1), List.map_append, List.map_cons, List.map_nil, setN_at rfl]
        congr 1
        apply List.map_congr_left
        intro j hj
        rw [setN_ne (by have := List.mem_range.mp hj; omega)]
      rw [upd_same, em]
    · by_cases e : j = i + 1
      · rw [setN_at e, setN_at e, upd_ne nPnD, upd_same, e, grow_new]
        rfl
      · have hj' : j < i + 1 := by omega
        have np : Pa j ≠ D := (D_ne_P (by omega) hD7 (hP7 j hj')).symm
        rw [setN_ne e, setN_ne e, upd_ne np]
        have h := s710 _ _ (hP7 j hj')
        by_cases eu : j = u
        · rw [eu] at h ⊢
          rw [grow_up hu]
          exact h
        · rw [grow_else e eu]
          exact h
    · by_cases e : j = i + 1
      · rw [setN_at e, upd_ne nLnD, hLn10, e, grow_new]
        rfl
      · have hj' : j < i + 1 := by omega
        rw [setN_ne e]
        by_cases eu : j = u
        · have np : La j ≠ D := by rw [eu]; exact (D_ne_L (by omega) hD7 hLu7).symm
          rw [upd_ne np, eu, grow_up hu]
          exact s710 _ _ hLu7
        · have np : La j ≠ D := (D_ne_L (by omega) hD7 (hL7 j hj' eu)).symm
          rw [upd_ne np, grow_else e eu]
          exact s710 _ _ (hL7 j hj' eu)
    · by_cases e : j = i + 1
      · rw [setN_at e]
        exact (sm7.trans s8).free hLn
      · rw [setN_ne e]
        exact bL j (by omega)
    · have isL : ∀ j, j < i + 1 → ∃ xs, H8 (La j) = some (.lst xs) := fun j hj => by
        by_cases eu : j = u
        · exact ⟨_, s8 _ _ (by rw [eu]; exact hLu7)⟩
        · exact ⟨_, s8 _ _ (hL7 j hj eu)⟩
      by_cases ej : j = i + 1
      · by_cases ek : k = i + 1
        · omega
        · rw [setN_at ej, setN_ne ek] at e
          obtain ⟨xs, hx⟩ := isL k (by omega)
          rw [← e, hLn] at hx
          cases hx
      · by_cases ek : k = i + 1
        · rw [setN_ne ej, setN_at ek] at e
          obtain ⟨xs, hx⟩ := isL j (by omega)
          rw [e, hLn] at hx
          cases hx
        · rw [setN_ne ej, setN_ne ek] at e
          exact inj j k (by omega) (by omega) e
  · rintro σ H' ⟨⟨x4, x5, x6, x7, rfl⟩, R, ok, rw⟩
    obtain ⟨sm, nD, Pa, La, hD', hP', hL', bL, inj⟩ := rw
    rw [List.length_map] at ok hD' hP' hL' bL inj
    obtain ⟨tr, htr⟩ := trees_of ok
    have tz := tree_size ok htr
    have td := tree_deep ok htr
    have tw := tree_wt ok htr
    have few : ∀ i, i < ms.length + 1 → (R i).kd.length ≤ 60 := fun i hi => by have := ok.few hi; omega
    have kid := ok.kid
    have top := ok.top
    generalize hN : ms.length + 1 = n at *
    have ln : ((List.range n).map fun i => V.ref (Pa i)).length = n := by rw [List.length_map, List.length_range]
    refine fun d hd => ?_
    have t1 := same_new hd (.dK [])
    refine ⟨_, rfl, D, _, rfl, .inl (SqL.of (t1 _ _ hD')), n, by rw [ln], by omega, ?_⟩
    refine for_revR (fun i σ H2 => (∃ x9, σ = [some (.ref a), some (.int wd), some (.int (most : Int)), some (.ref D), x4, x5, x6, x7, some (.ref d), x9]) ∧ Same H' H2 ∧ ∃ kvs, H2 d = some (.dK kvs) ∧ kvs.length ≤ i ∧ ∀ j, n - i ≤ j → j < n → ∃ v, valV kvs (Sum.inl (j : Int)) = some v ∧ TrIs H2 (tr j) v)
      ⟨⟨none, rfl⟩, t1, [], upd_same, Nat.le_refl _, fun j h1 h2 => by omega⟩ ?_ ?_
    · rintro i σ H2 hi ⟨⟨x9, rfl⟩, s2, kvs, hd2, hkl, hv⟩
      have ek : ((n : Int) - 1 - (i : Nat)) = ((n - 1 - i : Nat) : Int) := by omega
      rw [ek]
      generalize hk : n - 1 - i = k
      have hkn : k < n := by omega
      have hD2 := s2 _ _ hD'
      have hP2 := s2 _ _ (hP' k hkn)
      have hL2 := s2 _ _ (hL' k hkn)
      refine ⟨_, rfl, _, rfl, D, _, _, _, rfl, rfl, SqL.of hD2, atI_range hkn, Pa k, _, 0, _, rfl, rfl, SqL.of hP2, rfl, _, rfl, _, rfl, D, _, _, _, rfl, rfl, SqL.of hD2, atI_range hkn, Pa k, _, 1, _, rfl, rfl, SqL.of hP2, rfl, _, rfl, _, rfl, D, _, _, _, rfl, rfl, SqL.of hD2, atI_range hkn, Pa k, _, 2, _, rfl, rfl, SqL.of hP2, rfl, La k, rfl, ⟨_, SqL.of hL2⟩, fun C hC => ?_⟩
      have hkid : ∀ j ∈ (R k).kd, ∃ v, valV kvs (Sum.inl (j : Int)) = some v ∧ TrIs H2 (tr j) v := fun j hj => by
        obtain ⟨a1, a2, _⟩ := kid k hkn j hj
        exact hv j (by omega) a2
      obtain ⟨vs, hvs⟩ : ∃ vs, L2R (fun (j : Nat) v => valV kvs (Sum.inl (j : Int)) = some v ∧ TrIs H2 (tr j) v) (R k).kd vs := by
        generalize (R k).kd = ks at hkid
        induction ks with
        | nil => exact ⟨[], .nil⟩
        | cons x xs ih =>
          obtain ⟨v, h1⟩ := hkid x (by simp)
          obtain ⟨vs, h2⟩ := ih fun j hj => hkid j (by simp [hj])
          exact ⟨v :: vs, .cons h1 h2⟩
      have lvs := hvs.len
      have fk := few k hkn
      have lkd : (kdV (R k).kd).length = (R k).kd.length := List.length_map ..
      refine comp_lstM (K := K) (xs := kdV (R k).kd) (ys := vs) (fitsL (by omega)) (by rw [lkd, lvs]) (SqL.of hL2) hC (fun m x y H3 hx hy sm3 Q' q' => ?_) (fun H3 s3 hC3 => ?_)
      · rw [List.getElem?_map] at hx
        obtain ⟨j, hj, rfl⟩ := Option.map_eq_some_iff.mp hx
        obtain ⟨j', hj', hvj, _⟩ := hvs.get hy
        rw [hj] at hj'
        cases hj'
        have hd3 := sm3 _ _ hd2
        exact ⟨_, rfl, _, rfl, d, y, rfl, hvj ▸ DGet.k (k := Sum.inl (j : Int)) hd3, q' H3 (Same.refl _)⟩
      · refine ⟨C, _, rfl, .inl ⟨SqL.of hC3, fun b hb => ⟨(by show 3 ≤ sizeLine; decide), fun p hp => ?_⟩⟩⟩
        have t4 := same_new hb (.tup vs)
        have t5 := same_new hp (.tup [.str (R k).nm, .int (R k).ma, .ref b])
        have s35 := s3.trans (t4.trans t5)
        have hd5 := s35 _ _ hd2
        refine ⟨_, rfl, _, rfl, d, _, rfl, DPut.k (k := Sum.inl ((k : Nat) : Int)) hd5 (fitsL (by omega)), ?_⟩
        have tT : SameT (upd (upd H3 b (.tup vs)) p (.tup [.str (R k).nm, .int (R k).ma, .ref b])) (upd (upd (upd H3 b (.tup vs)) p (.tup [.str (R k).nm, .int (R k).ma, .ref b])) d (.dK (putK kvs (Sum.inl ((k : Nat) : Int)) (.ref p)))) := fun c zs e => by
          rw [upd_ne (ne_of e hd5 (fun z => nomatch z))]
          exact e
        have tA := (sameT s35).trans tT
        refine ⟨⟨_, rfl⟩, same_upd hd (s2.trans s35), _, upd_same, ?_, fun j h1 h2 => ?_⟩
        · have := length_putK kvs (Sum.inl ((k : Nat) : Int)) (.ref p)
          omega
        · rw [valV_put]
          by_cases e : (Sum.inl (j : Int) : Key) = Sum.inl ((k : Nat) : Int)
          · have ejk : j = k := by have := Sum.inl.inj e; omega
            rw [if_pos e]
            refine ⟨_, rfl, ?_⟩
            rw [ejk, htr k hkn]
            refine TrIs.cl (tT _ _ upd_same) (tT _ _ (t5 _ _ upd_same)) ?_
            have : ∀ {js : List Nat} {us : List V}, L2R (fun (j : Nat) v => valV kvs (Sum.inl (j : Int)) = some v ∧ TrIs H2 (tr j) v) js us → L2R (TrIs (upd (upd (upd H3 b (.tup vs)) p (.tup [.str (R k).nm, .int (R k).ma, .ref b])) d (.dK (putK kvs (Sum.inl ((k : Nat) : Int)) (.ref p))))) (js.map tr) us := by
              intro js us h
              induction h with
              | nil => exact .nil
              | cons h1 _ ih => exact .cons (TrIs.same tA _ h1.2) ih
            exact this hvs
          · rw [if_neg e]
            obtain ⟨v, g1, g2⟩ := hv j (by have : j ≠ k := fun z => e (by rw [z]); omega) h2
            exact ⟨v, g1, TrIs.same tA _ g2⟩
    · rintro σ H2 ⟨⟨x9, rfl⟩, s2, kvs, hd2, hkl, hv⟩
      obtain ⟨v, g1, g2⟩ := hv 0 (by omega) (by omega)
      refine ⟨_, rfl, d, v, rfl, g1 ▸ DGet.k (k := Sum.inl (0 : Int)) hd2, q (tr 0) v H2 ((HB.trans sm).trans s2) g2 (tw n 0 (by omega) (by omega)) (by omega) ?_⟩
      have := td n 0 (by omega) (by omega)
      omega
end
end K24
set_option Elab.async false
set_option linter.all false
set_option maxRecDepth 100000
set_option maxHeartbeats 4000000
namespace K24
open PySem L2 NS TR
open TM
def Acc (L : List Nat) : Prop := ∃ st, NS.Run 32 ini (NS.pcs 32 [] L) st ∧ st.op = [] ∧ ∀ x ∈ st.rs, nodeB x.1 = true
theorem bad_of {z : Str} (h : ¬ Acc z.cps.toList) : Bad z := fun st h1 h2 => by
  by_cases g : ∃ x ∈ st.rs, nodeB x.1 = false
  · exact g
  · refine absurd ⟨st, h1, h2, fun x hx => ?_⟩ h
    cases e : nodeB x.1 with
    | true => rfl
    | false => exact absurd ⟨x, hx, e⟩ g
def AW (st : Ms) : Prop := (∀ x ∈ st.rs, nodeB x.1 = true) ∧ ∀ x ∈ st.op, nodeB x.1 = true
theorem nodeB_nil : nodeB (mkS []) = false := by decide +kernel
theorem endd_aw {st : Ms} {w : Str} {rs : List Row} (h : Endd st w rs) (a : ∀ x ∈ rs, nodeB x.1 = true) : (∀ x ∈ st.rs, nodeB x.1 = true) ∧ ((st.cl = false ∧ nodeB w = true) ∨ (st.cl = true ∧ w = mkS [])) := by
  cases h with
  | word => exact ⟨fun x hx => a x (List.mem_append.mpr (.inl hx)), .inl ⟨rfl, a _ (List.mem_append.mpr (.inr (List.mem_singleton.mpr rfl)))⟩⟩
  | again => exact ⟨a, .inr ⟨rfl, rfl⟩⟩
def Wd (cl : Bool) (p : Str × Str) : Prop := (cl = false ∧ nodeB p.1 = true) ∨ (cl = true ∧ p.1 = mkS [] ∧ p.2 ≠ mkS [40])
theorem step_aw {st st1 : Ms} {p : Str × Str} (h : NS.Step 32 st p st1) (a : AW st1) : AW st ∧ Wd st.cl p ∧ (p.2 ≠ mkS [] → (st1.cl = true ↔ p.2 = mkS [41])) := by
  obtain ⟨w, s⟩ := p
  rcases step_inv h with ⟨rfl, c, rfl⟩ | ⟨rs', op, o, c, e, d, ⟨rfl, rfl⟩ | ⟨rfl, rfl⟩⟩ | ⟨rs', d, rfl, rfl⟩
  · refine ⟨⟨a.1, fun x hx => a.2 x (List.mem_append.mpr (.inl hx))⟩, .inl ⟨c, a.2 (w, 0) (List.mem_append.mpr (.inr (List.mem_singleton.mpr rfl)))⟩, fun _ => ⟨(fun z => by cases z), fun z => absurd (mkS_inj z) (by decide)⟩⟩
  · obtain ⟨a1, a2⟩ := endd_aw d a.1
    refine ⟨⟨a1, fun x hx => ?_⟩, ?_, fun _ => ⟨(fun z => by cases z), fun z => absurd (mkS_inj z) (by decide)⟩⟩
    · rw [e] at hx
      rcases List.mem_append.mp hx with h | h
      · exact a.2 x (List.mem_append.mpr (.inl h))
      · rw [List.mem_singleton.mp h]
        exact a.2 (o, c + 1) (List.mem_append.mpr (.inr (List.mem_singleton.mpr rfl)))
    · rcases a2 with ⟨h1, h2⟩ | ⟨h1, h2⟩
      · exact .inl ⟨h1, h2⟩
      · exact .inr ⟨h1, h2, fun z => absurd (mkS_inj z) (by decide)⟩
  · obtain ⟨a1, a2⟩ := endd_aw d (fun x hx => a.1 x (List.mem_append.mpr (.inl hx)))
    refine ⟨⟨a1, fun x hx => ?_⟩, ?_, fun _ => ⟨fun _ => rfl, fun _ => rfl⟩⟩
    · rw [e] at hx
      rcases List.mem_append.mp hx with h | h
      · exact a.2 x h
      · rw [List.mem_singleton.mp h]
        exact a.1 (o, c + 1, op.length + 1) (List.mem_append.mpr (.inr (List.mem_singleton.mpr rfl)))
    · rcases a2 with ⟨h1, h2⟩ | ⟨h1, h2⟩
      · exact .inl ⟨h1, h2⟩
      · exact .inr ⟨h1, h2, fun z => absurd (mkS_inj z) (by decide)⟩
  · obtain ⟨a1, a2⟩ := endd_aw d a.1
    refine ⟨⟨a1, a.2⟩, ?_, fun z => absurd rfl z⟩
    rcases a2 with ⟨h1, h2⟩ | ⟨h1, h2⟩
    · exact .inl ⟨h1, h2⟩
    · exact .inr ⟨h1, h2, fun z => absurd (mkS_inj z) (by decide)⟩
theorem run_aw {a b : Ms} {ps : List (Str × Str)} : NS.Run 32 a ps b → AW b → AW a := by
  induction ps generalizing a with
  | nil => intro h j; have h : a = b := h; subst h; exact j
  | cons x xs ih => rintro ⟨d, h, g⟩ j; exact (step_aw h (ih g j)).1
theorem acc_run {L : List Nat} (h : Acc L) : ∃ st, NS.Run 32 ini (NS.pcs 32 [] L) st ∧ st.op = [] ∧ AW st := by
  obtain ⟨st, h1, h2, h3⟩ := h
  exact ⟨st, h1, h2, h3, fun x hx => by rw [h2] at hx; cases hx⟩
theorem pcs_cut {c : Nat} (hc : stp 32 c = true) (v : List Nat) : ∀ (u acc : List Nat), ∃ ps w, NS.pcs 32 acc (u ++ c :: v) = ps ++ (mkS w, mkS [c]) :: NS.pcs 32 [] v
  | [], acc => ⟨[], acc, by rw [List.nil_append, pcs_stop hc]; rfl⟩
  | x :: u, acc => by
    by_cases hx : stp 32 x = true
    · obtain ⟨ps, w, e⟩ := pcs_cut hc v u []
      exact ⟨_ :: ps, w, by rw [List.cons_append, pcs_stop hx, e]; rfl⟩
    · obtain ⟨ps, w, e⟩ := pcs_cut hc v u (acc ++ [x])
      exact ⟨ps, w, by rw [List.cons_append, NS.pcs, if_neg hx, e]⟩
theorem acc_cut {c : Nat} {u v : List Nat} (hc : stp 32 c = true) (h : Acc (u ++ c :: v)) : ∃ a st, (a.cl = true ↔ c = 41) ∧ NS.Run 32 a (NS.pcs 32 [] v) st ∧ st.op = [] ∧ AW st := by
  obtain ⟨st, h1, h2, h3⟩ := acc_run h
  obtain ⟨ps, w, e⟩ := pcs_cut hc v u []
  rw [e] at h1
  obtain ⟨b, _, d, g2, g3⟩ := run_app h1
  have j := run_aw g3 h3
  have k := (step_aw g2 j).2.2 (fun z => absurd (mkS_inj z) (by simp))
  refine ⟨d, st, ⟨fun z => ?_, fun z => k.mpr (by rw [z])⟩, g3, h2, h3⟩
  have := mkS_inj (k.mp z)
  simpa using this
def Ed (v : List Nat) : Prop := v = [] ∨ ∃ x r, v = x :: r ∧ stp 32 x = true
theorem piece_at {w v : List Nat} (hw : ∀ c ∈ w, stp 32 c = false) (hv : Ed v) : ∃ s ps, NS.pcs 32 [] (w ++ v) = (mkS w, s) :: ps := by
  rcases hv with rfl | ⟨x, r, rfl, hx⟩
  · exact ⟨mkS [], [], by rw [pcs_word 32 hw, NS.pcs]; rfl⟩
  · exact ⟨mkS [x], NS.pcs 32 [] r, by rw [pcs_word 32 hw, pcs_stop hx]; rfl⟩
theorem run_wd {a st : Ms} {w v : List Nat} (hw : ∀ c ∈ w, stp 32 c = false) (hv : Ed v) (h : NS.Run 32 a (NS.pcs 32 [] (w ++ v)) st) (j : AW st) : (a.cl = false ∧ nodeB (mkS w) = true) ∨ (a.cl = true ∧ w = []) := by
  obtain ⟨s, ps, e⟩ := piece_at hw hv
  rw [e] at h
  obtain ⟨d, g1, g2⟩ := h
  rcases (step_aw g1 (run_aw g2 j)).2.1 with ⟨h1, h2⟩ | ⟨h1, h2, _⟩
  · exact .inl ⟨h1, h2⟩
  · exact .inr ⟨h1, mkS_inj h2⟩
theorem seg0 {w v : List Nat} (hw : ∀ c ∈ w, stp 32 c = false) (hv : Ed v) (h : Acc (w ++ v)) : nodeB (mkS w) = true := by
  obtain ⟨st, h1, h2, h3⟩ := acc_run h
  rcases run_wd hw hv h1 h3 with ⟨_, h⟩ | ⟨h, _⟩
  · exact h
  · cases h
theorem seg1 {c : Nat} {u w v : List Nat} (hc : stp 32 c = true) (hw : ∀ c ∈ w, stp 32 c = false) (hv : Ed v) (h : Acc (u ++ c :: (w ++ v))) : (c ≠ 41 ∧ nodeB (mkS w) = true) ∨ (c = 41 ∧ w = []) := by
  obtain ⟨a, st, ha, h1, h2, h3⟩ := acc_cut hc h
  rcases run_wd hw hv h1 h3 with ⟨e, h⟩ | ⟨e, h⟩
  · exact .inl ⟨(fun z => by rw [ha.mpr z] at e; cases e), h⟩
  · exact .inr ⟨ha.mp e, h⟩
theorem adj {c d : Nat} {u v : List Nat} (hc : stp 32 c = true) (hd : stp 32 d = true) (h : Acc (u ++ c :: d :: v)) : c = 41 := by
  rcases seg1 (w := []) hc (fun x hx => nomatch hx) (.inr ⟨d, v, rfl, hd⟩) h with ⟨_, e⟩ | ⟨e, _⟩
  · rw [nodeB_nil] at e; cases e
  · exact e
theorem last_stop {c : Nat} {u : List Nat} (hc : stp 32 c = true) (h : Acc (u ++ [c])) : c = 41 := by
  rcases seg1 (w := []) (v := []) hc (fun x hx => nomatch hx) (.inl rfl) h with ⟨_, e⟩ | ⟨e, _⟩
  · rw [nodeB_nil] at e; cases e
  · exact e
theorem first_stop {c : Nat} {v : List Nat} (hc : stp 32 c = true) : ¬ Acc (c :: v) := fun h => by
  have := seg0 (w := []) (fun x hx => nomatch hx) (.inr ⟨c, v, rfl, hc⟩) h
  rw [nodeB_nil] at this
  cases this
theorem not_nil : ¬ Acc [] := fun h => by
  have := seg0 (w := []) (v := []) (fun x hx => nomatch hx) (.inl rfl) h
  rw [nodeB_nil] at this
  cases this
theorem to_stop : ∀ (v : List Nat), ∃ w r, v = w ++ r ∧ (∀ x ∈ w, stp 32 x = false) ∧ Ed r
  | [] => ⟨[], [], rfl, (fun x hx => nomatch hx), .inl rfl⟩
  | c :: v => by
    by_cases hc : stp 32 c = true
    · exact ⟨[], c :: v, rfl, (fun x hx => nomatch hx), .inr ⟨c, v, rfl, hc⟩⟩
    · obtain ⟨w, r, e1, e2, e3⟩ := to_stop v
      refine ⟨c :: w, r, by rw [e1]; rfl, fun x hx => ?_, e3⟩
      rcases List.mem_cons.mp hx with rfl | hx
      · simpa using hc
      · exact e2 x hx
theorem aft_close {c : Nat} {u v : List Nat} (h : Acc (u ++ 41 :: c :: v)) : stp 32 c = true := by
  obtain ⟨w, r, e1, e2, e3⟩ := to_stop (c :: v)
  rw [e1] at h
  rcases seg1 (by decide) e2 e3 h with ⟨e, _⟩ | ⟨_, e⟩
  · exact absurd rfl e
  · subst e
    rcases e3 with rfl | ⟨x, r', rfl, hx⟩
    · cases e1
    · cases e1
      exact hx
theorem count_step {st st1 : Ms} {p : Str × Str} (h : NS.Step 32 st p st1) : st1.op.length + (if p.2 = mkS [41] then 1 else 0) = st.op.length + (if p.2 = mkS [40] then 1 else 0) := by
  obtain ⟨w, s⟩ := p
  have n1 : ¬ mkS [40] = mkS [41] := fun z => absurd (mkS_inj z) (by decide)
  have n2 : ¬ mkS [32] = mkS [41] := fun z => absurd (mkS_inj z) (by decide)
  have n3 : ¬ mkS [32] = mkS [40] := fun z => absurd (mkS_inj z) (by decide)
  have n4 : ¬ mkS [] = mkS [41] := fun z => absurd (mkS_inj z) (by decide)
  have n5 : ¬ mkS [] = mkS [40] := fun z => absurd (mkS_inj z) (by decide)
  have n6 : ¬ mkS [41] = mkS [40] := fun z => absurd (mkS_inj z) (by decide)
  rcases step_inv h with ⟨rfl, c, rfl⟩ | ⟨rs', op, o, c, e, d, ⟨rfl, rfl⟩ | ⟨rfl, rfl⟩⟩ | ⟨rs', d, rfl, rfl⟩
  · simp [n1]
  · simp [n2, n3, e]
  · simp [n6, e]
  · simp [n4, n5]
def cnt (d : Nat) (ps : List (Str × Str)) : Nat := (ps.filter fun p => decide (p.2 = mkS [d])).length
theorem count_run {a b : Ms} {ps : List (Str × Str)} : NS.Run 32 a ps b → b.op.length + cnt 41 ps = a.op.length + cnt 40 ps := by
  induction ps generalizing a with
  | nil => intro h; have h : a = b := h; subst h; rfl
  | cons x xs ih =>
    rintro ⟨d, h, g⟩
    have h1 := count_step h
    have h2 := ih g
    have e1 : cnt 41 (x :: xs) = cnt 41 xs + (if x.2 = mkS [41] then 1 else 0) := by
      unfold cnt
      rw [List.filter_cons]
      by_cases e : x.2 = mkS [41]
      · rw [if_pos e, if_pos (decide_eq_true e), List.length_cons]
      · rw [if_neg e, if_neg (by simpa using e)]; rfl
    have e2 : cnt 40 (x :: xs) = cnt 40 xs + (if x.2 = mkS [40] then 1 else 0) := by
      unfold cnt
      rw [List.filter_cons]
      by_cases e : x.2 = mkS [40]
      · rw [if_pos e, if_pos (decide_eq_true e), List.length_cons]
      · rw [if_neg e, if_neg (by simpa using e)]; rfl
    rw [e1, e2]
    omega
theorem cnt_pcs {d : Nat} (hd : stp 32 d = true) : ∀ (L acc : List Nat), cnt d (NS.pcs 32 acc L) = L.count d
  | [], acc => by
    rw [NS.pcs]
    unfold cnt
    have : ¬ mkS [] = mkS [d] := fun z => absurd (mkS_inj z) (by simp)
    simp [this]
  | c :: L, acc => by
    rw [NS.pcs, List.count_cons]
    split
    · have ih := cnt_pcs hd L []
      unfold cnt at ih ⊢
      rw [List.filter_cons]
      simp only [decide_eq_true_eq]
      by_cases e : c = d
      · subst e; simp [ih]
      · have : ¬ mkS [c] = mkS [d] := fun z => e (by simpa using mkS_inj z)
        simp [this, ih, e]
    · rename_i hc
      have e : ¬ c = d := fun z => hc (by rw [z]; exact hd)
      rw [cnt_pcs hd L]
      simp [e]
theorem acc_count {L : List Nat} (h : Acc L) : L.count 41 = L.count 40 := by
  obtain ⟨st, h1, h2, _⟩ := h
  have := count_run h1
  rw [cnt_pcs (by decide), cnt_pcs (by decide), h2] at this
  simpa using this
theorem acc_more {L R : List Nat} {c : Nat} (hc : c = 32 ∨ c = 41) (h : Acc L) : ¬ Acc (L ++ c :: R) := by
  rintro ⟨st2, g1, _, _⟩
  obtain ⟨st, h1, h2, h3⟩ := h
  have hs : stp 32 c = true := by rcases hc with rfl | rfl <;> decide
  have key : ∀ (L acc : List Nat), ∃ ps w, NS.pcs 32 acc L = ps ++ [(w, mkS [])] ∧ NS.pcs 32 acc (L ++ c :: R) = ps ++ (w, mkS [c]) :: NS.pcs 32 [] R := by
    intro L
    induction L with
    | nil => intro acc; exact ⟨[], mkS acc, by rw [NS.pcs]; rfl, by rw [List.nil_append, pcs_stop hs]; rfl⟩
    | cons x L ih =>
      intro acc
      by_cases hx : stp 32 x = true
      · obtain ⟨ps, w, e1, e2⟩ := ih []
        exact ⟨_ :: ps, w, by rw [pcs_stop hx, e1]; rfl, by rw [List.cons_append, pcs_stop hx, e2]; rfl⟩
      · obtain ⟨ps, w, e1, e2⟩ := ih (acc ++ [x])
        exact ⟨ps, w, by rw [NS.pcs, if_neg hx, e1], by rw [List.cons_append, NS.pcs, if_neg hx, e2]⟩
  obtain ⟨ps, w, e1, e2⟩ := key L []
  rw [e1] at h1
  rw [e2] at g1
  obtain ⟨b, k1, d, k2, k3⟩ := run_app h1
  obtain ⟨b', m1, d', m2, _⟩ := run_app g1
  have := run_det m1 k1
  subst this
  have k3 : d = st := k3
  subst k3
  have eb : b'.op = [] := by
    rcases step_inv k2 with ⟨e, _⟩ | ⟨_, _, _, _, _, _, ⟨e, _⟩ | ⟨e, _⟩⟩ | ⟨_, _, _, e⟩
    · exact absurd (mkS_inj e) (by decide)
    · exact absurd (mkS_inj e) (by decide)
    · exact absurd (mkS_inj e) (by decide)
    · rw [e] at h2; exact h2
  rcases step_inv m2 with ⟨e, _⟩ | ⟨_, op, _, _, e, _, _⟩ | ⟨_, _, e, _⟩
  · have := mkS_inj e
    rcases hc with rfl | rfl <;> exact absurd this (by decide)
  · rw [eb] at e
    exact absurd e.symm (by simp)
  · exact absurd (mkS_inj e) (by simp)
end K24
set_option Elab.async false
set_option linter.all false
set_option maxRecDepth 100000
set_option maxHeartbeats 4000000
namespace K24
open PySem L2 NS TR
open TM
theorem inS_eq (s : Str) (c : Nat) : inS s c = decide (c ∈ s.cps.toList) := by
  have hfo := StrLaws.found_one s c
  unfold inS
  first | exact hfo | simpa using hfo
theorem let_in' : ∀ c ∈ S26.cps.toList, letOk c = true := by decide +kernel
theorem dig_in' : ∀ c ∈ S10.cps.toList, 48 ≤ c ∧ c ≤ 57 := by decide +kernel
theorem nm_inv {a : List Nat} (h : nmB (mkS a) = true) : a ≠ [] ∧ a.length ≤ 8 ∧ ∀ c ∈ a, letOk c = true := by
  unfold nmB allB at h
  simp only [Bool.and_eq_true, decide_eq_true_eq, List.all_eq_true, len_list, mk_list] at h
  refine ⟨fun z => by rw [z] at h; simp at h, h.1.2, fun c hc => let_in' c ?_⟩
  have := h.2 c hc
  rw [inS_eq] at this
  exact of_decide_eq_true this
theorem num_inv {d : List Nat} (h : numB (mkS d) = true) : d ≠ [] ∧ d.length ≤ 18 ∧ (∀ c ∈ d, 48 ≤ c ∧ c ≤ 57) ∧ (d.head? = some 48 → mkS d = "0") := by
  unfold numB allB at h
  simp only [Bool.and_eq_true, decide_eq_true_eq, List.all_eq_true, len_list, mk_list, Bool.not_eq_true', Bool.and_eq_false_iff, decide_eq_false_iff_not, Bool.not_eq_false'] at h
  refine ⟨fun z => by rw [z] at h; simp at h, h.1.2, fun c hc => dig_in' c ?_, fun z => ?_⟩
  · have := h.2.2 c hc
    rw [inS_eq] at this
    exact of_decide_eq_true this
  · rcases h.2.1 with h | h
    · exact absurd z h
    · first | exact h | simpa using h
theorem nb_no {w : List Nat} (h : (58 : Nat) ∉ w) (b : nodeB (mkS w) = true) : w ≠ [] ∧ w.length ≤ 8 ∧ ∀ c ∈ w, letOk c = true := by
  rw [nodeB_no (by rw [mk_list]; exact h)] at b
  exact nm_inv b
theorem nb_at {a d : List Nat} (h : (58 : Nat) ∉ a) (b : nodeB (mkS (a ++ 58 :: d)) = true) : (a ≠ [] ∧ a.length ≤ 8 ∧ ∀ c ∈ a, letOk c = true) ∧ mkS d ≠ "0" ∧ numB (mkS d) = true := by
  have e : mkS (a ++ 58 :: d) = mkS a ++ ⟨#[58]⟩ ++ mkS d := str_ext (by rw [app_list, app_list, mk_list, mk_list, mk_list]; simp)
  rw [e, nodeB_at (by rw [mk_list]; exact h)] at b
  simp only [Bool.and_eq_true, Bool.not_eq_true', decide_eq_false_iff_not] at b
  exact ⟨nm_inv b.1, b.2.1, b.2.2⟩
theorem nb_pre {a y : List Nat} (h : (58 : Nat) ∉ a) (b : nodeB (mkS (a ++ y)) = true) : a.length ≤ 8 ∧ (∀ c ∈ a, letOk c = true) ∧ ∀ x r, y = x :: r → x ≠ 58 → letOk x = true := by
  by_cases hy : (58 : Nat) ∈ y
  · obtain ⟨p, q, rfl, hp⟩ := List.eq_append_cons_of_mem hy
    rw [← List.append_assoc] at b
    obtain ⟨⟨_, h2, h3⟩, _⟩ := nb_at (fun z => (List.mem_append.mp z).elim h hp) b
    rw [List.length_append] at h2
    refine ⟨by omega, fun c hc => h3 c (List.mem_append.mpr (.inl hc)), fun x r e hx => ?_⟩
    cases p with
    | nil => cases e; exact absurd rfl hx
    | cons p0 ps => cases e; exact h3 x (List.mem_append.mpr (.inr (by simp)))
  · obtain ⟨_, h2, h3⟩ := nb_no (fun z => (List.mem_append.mp z).elim h hy) b
    rw [List.length_append] at h2
    exact ⟨by omega, fun c hc => h3 c (List.mem_append.mpr (.inl hc)), fun x r e _ => h3 x (List.mem_append.mpr (.inr (by rw [e]; simp)))⟩
theorem let58 : ∀ {a : List Nat}, (∀ c ∈ a, letOk c = true) → (58 : Nat) ∉ a := fun h m => by
  have := h 58 m
  revert this
  decide
def St (u : List Nat) : Prop := u = [] ∨ ∃ u' c, u = u' ++ [c] ∧ stp 32 c = true
theorem from_stop (A : List Nat) : ∃ u w, A = u ++ w ∧ (∀ x ∈ w, stp 32 x = false) ∧ St u := by
  obtain ⟨w, r, e1, e2, e3⟩ := to_stop A.reverse
  refine ⟨r.reverse, w.reverse, ?_, fun x hx => e2 x (List.mem_reverse.mp hx), ?_⟩
  · rw [← List.reverse_append, ← e1, List.reverse_reverse]
  · rcases e3 with rfl | ⟨x, r', rfl, hx⟩
    · exact .inl rfl
    · exact .inr ⟨r'.reverse, x, by rw [List.reverse_cons], hx⟩
theorem seg {u w v : List Nat} (hu : St u) (hw : ∀ c ∈ w, stp 32 c = false) (hn : w ≠ []) (hv : Ed v) (h : Acc (u ++ (w ++ v))) : nodeB (mkS w) = true := by
  rcases hu with rfl | ⟨u', c, rfl, hc⟩
  · exact seg0 hw hv h
  · rw [List.append_assoc] at h
    rcases seg1 hc hw hv h with ⟨_, e⟩ | ⟨_, e⟩
    · exact e
    · exact absurd e hn
structure At (A B u w1 w2 v : List Nat) : Prop where
  eA : A = u ++ w1
  eB : B = w2 ++ v
  st : St u
  ed : Ed v
  w1n : w1 ≠ []
  w1l : ∀ c ∈ w1, letOk c = true
  w1s : ∀ c ∈ w1, stp 32 c = false
  w2s : ∀ c ∈ w2, stp 32 c = false
  w2d : w2 = [] ∨ ∃ d, w2 = 58 :: d ∧ d ≠ [] ∧ ∀ c ∈ d, 48 ≤ c ∧ c ≤ 57
theorem at_name {A B : List Nat} {x : Nat} (h : Acc (A ++ [x] ++ B)) (hx : letOk x = true) (hB : ∀ y r, B = y :: r → letOk y = false) : ∃ u w1 w2 v, At (A ++ [x]) B u w1 w2 v := by
  obtain ⟨u, w1, e1, s1, st⟩ := from_stop (A ++ [x])
  obtain ⟨w2, v, e2, s2, ed⟩ := to_stop B
  have n1 : w1 ≠ [] := fun z => by
    rw [z, List.append_nil] at e1
    rcases st with rfl | ⟨u', c, rfl, hc⟩
    · exact absurd e1 (by simp)
    · obtain ⟨_, rfl⟩ := snoc_inj e1
      rw [stp_let hx] at hc
      cases hc
  have hs : nodeB (mkS (w1 ++ w2)) = true := seg st (fun c hc => (List.mem_append.mp hc).elim (s1 c) (s2 c)) (fun z => n1 (List.append_eq_nil_iff.mp z).1) ed (by rw [e1, e2] at h; simpa using h)
  have xm : x ∈ w1 := by
    rcases snoc_or w1 with rfl | ⟨q, y, rfl⟩
    · exact absurd rfl n1
    · rw [← List.append_assoc] at e1
      obtain ⟨_, rfl⟩ := snoc_inj e1
      simp
  have no58 : (58 : Nat) ∉ w1 := fun m => by
    obtain ⟨p, q, rfl, hp⟩ := List.eq_append_cons_of_mem m
    rw [List.append_assoc] at hs
    obtain ⟨⟨_, _, hl⟩, _, hnum⟩ := nb_at hp hs
    obtain ⟨_, _, hd, _⟩ := num_inv hnum
    -- x is the last of the word, and a figure or the sign
    rcases snoc_or q with rfl | ⟨q', y, rfl⟩
    · rw [show u ++ (p ++ [58]) = (u ++ p) ++ [58] by simp] at e1
      obtain ⟨_, rfl⟩ := snoc_inj e1
      revert hx
      decide
    · rw [show u ++ (p ++ 58 :: (q' ++ [y])) = (u ++ (p ++ 58 :: q')) ++ [y] by simp] at e1
      obtain ⟨_, rfl⟩ := snoc_inj e1
      have := hd x (by simp)
      unfold letOk at hx
      rw [Bool.and_eq_true, decide_eq_true_eq, decide_eq_true_eq] at hx
      omega
  obtain ⟨_, wl, wx⟩ := nb_pre no58 hs
  refine ⟨u, w1, w2, v, e1, e2, st, ed, n1, wl, s1, s2, ?_⟩
  cases w2 with
  | nil => exact .inl rfl
  | cons y r =>
    have hy : letOk y = false := hB y (r ++ v) (by rw [e2]; rfl)
    by_cases e : y = 58
    · subst e
      obtain ⟨_, _, hnum⟩ := nb_at no58 hs
      obtain ⟨h1, _, h3, _⟩ := num_inv hnum
      exact .inr ⟨r, rfl, h1, h3⟩
    · rw [wx y r rfl e] at hy
      cases hy
theorem no_new {A B u w1 w2 v n : List Nat} (a : At A B u w1 w2 v) (hn : ∀ c ∈ n, stp 32 c = false) (hb : ¬ nodeB (mkS (w1 ++ (n ++ w2))) = true) : ¬ Acc (A ++ (n ++ B)) := fun h => by
  refine hb (seg a.st (fun c hc => ?_) (fun z => a.w1n (List.append_eq_nil_iff.mp z).1) a.ed (by rw [a.eA, a.eB] at h; simpa using h))
  rcases List.mem_append.mp hc with h | h
  · exact a.w1s c h
  · exact (List.mem_append.mp h).elim (hn c) (a.w2s c)
theorem no_mark {A B u w1 w2 v n : List Nat} (a : At A B u w1 w2 v) (hn : ∀ c ∈ n, stp 32 c = false) (hb : mkS (n ++ w2) = "0" ∨ numB (mkS (n ++ w2)) = false) : ¬ Acc (A ++ (58 :: n ++ B)) := by
  refine no_new a (fun c hc => ?_) fun h => ?_
  · rcases List.mem_cons.mp hc with rfl | hc
    · decide
    · exact hn c hc
  · obtain ⟨_, h1, h2⟩ := nb_at (let58 a.w1l) (show nodeB (mkS (w1 ++ 58 :: (n ++ w2))) = true from h)
    rcases hb with hb | hb
    · exact h1 hb
    · rw [hb] at h2; cases h2
theorem num_no {l : List Nat} (h : l = [] ∨ 18 < l.length ∨ (∃ c ∈ l, ¬ (48 ≤ c ∧ c ≤ 57)) ∨ (l.head? = some 48 ∧ mkS l ≠ "0")) : numB (mkS l) = false := by
  cases e : numB (mkS l) with
  | false => rfl
  | true =>
    obtain ⟨h1, h2, h3, h4⟩ := num_inv e
    rcases h with h | h | ⟨c, hc, hh⟩ | ⟨hh, h⟩
    · exact absurd h h1
    · omega
    · exact absurd (h3 c hc) hh
    · exact absurd (h4 hh) h
theorem no_fig {A B u w1 w2 v n : List Nat} {x : Nat} (a : At A B u w1 w2 v) (hn : ∀ c ∈ x :: n, stp 32 c = false) (hx : letOk x = false) (h58 : x ≠ 58) : ¬ Acc (A ++ (x :: n ++ B)) := by
  refine no_new a hn fun h => ?_
  obtain ⟨_, _, hh⟩ := nb_pre (let58 a.w1l) h
  rw [hh x (n ++ w2) rfl h58] at hx
  cases hx
theorem no_long {A B u w1 w2 v n : List Nat} (a : At A B u w1 w2 v) (hn : ∀ c ∈ n, stp 32 c = false) (h58 : (58 : Nat) ∉ n) (h8 : 8 ≤ n.length) : ¬ Acc (A ++ (n ++ B)) := by
  refine no_new a hn fun h => ?_
  rw [← List.append_assoc] at h
  obtain ⟨hl, _⟩ := nb_pre (fun z => (List.mem_append.mp z).elim (let58 a.w1l) h58) h
  rw [List.length_append] at hl
  have := List.length_pos_iff.mpr a.w1n
  omega
theorem no_sign {A B : List Nat} {x : Nat} (hs : stp 32 x = false) (hl : letOk x = false) (hf : ¬ (48 ≤ x ∧ x ≤ 57)) (h58 : x ≠ 58) : ¬ Acc (A ++ x :: B) := fun h => by
  obtain ⟨u, w1, e1, s1, st⟩ := from_stop A
  obtain ⟨w2, v, e2, s2, ed⟩ := to_stop B
  have hb := seg (w := w1 ++ x :: w2) st (fun c hc => ?_) (by simp) ed (by rw [e1, e2] at h; simpa using h)
  · by_cases m : (58 : Nat) ∈ w1
    · obtain ⟨p, q, rfl, hp⟩ := List.eq_append_cons_of_mem m
      rw [List.append_assoc] at hb
      obtain ⟨_, _, hnum⟩ := nb_at hp hb
      exact hf ((num_inv hnum).2.2.1 x (by simp))
    · obtain ⟨_, _, hh⟩ := nb_pre m hb
      rw [hh x w2 rfl h58] at hl
      cases hl
  · rcases List.mem_append.mp hc with h | h
    · exact s1 c h
    · rcases List.mem_cons.mp h with rfl | h
      · exact hs
      · exact s2 c h
end K24
set_option Elab.async false
set_option linter.all false
set_option maxRecDepth 100000
set_option maxHeartbeats 4000000
namespace K24
open PySem L2 NS TR
open TM
theorem seq_ifS_st {c : TT} {t u rest : TS} {D : Ends} {σ σ' : L2.St} {H : Hp} (h : rest D σ' H → tIfS c t u { D with nx := rest D } σ H) (g : rest D σ' H) : tSeq (tIfS c t u) rest D σ H := h g
theorem to_list {x : Str} {k : Int} (j : Nat) (e : k = (j : Int)) (h : j ≤ x.cps.toList.length) : (Txt.slice x none (some k)).cps.toList = x.cps.toList.take j := by
  rw [e]
  have := PySem.StrLaws.sliceText_to (x := x) (j := (j : Int)) ⟨by omega, by omega⟩
  have e : Txt.slice x none (some (j : Int)) = PySem.StrLaws.sliceText x none (some (j : Int)) := rfl
  rw [e, this]
  simp
def spWrit (n : Nat) : Sp := fun vs H Q _ => ∃ t v, vs = [v] ∧ TrIs H t v ∧ Wt t ∧ deep t ≤ n + 1 ∧ size t ≤ 160 ∧ ∀ H', Same H H' → Q (.str (shT t)) H'
def putL (L : List Nat) (k : Nat) (n : List Nat) : List Nat := L.take k ++ (n ++ L.drop k)
def spPut : Sp := fun vs H Q _ => ∃ (z n : Str) (k : Nat), vs = [.str z, .int (k : Int), .str n] ∧ z.length ≤ 10000 ∧ n.length ≤ 1000 ∧ k ≤ z.length ∧ Q (.str (mkS (putL z.cps.toList k n.cps.toList))) H
abbrev S33 : Str := "!#$&'*+-/;<>?@ABZ\\^_`{|}~\t\n\".,[]="
theorem odd33 : ∀ c ∈ S33.cps.toList, stp 32 c = false ∧ letOk c = false ∧ ¬ (48 ≤ c ∧ c ≤ 57) ∧ c ≠ 58 := by decide +kernel
theorem len33 : S33.cps.toList.length = 33 := by decide +kernel
def spOddS : Sp := fun vs H Q _ => ∃ (z : Str) (c : Int), vs = [.str z, .int c] ∧ z.length ≤ 10000 ∧ ∀ k x, k ≤ z.length → stp 32 x = false ∧ letOk x = false ∧ ¬ (48 ≤ x ∧ x ≤ 57) ∧ x ≠ 58 → x < 128 → Q (.str (mkS (putL z.cps.toList k [x]))) H
theorem lt33 : ∀ c ∈ S33.cps.toList, c < 128 := by decide +kernel
section
variable {P : Program} {w : World} {K : PySem.W.Frag} {mg : Str → Option Value} {base : Heap} {T : Adr}
theorem ok_put (X : Tx K mg T) : FnOk P w K mg base CX0 1 T.qput T.d_qput ["_law_text", "_law_at", "_law_new"] spPut := by
  refine X.F_qput.okQ sc_qput (fun vs H Q E h => ?_) (fun cdv A outer s H vs Q E hr h => ?_)
  · obtain ⟨_, _, _, rfl, _⟩ := h
    rfl
  obtain ⟨z, n, k, rfl, hz, hn, hk, q⟩ := h
  refine ⟨_, (qss_one (qs_ret (qe_op op_add_str (qe_op op_add_str (qe_slice sl_str (qv 0) qo_none (qo_some (qv 1))) (qv 2)) (qe_slice sl_str (qv 0) (qo_some (qv 1)) qo_none)))), ?_⟩
  have hk' : k ≤ z.cps.toList.length := by rw [← len_list]; exact hk
  have e1 : (Txt.slice z none (some (k : Int))).cps.toList = z.cps.toList.take k := to_list k rfl hk'
  have e2 : (Txt.slice z (some (k : Int)) none).cps.toList = z.cps.toList.drop k := from_list hk'
  have l1 : (Txt.slice z none (some (k : Int))).length ≤ 10000 := by rw [len_list, e1, List.length_take]; omega
  have l2 : (Txt.slice z (some (k : Int)) none).length ≤ 10000 := by rw [len_list, e2, List.length_drop]; rw [len_list] at hz; omega
  have es : mkS (putL z.cps.toList k n.cps.toList) = Txt.slice z none (some (k : Int)) ++ n ++ Txt.slice z (some (k : Int)) none := str_ext (by
    rw [mk_list, app_list, app_list, e1, e2]
    unfold putL
    simp)
  rw [es] at q
  exact ⟨_, rfl, _, rfl, _, rfl, z, rfl, fits2 (by omega), _, rfl, _, _, rfl, rfl, fits2 (by omega), _, rfl, _, rfl, _, rfl, z, rfl, fits2 (by omega), _, _, rfl, rfl, fits2 (by rw [app_len]; omega), q⟩
theorem ok_oddS (X : Tx K mg T) : FnOk P w K mg base CX0 2 T.qoddsign T.d_qoddsign ["_law_text", "_law_cell"] spOddS := by
  have G_qput := ok_put (P := P) (w := w) (base := base) X
  refine X.F_qoddsign.okQ sc_qoddsign (fun vs H Q E h => ?_) (fun cdv A outer s H vs Q E hr h => ?_)
  · obtain ⟨_, _, rfl, _⟩ := h
    rfl
  obtain ⟨z, c, rfl, hz, q⟩ := h
  refine ⟨_, (qss_cons (qs_set (i := 2) sc_qoddsign.nd rfl (Or.inl rfl) qe_str) (qss_one (qs_ret (qe_call G_qput hr rfl X.m_qput X.F_qput.kp X.b_qput .nil pass0 (qaN (qv 0) (qaB (qe_op op_mod (qe_op op_fdiv (qv 1) qe_int) (qe_op op_add (qe_callB call_len_str rfl X.z_len PySem.boot_len (qaN (qv 0) qa_nil)) qe_int)) (qaS (qe_ix ix_str (qv 2) (qe_op op_mod (qv 1) qe_int) (fun _ _ => rfl)) qa_nil))))))), ?_⟩
  have hp : (0 : Int) < (z.length : Int) + 1 := by omega
  have k0 := Int.emod_nonneg (c / 33) (show (z.length : Int) + 1 ≠ 0 by omega)
  have k1 := Int.emod_lt_of_pos (c / 33) hp
  obtain ⟨k, hk⟩ := Int.eq_ofNat_of_zero_le k0
  have i0 := Int.emod_nonneg c (show (33 : Int) ≠ 0 by decide)
  have i1 := Int.emod_lt_of_pos c (show (0 : Int) < 33 by decide)
  obtain ⟨i, hi⟩ := Int.eq_ofNat_of_zero_le i0
  obtain ⟨x, hx⟩ := some_of_lt (xs := S33.cps.toList) (i := i) (by rw [len33]; omega)
  have xm : x ∈ S33.cps.toList := List.mem_of_getElem? hx
  refine seq_setC ?_
  refine ⟨_, rfl, _, rfl, _, _, rfl, rfl, ⟨by decide, by decide⟩, _, rfl, z, rfl, fits2 (by omega), _, _, rfl, rfl, _, _, rfl, rfl, hp, _, rfl, _, rfl, _, _, rfl, rfl, (by show (0 : Int) < 33; decide), S33, _, x, rfl, rfl, (by decide +kernel), by rw [hi]; exact atI_nat hx, z, ⟨#[x]⟩, k, ?_, by omega, (by show 1 ≤ 1000; decide), by omega, q k x (by omega) (odd33 x xm) (lt33 x xm)⟩
  show [V.str z, V.int (c / 33 % ((z.length : Int) + 1)), _] = _
  rw [hk]
end
end K24
set_option Elab.async false
set_option linter.all false
set_option maxRecDepth 100000
set_option maxHeartbeats 4000000
namespace K24
open PySem L2 NS TR
open TM
section
variable {P : Program} {w : World} {K : PySem.W.Frag} {mg : Str → Option Value} {base : Heap} {T : Adr}
theorem ok_writ (X : Tx K mg T) : ∀ n : Nat, FnOk P w K mg base CX0 (n + 1) T.qwritten T.d_qwritten ["_law_tree"] (spWrit n) := by
  have step : ∀ (n : Nat) (sp : Sp), FnOk P w K mg base CX0 n T.qwritten T.d_qwritten ["_law_tree"] sp → (∀ t v H Q E, TrIs H t v → Wt t → deep t ≤ n → size t ≤ 160 → (∀ H', Same H H' → Q (.str (shT t)) H') → sp [v] H Q E) → FnOk P w K mg base CX0 (n + 1) T.qwritten T.d_qwritten ["_law_tree"] (spWrit n) := by
    intro n sp G_qwritten use
    refine X.F_qwritten.okQ sc_qwritten (fun vs H Q E h => ?_) (fun cdv A outer s H vs Q E hr h => ?_)
    · obtain ⟨_, _, rfl, _⟩ := h
      rfl
    obtain ⟨t, v, rfl, hv, wt, hd, hz, q⟩ := h
    refine ⟨_, (qss_cons (qs_set (i := 1) sc_qwritten.nd rfl (Or.inl rfl) (qe_ix ix_tup (qv 0) qe_int (fun _ _ => rfl))) (qss_cons (qs_if (qt_cmpR op_ne (qe_ix ix_tup (qv 0) qe_int (fun _ _ => rfl)) qe_int (nomark _)) (qss_one (qs_set (i := 1) sc_qwritten.nd rfl (Or.inl rfl) (qe_op op_add_str (qe_op op_add_str (qv 1) qe_str) (qe_callTy call_str_int rfl X.z_str PyProof.Rows.boot_str (qaS (qe_ix ix_tup (qv 0) qe_int (fun _ _ => rfl)) qa_nil))))) qss_nil) (qss_cons (qs_if (qt_cmpR (op_eqNilT hr.units) (qe_ix ix_tup (qv 0) qe_int (fun _ _ => rfl)) (qe_tup qa_nil) (nomark _)) (qss_one (qs_ret (qv 1))) qss_nil) (qss_one (qs_ret (qe_op op_add_str (qe_op op_add_str (qe_op op_add_str (qv 1) qe_str) (qe_bm PySem.F.plainAttrs_str PySem.F.slot_str_join PySem.F.type_str_join mt_join qe_str (qaE (qe_comp (ys := []) (js := []) rfl rfl (qi_tup (qe_ix ix_tup (qv 0) qe_int (fun _ _ => rfl))) (fun _ _ _ _ _ => qif_nil) (fun _ _ _ _ _ => (qe_call G_qwritten hr rfl X.m_qwritten X.F_qwritten.kp X.b_qwritten .nil pass0 (qaN (qv 0) qa_nil)))) qa_nil))) qe_str)))))), ?_⟩
    obtain ⟨p, b, vs, rfl, hp, hb, hvs⟩ := hv.op
    cases wt with
    | @node nm mk bs hn h0 h1 hbs =>
      have hp : H p = some (.tup [.str nm, .int mk, .ref b]) := hp
      have lvs' : vs.length = bs.length := hvs.len
      have lbs : bs.length < 160 := bs_len (t := .node nm mk bs) hz
      have ln : (mkS (ndT nm mk)).length ≤ 27 := by rw [len_list, mk_list]; exact nd_len hn h0 h1
      have hl := nm_len hn
      have hdl : (Str.ofString (toString mk)).length ≤ 18 := by rw [len_list]; exact (num_len h0 h1).2
      have ec : (Str.ofString ":").length = 1 := by decide
      refine ⟨_, rfl, p, _, 0, _, rfl, rfl, SqT.of hp, rfl, ?_⟩
      unfold gName
      dsimp only
      refine seq_ifS_st (σ' := [some (.ref p), some (.str (mkS (ndT nm mk)))]) (fun g => ?_) ?_
      · by_cases e : mk = 0
        · have ez : mkS (ndT nm mk) = nm := str_ext (by rw [mk_list]; unfold ndT; rw [if_pos e, List.append_nil])
          rw [ez] at g
          exact ⟨_, rfl, p, _, 1, _, rfl, rfl, SqT.of hp, rfl, rfl, _, rfl, iteNe (fun h => absurd (congrArg V.int e) h) (fun _ => g)⟩
        · have ez : mkS (ndT nm mk) = nm ++ Str.ofString ":" ++ Str.ofString (toString mk) := str_ext (by
            rw [mk_list, app_list, app_list]
            unfold ndT
            rw [if_neg e, colon]
            simp)
          rw [ez] at g
          refine ⟨_, rfl, p, _, 1, _, rfl, rfl, SqT.of hp, rfl, rfl, _, rfl, iteNe (fun _ => ?_) (fun h => absurd (V.int.inj h) e)⟩
          exact ⟨_, rfl, _, _, rfl, rfl, fits2 (by omega), _, rfl, p, _, 1, _, rfl, rfl, SqT.of hp, rfl, mk, rfl, small_log h0 (show mk < 1000000000000000000 from h1), _, _, rfl, rfl, fits2 (by rw [app_len]; omega), g⟩
      refine ⟨_, rfl, p, _, 2, _, rfl, rfl, SqT.of hp, rfl, (by show 0 ≤ sizeLine; decide), fun e he => ?_⟩
      have s1 := same_new he (.tup [])
      refine ⟨b, e, vs, rfl, rfl, SqT.of (s1 _ _ hb), SqT.of upd_same, _, rfl, ?_⟩
      by_cases hbn : bs = []
      · subst hbn
        have := hvs.nil_of
        subst this
        refine iteT ⟨_, rfl, ?_⟩
        have es : shT (.node nm mk []) = mkS (ndT nm mk) := by unfold shT; rw [nsT, nsTs, txt, brk, List.append_nil]
        rw [es] at q
        exact q _ s1
      · have hvn : ¬ vs = [] := fun z => hbn (by rw [z] at lvs'; exact List.length_eq_zero_iff.mp lvs'.symm)
        rw [decide_eq_false hvn]
        have lo : (Str.ofString "(").length = 1 := by decide
        have lcl : (Str.ofString ")").length = 1 := by decide
        have lj : (Txt.join " " (bs.map shT)).length ≤ 4800 := by
          have a := len_Ts bs hbs
          have b' : sizes bs ≤ 160 := by
            have : size (.node nm mk bs) = 1 + sizes bs := size_eq _
            omega
          rw [len_list, join_T hbn]
          have e : (inn 32 (nsTs bs)).length + 1 = (txts 32 (nsTs bs)).length := by
            cases bs with
            | nil => exact absurd rfl hbn
            | cons x xs => rw [nsTs, inn, txts, List.length_cons]
          omega
        refine iteF ⟨_, rfl, _, _, rfl, rfl, fits2 (by omega), rfl, _, rfl, p, _, 2, _, rfl, rfl, SqT.of (s1 _ _ hp), rfl, b, rfl, ⟨_, SqT.of (s1 _ _ hb)⟩, fun D hD => ?_⟩
        refine comp_tupM (K := K) (xs := vs) (ys := (bs.map shT).map V.str) (fitsL (by omega)) (by rw [List.length_map, List.length_map, lvs']) (SqT.of (s1 _ _ hb)) hD (fun i x y H' hx hy sm Q' q' => ?_) (fun H' sm hdd => ?_)
        · obtain ⟨u, hu, hi⟩ := hvs.get hx
          have e : y = V.str (shT u) := by
            rw [List.getElem?_map, List.getElem?_map] at hy
            have hu : bs[i]? = some u := hu
            rw [hu] at hy
            exact (Option.some.inj hy).symm
          have um : u ∈ bs := List.mem_of_getElem? hu
          have d1 := deep_br (t := .node nm mk bs) (u := u) um
          have z1 := size_br (t := .node nm mk bs) (u := u) um
          rw [e] at q'
          exact ⟨_, rfl, use u x H' _ _ (TrIs.same (sameT (s1.trans sm)) _ hi) (hbs u um) (by omega) (by omega) fun H2 s2 => q' _ s2⟩
        · have hsum : ((bs.map shT).map (·.length)).sum + (bs.map shT).length ≤ 4800 := by
            have a : ∀ ts : List Tr, (∀ t ∈ ts, Wt t) → ((ts.map shT).map (·.length)).sum + (ts.map shT).length ≤ 30 * sizes ts := by
              intro ts
              induction ts with
              | nil => intro _; exact Nat.zero_le _
              | cons x xs ih2 =>
                intro hh
                have b1 := shT_len (hh x (by simp))
                have b2 := ih2 fun y hy => hh y (by simp [hy])
                rw [List.map_cons, List.map_cons, List.sum_cons, List.length_cons, sizes]
                omega
            have a1 := a bs hbs
            have : size (.node nm mk bs) = 1 + sizes bs := size_eq _
            omega
          have e1 : (Str.ofString " ").length = 1 := by decide
          refine ⟨" ", D, bs.map shT, rfl, rfl, SqL.of hdd, by rw [e1]; omega, ?_⟩
          refine ⟨_, _, rfl, rfl, fits2 (by rw [app_len]; omega), _, _, rfl, rfl, fits2 (by rw [app_len, app_len]; omega), ?_⟩
          have es : shT (.node nm mk bs) = mkS (ndT nm mk) ++ Str.ofString "(" ++ Txt.join " " (bs.map shT) ++ Str.ofString ")" := str_ext (by
            rw [app_list, app_list, app_list, join_T hbn, mk_list]
            unfold shT
            rw [mk_list, nsT, txt, brk_inn 32 (fun z => hbn (by cases bs with | nil => rfl | cons x xs => rw [nsTs] at z; cases z)), show (Str.ofString "(").cps.toList = [40] by decide, show (Str.ofString ")").cps.toList = [41] by decide]
            simp)
          rw [es] at q
          exact q _ (s1.trans sm)
  intro n
  induction n with
  | zero => exact step 0 (fun _ _ _ _ => False) ⟨fun _ _ _ _ h => h.elim, fun _ _ _ _ _ _ _ _ _ _ _ _ _ h => h.elim⟩ (fun t v H Q E _ _ hd _ _ => by have := deep_eq t; omega)
  | succ n ih => exact step (n + 1) _ ih fun t v H Q E hv hw hd hz q => ⟨t, v, rfl, hv, hw, hd, hz, q⟩
end
end K24
set_option Elab.async false
set_option linter.all false
set_option maxRecDepth 100000
set_option maxHeartbeats 4000000
namespace K24
open PySem L2 NS TR
open TM
def EndAt (L : List Nat) (p : Nat) : Prop := ∃ A x B, L = A ++ [x] ++ B ∧ A.length + 1 = p ∧ letOk x = true ∧ ∀ y r, B = y :: r → letOk y = false
theorem in26_eq {c : Nat} (h : c < 128) : inS S26 c = letOk c := by
  cases e : letOk c with
  | true => exact in26 c h e
  | false =>
    cases e2 : inS S26 c with
    | false => rfl
    | true =>
      rw [inS_eq] at e2
      rw [let_in' c (of_decide_eq_true e2)] at e
      cases e
theorem endat_iff {L : List Nat} {i c : Nat} (hc : L[i]? = some c) : EndAt L (i + 1) ↔ (letOk c = true ∧ ∀ y, L[i + 1]? = some y → letOk y = false) := by
  obtain ⟨hi, ec⟩ := List.getElem?_eq_some_iff.mp hc
  constructor
  · rintro ⟨A, x, B, rfl, hA, hx, hB⟩
    have hA : A.length = i := by omega
    subst hA
    have e : (A ++ [x] ++ B)[A.length]? = some x := by simp
    rw [e] at hc
    cases hc
    refine ⟨hx, fun y hy => ?_⟩
    cases B with
    | nil => simp at hy
    | cons b r =>
      have e2 : (A ++ [c] ++ b :: r)[A.length + 1]? = some b := by simp
      rw [e2] at hy
      cases hy
      exact hB _ r rfl
  · rintro ⟨h1, h2⟩
    refine ⟨L.take i, c, L.drop (i + 1), ?_, by rw [List.length_take]; omega, h1, fun y r e => h2 y ?_⟩
    · have := List.take_append_drop i L
      rw [drop_cons hc] at this
      rw [List.append_assoc]
      exact this.symm
    · have := congrArg (fun l => l[0]?) e
      rw [List.getElem?_drop] at this
      simpa using this
def spEnds : Sp := fun vs H Q _ => ∃ z : Str, vs = [.str z] ∧ TxOk z ∧ ∀ (D : Addr) (ps : List Nat) (H' : Hp), Same H H' → H' D = some (.lst (ps.map fun (p : Nat) => V.int (p : Int))) → (∀ p ∈ ps, EndAt z.cps.toList p) → (∀ p, EndAt z.cps.toList p → p ∈ ps) → ps.length ≤ 20000 → Q (.ref D) H'
theorem endat_le {L : List Nat} {p : Nat} (h : EndAt L p) : 1 ≤ p ∧ p ≤ L.length := by
  obtain ⟨A, x, B, rfl, hA, _⟩ := h
  simp
  omega
section
variable {P : Program} {w : World} {K : PySem.W.Frag} {mg : Str → Option Value} {base : Heap} {T : Adr}
theorem ok_ends (X : Tx K mg T) : FnOk P w K mg base CX0 1 T.qends T.d_qends ["_law_text"] spEnds := by
  refine X.F_qends.okQ sc_qends (fun vs H Q E h => ?_) (fun cdv A outer s H vs Q E hr h => ?_)
  · obtain ⟨_, rfl, _⟩ := h
    rfl
  obtain ⟨z, rfl, tz, q⟩ := h
  refine ⟨_, (qss_cons (qs_set (i := 1) sc_qends.nd rfl (Or.inl rfl) (qe_lst qa_nil)) (qss_cons (qs_for PassesOwn.never rfl (qi_range1 rfl X.z_range (qaK (qe_callB call_len_str rfl X.z_len PySem.boot_len (qaN (qv 0) qa_nil)) qa_nil)) (qg_name (i := 2) sc_qends.nd rfl (Or.inl rfl)) (qss_cons (qs_set (i := 3) sc_qends.nd rfl (Or.inl rfl) (qe_cmpR op_in_str (qe_ix ix_str (qv 0) (qv 2) (fun _ _ => rfl)) qe_str rfl)) (qss_one (qs_if (qw_pt (qw_and (qt_val (qv 3)) (qw_and1 (qw_pt (qw_or (qt_cmpR op_eq (qe_op op_add (qv 2) qe_int) (qe_callB call_len_str rfl X.z_len PySem.boot_len (qaN (qv 0) qa_nil)) (nomark _)) (qw_or1 (qt_cmpR op_notin_str (qe_ix ix_str (qv 0) (qe_op op_add (qv 2) qe_int) (fun _ _ => rfl)) qe_str rfl))))))) (qss_one (qs_expr (qe_bm PySem.F.plainAttrs_list PySem.F.slot_list_append PySem.F.type_list_append mt_append (qv 1) (qaB (qe_op op_add (qv 2) qe_int) qa_nil)))) qss_nil)))) (qss_one (qs_ret (qv 1))))), ?_⟩
  have hz := tz.1
  have hzl : z.length = z.cps.toList.length := len_list z
  refine ⟨(by show 0 ≤ sizeLine; decide), fun D hD => ?_⟩
  refine ⟨_, rfl, z, rfl, fits2 (by omega), _, rfl, by omega, by omega, ?_⟩
  refine for_range (n := z.length) (fun i σ H' => (∃ x2 x3, σ = [some (.str z), some (.ref D), x2, x3]) ∧ Same H H' ∧ ∃ ps : List Nat, H' D = some (.lst (ps.map fun (p : Nat) => V.int (p : Int))) ∧ (∀ p ∈ ps, EndAt z.cps.toList p) ∧ (∀ p, EndAt z.cps.toList p → p ≤ i → p ∈ ps) ∧ ps.length ≤ i)
    ⟨⟨none, none, rfl⟩, same_new hD _, [], upd_same, (fun p hp => nomatch hp), (fun p hp h0 => by have := endat_le hp; omega), Nat.le_refl _⟩ ?_ ?_
  · rintro i σ H' hi ⟨⟨x2, x3, rfl⟩, sm, ps, hd, h1, h2, hl⟩
    obtain ⟨c, hc⟩ := some_of_lt (xs := z.cps.toList) (i := i) (by omega)
    have hm := tz.2 c (List.mem_of_getElem? hc)
    have hia : atI z.cps.toList (0 + (i : Int)) = some c := by rw [Int.zero_add]; exact atI_nat hc
    refine ⟨_, rfl, _, rfl, z, _, c, rfl, rfl, fits2 (by omega), hia, _, _, rfl, rfl, ?_⟩
    have eb : (!(Builtin.Str.occurrences (Str.ofString "abcdefghijklmnopqrstuvwxyz") ⟨#[c]⟩ 0 (Str.ofString "abcdefghijklmnopqrstuvwxyz").length 1).isEmpty) = letOk c := in26_eq hm
    rw [eb]
    unfold gName
    dsimp only
    refine ifS_by (fun H1 => H1 = H' ∧ EndAt z.cps.toList (i + 1)) (fun H1 => H1 = H' ∧ ¬ EndAt z.cps.toList (i + 1)) (fun Q' qT qF => ?_) (fun H1 ⟨e, he⟩ => ?_) (fun H1 ⟨e, he⟩ => ?_)
    · refine ⟨_, rfl, _, rfl, ?_⟩
      cases hlc : letOk c with
      | false => exact iteF (qF H' ⟨rfl, fun h => by rw [(endat_iff hc).mp h |>.1] at hlc; cases hlc⟩)
      | true =>
        refine iteT ⟨_, rfl, _, _, rfl, rfl, _, rfl, z, rfl, fits2 (by omega), rfl, _, rfl, iteDd (fun h => ?_) (fun h => ?_)⟩
        · refine qT H' ⟨rfl, (endat_iff hc).mpr ⟨hlc, fun y hy => ?_⟩⟩
          have := lt_of_some hy
          have := V.int.inj h
          omega
        · have hlt : i + 1 < z.cps.toList.length := by
            rcases Nat.lt_or_ge (i + 1) z.cps.toList.length with g | g
            · exact g
            · exact absurd (congrArg V.int (show (0 + (i : Int) + 1) = (z.length : Int) by omega)) h
          obtain ⟨y, hy⟩ := some_of_lt hlt
          have hym := tz.2 y (List.mem_of_getElem? hy)
          have hya : atI z.cps.toList (0 + (i : Int) + 1) = some y := by rw [Int.zero_add]; exact atI_nat hy
          have ey : (!(Builtin.Str.occurrences (Str.ofString "abcdefghijklmnopqrstuvwxyz") ⟨#[y]⟩ 0 (Str.ofString "abcdefghijklmnopqrstuvwxyz").length 1).isEmpty) = letOk y := in26_eq hym
          refine ⟨_, rfl, _, rfl, _, _, rfl, rfl, z, _, y, rfl, rfl, fits2 (by omega), hya, _, _, rfl, rfl, _, rfl, ?_⟩
          have en : (Builtin.Str.occurrences (Str.ofString "abcdefghijklmnopqrstuvwxyz") ⟨#[y]⟩ 0 (Str.ofString "abcdefghijklmnopqrstuvwxyz").length 1).isEmpty = !letOk y := by rw [← ey, Bool.not_not]
          rw [en]
          cases hly : letOk y with
          | true => exact qF H' ⟨rfl, fun h => by rw [((endat_iff hc).mp h).2 y hy] at hly; cases hly⟩
          | false => exact qT H' ⟨rfl, (endat_iff hc).mpr ⟨hlc, fun y' hy' => by rw [hy] at hy'; cases hy'; exact hly⟩⟩
    · subst e
      refine ⟨_, rfl, .inl ⟨rfl, _, SqL.of hd⟩, _, rfl, _, _, rfl, rfl, D, _, _, rfl, rfl, hd, fitsL (by rw [List.length_map]; omega), ?_⟩
      refine ⟨⟨_, _, rfl⟩, same_upd hD sm, ps ++ [i + 1], ?_, fun p hp => ?_, fun p hp h0 => ?_, by rw [List.length_append, List.length_singleton]; omega⟩
      · rw [upd_same, List.map_append]
        congr 2
        simp
      · rcases List.mem_append.mp hp with h | h
        · exact h1 p h
        · rw [List.mem_singleton.mp h]; exact he
      · by_cases e : p = i + 1
        · rw [e]; simp
        · exact List.mem_append.mpr (.inl (h2 p hp (by omega)))
    · subst e
      refine ⟨⟨_, _, rfl⟩, sm, ps, hd, h1, fun p hp h0 => ?_, by omega⟩
      by_cases e : p = i + 1
      · rw [e] at hp; exact absurd hp he
      · exact h2 p hp (by omega)
  · rintro σ H' ⟨⟨x2, x3, rfl⟩, sm, ps, hd, h1, h2, hl⟩
    exact ⟨_, rfl, q D ps H' sm hd h1 (fun p hp => h2 p hp (by have := endat_le hp; omega)) (by omega)⟩
end
end K24
set_option Elab.async false
set_option linter.all false
set_option maxRecDepth 100000
set_option maxHeartbeats 4000000
namespace K24
open PySem L2 NS TR
open TM
theorem at_end {L : List Nat} {p : Nat} (h : Acc L) (he : EndAt L p) : ∃ A B u w1 w2 v, L = A ++ B ∧ A.length = p ∧ At A B u w1 w2 v := by
  obtain ⟨A, x, B, rfl, hA, hx, hB⟩ := he
  obtain ⟨u, w1, w2, v, a⟩ := at_name h hx hB
  exact ⟨A ++ [x], B, u, w1, w2, v, rfl, by simp [hA], a⟩
theorem put_at {A B n : List Nat} {p : Nat} (h : A.length = p) : putL (A ++ B) p n = A ++ (n ++ B) := by
  unfold putL
  subst h
  simp
variable {A B u w1 w2 v : List Nat}
theorem w2_no (a : At A B u w1 w2 v) : numB (mkS w2) = false := by
  rcases a.w2d with rfl | ⟨d, rfl, _, _⟩
  · exact num_no (.inl rfl)
  · exact num_no (.inr (.inr (.inl ⟨58, by simp, by decide⟩)))
theorem has_no {l : List Nat} (c : Nat) (h : c ∈ l) (hc : ¬ (48 ≤ c ∧ c ≤ 57)) : numB (mkS l) = false := num_no (.inr (.inr (.inl ⟨c, h, hc⟩)))
theorem bad6 (a : At A B u w1 w2 v) : ∀ s ∈ ([":", ": ", "::"] : List Str), ¬ Acc (A ++ (s.cps.toList ++ B)) := by
  intro s hs
  simp only [List.mem_cons, List.mem_nil_iff, or_false] at hs
  rcases hs with rfl | rfl | rfl
  · rw [show (Str.ofString ":").cps.toList = 58 :: [] by decide]
    exact no_mark a (fun c hc => nomatch hc) (.inr (by rw [List.nil_append]; exact w2_no a))
  · rw [show (Str.ofString ": ").cps.toList = [58, 32] by decide]
    intro h
    have hb := seg (w := w1 ++ [58]) (v := 32 :: B) a.st (fun c hc => ?_) (by simp) (.inr ⟨32, B, rfl, by decide⟩) (by rw [a.eA] at h; simpa using h)
    · obtain ⟨_, _, hn⟩ := nb_at (d := []) (let58 a.w1l) hb
      rw [num_no (.inl rfl)] at hn
      cases hn
    · rcases List.mem_append.mp hc with h | h
      · exact a.w1s c h
      · rw [List.mem_singleton.mp h]; decide
  · rw [show (Str.ofString "::").cps.toList = 58 :: [58] by decide]
    exact no_mark a (by decide) (.inr (has_no 58 (by simp) (by decide)))
theorem bad7 (a : At A B u w1 w2 v) : ∀ s ∈ (["5", "0x", "9:"] : List Str), ¬ Acc (A ++ (s.cps.toList ++ B)) := by
  intro s hs
  simp only [List.mem_cons, List.mem_nil_iff, or_false] at hs
  rcases hs with rfl | rfl | rfl
  · rw [show (Str.ofString "5").cps.toList = 53 :: [] by decide]
    exact no_fig a (by decide) (by decide) (by decide)
  · rw [show (Str.ofString "0x").cps.toList = 48 :: [120] by decide]
    exact no_fig a (by decide) (by decide) (by decide)
  · rw [show (Str.ofString "9:").cps.toList = 57 :: [58] by decide]
    exact no_fig a (by decide) (by decide) (by decide)
theorem bad8 (a : At A B u w1 [] v) : ∀ s ∈ ([":0", ":00", ":07"] : List Str), ¬ Acc (A ++ (s.cps.toList ++ B)) := by
  intro s hs
  simp only [List.mem_cons, List.mem_nil_iff, or_false] at hs
  rcases hs with rfl | rfl | rfl
  · rw [show (Str.ofString ":0").cps.toList = 58 :: [48] by decide]
    exact no_mark a (by decide) (.inl (by decide))
  · rw [show (Str.ofString ":00").cps.toList = 58 :: [48, 48] by decide]
    exact no_mark a (by decide) (.inr (num_no (.inr (.inr (.inr ⟨rfl, by decide⟩)))))
  · rw [show (Str.ofString ":07").cps.toList = 58 :: [48, 55] by decide]
    exact no_mark a (by decide) (.inr (num_no (.inr (.inr (.inr ⟨rfl, by decide⟩)))))
theorem bad10 (a : At A B u w1 w2 v) : ∀ s ∈ ([":a", ":1a", "aaaaaaaa"] : List Str), ¬ Acc (A ++ (s.cps.toList ++ B)) := by
  intro s hs
  simp only [List.mem_cons, List.mem_nil_iff, or_false] at hs
  rcases hs with rfl | rfl | rfl
  · rw [show (Str.ofString ":a").cps.toList = 58 :: [97] by decide]
    exact no_mark a (by decide) (.inr (has_no 97 (by simp) (by decide)))
  · rw [show (Str.ofString ":1a").cps.toList = 58 :: [49, 97] by decide]
    exact no_mark a (by decide) (.inr (has_no 97 (by simp) (by decide)))
  · rw [show (Str.ofString "aaaaaaaa").cps.toList = [97, 97, 97, 97, 97, 97, 97, 97] by decide]
    exact no_long a (by decide) (by decide) (by decide)
theorem bad11 : ∀ s ∈ (["()", "( )", "(())"] : List Str), ¬ Acc (A ++ (s.cps.toList ++ B)) := by
  intro s hs
  simp only [List.mem_cons, List.mem_nil_iff, or_false] at hs
  rcases hs with rfl | rfl | rfl <;> intro h
  · rw [show (Str.ofString "()").cps.toList = [40, 41] by decide] at h
    exact absurd (adj (c := 40) (d := 41) (by decide) (by decide) h) (by decide)
  · rw [show (Str.ofString "( )").cps.toList = [40, 32, 41] by decide] at h
    exact absurd (adj (c := 40) (d := 32) (by decide) (by decide) h) (by decide)
  · rw [show (Str.ofString "(())").cps.toList = [40, 40, 41, 41] by decide] at h
    exact absurd (adj (c := 40) (d := 40) (by decide) (by decide) h) (by decide)
theorem bad12 (a : At A B u w1 w2 v) : ∀ s ∈ ([":12 ", ":3()", "  "] : List Str), ¬ Acc (A ++ (s.cps.toList ++ B)) := by
  intro s hs
  simp only [List.mem_cons, List.mem_nil_iff, or_false] at hs
  rcases hs with rfl | rfl | rfl <;> intro h
  · rw [show (Str.ofString ":12 ").cps.toList = [58, 49, 50, 32] by decide] at h
    have h : Acc ((A ++ [58, 49, 50]) ++ 32 :: B) := by simpa using h
    rcases a.w2d with e | ⟨d, e, hd, hf⟩
    · have eB := a.eB
      rw [e, List.nil_append] at eB
      rcases a.ed with ev | ⟨x, r, ev, hx⟩
      · rw [eB, ev] at h
        exact absurd (last_stop (by decide) h) (by decide)
      · rw [eB, ev] at h
        exact absurd (adj (by decide) hx h) (by decide)
    · rw [a.eB] at h
      rcases seg1 (by decide) a.w2s a.ed h with ⟨_, hb⟩ | ⟨hb, _⟩
      · rw [e] at hb
        exact absurd rfl (nb_at (a := []) (by simp) hb).1.1
      · exact absurd hb (by decide)
  · rw [show (Str.ofString ":3()").cps.toList = [58, 51, 40, 41] by decide] at h
    have h : Acc ((A ++ [58, 51]) ++ 40 :: 41 :: B) := by simpa using h
    exact absurd (adj (by decide) (by decide) h) (by decide)
  · rw [show (Str.ofString "  ").cps.toList = [32, 32] by decide] at h
    exact absurd (adj (c := 32) (d := 32) (by decide) (by decide) h) (by decide)
theorem bad_m0 {d : List Nat} (a : At A B u w1 (58 :: d) v) (hd : d ≠ []) : ¬ Acc (A ++ (58 :: [48] ++ (d ++ v))) := fun h => by
  have hb := seg (w := w1 ++ 58 :: (48 :: d)) (v := v) a.st (fun c hc => ?_) (by simp) a.ed (by rw [a.eA] at h; simpa using h)
  · obtain ⟨_, _, hn⟩ := nb_at (let58 a.w1l) hb
    rw [num_no (.inr (.inr (.inr ⟨rfl, fun z => ?_⟩)))] at hn
    · cases hn
    · have := congrArg (fun s : Str => s.cps.toList.length) z
      have e1 : (Str.ofString "0").cps.toList.length = 1 := by decide
      have this : (mkS (48 :: d)).cps.toList.length = (Str.ofString "0").cps.toList.length := this
      rw [e1, mk_list, List.length_cons] at this
      exact hd (List.length_eq_zero_iff.mp (by omega))
  · rcases List.mem_append.mp hc with h | h
    · exact a.w1s c h
    · rcases List.mem_cons.mp h with rfl | h
      · decide
      · rcases List.mem_cons.mp h with rfl | h
        · decide
        · exact a.w2s c (List.mem_cons_of_mem _ h)
theorem bad_m1 {d n : List Nat} (a : At A B u w1 (58 :: d) v) (hd : d ≠ []) (hn : ∀ c ∈ n, stp 32 c = false) (h18 : 18 ≤ n.length) : ¬ Acc (A ++ (58 :: n ++ (d ++ v))) := fun h => by
  have hb := seg (w := w1 ++ 58 :: (n ++ d)) (v := v) a.st (fun c hc => ?_) (by simp) a.ed (by rw [a.eA] at h; simpa using h)
  · obtain ⟨_, _, hnn⟩ := nb_at (let58 a.w1l) hb
    have := List.length_pos_iff.mpr hd
    rw [num_no (.inr (.inl (by rw [List.length_append]; omega)))] at hnn
    cases hnn
  · rcases List.mem_append.mp hc with h | h
    · exact a.w1s c h
    · rcases List.mem_cons.mp h with rfl | h
      · decide
      · rcases List.mem_append.mp h with h | h
        · exact hn c h
        · exact a.w2s c (List.mem_cons_of_mem _ h)
end K24
set_option Elab.async false
set_option linter.all false
set_option maxRecDepth 100000
set_option maxHeartbeats 4000000
namespace K24
open PySem L2 NS TR
open TM
theorem fold_lt : ∀ (l : List Nat) (a : Nat), (∀ c ∈ l, c ≤ 57) → l.foldl (fun acc c => acc * 10 + (c - 48)) a < (a + 1) * 10 ^ l.length
  | [], a, _ => by simp
  | c :: l, a, h => by
    have ih := fold_lt l (a * 10 + (c - 48)) fun x hx => h x (by simp [hx])
    have hc := h c (by simp)
    rw [List.foldl_cons, List.length_cons, Nat.pow_succ]
    refine Nat.lt_of_lt_of_le ih ?_
    have : (a + 1) * (10 ^ l.length * 10) = ((a + 1) * 10) * 10 ^ l.length := by rw [Nat.mul_comm (10 ^ l.length) 10, Nat.mul_assoc]
    rw [this]
    exact Nat.mul_le_mul_right _ (by omega)
theorem big_num {n : Int} (h0 : 1000000000000000000 ≤ n) (h1 : n < 10000000000000000000) : 18 < (Str.ofString (toString n)).cps.toList.length ∧ (Str.ofString (toString n)).cps.toList.length ≤ 19 := by
  obtain ⟨m, rfl⟩ := Int.eq_ofNat_of_zero_le (by omega : 0 ≤ n)
  have e1 := PySem.W.KIN.signs_num m
  have hv := PySem.W.KIN.val_back m
  refine ⟨?_, ?_⟩
  · rw [← e1] at hv
    generalize hl : (Str.ofString (toString ((m : Nat) : Int))).cps.toList = l at hv
    have hf := num_figs (n := (m : Int)) (by omega)
    rw [hl] at hf
    have := fold_lt l 0 (fun c hc => by
      have := hf c hc
      unfold figOk at this
      rw [Bool.and_eq_true, decide_eq_true_eq, decide_eq_true_eq] at this
      exact this.2)
    have hv : l.foldl (fun acc c => acc * 10 + (c - 48)) 0 = m := hv
    rw [hv] at this
    rcases Nat.lt_or_ge 18 l.length with g | g
    · exact g
    · have p1 : 10 ^ l.length ≤ 10 ^ 18 := Nat.pow_le_pow_right (by decide) g
      have p2 : (10 : Nat) ^ 18 = 1000000000000000000 := by decide
      omega
  · rw [e1, List.length_map]
    exact digs_len 18 m (by omega)
theorem big_log {n : Int} (h0 : 0 ≤ n) (h1 : n < 10000000000000000000) : n.natAbs.log2 < 1920 := by
  have h : n.natAbs < 2 ^ 64 := by
    have e : (2 : Nat) ^ 64 = 18446744073709551616 := by decide
    omega
  by_cases z : n.natAbs = 0
  · rw [z]
    decide
  · exact Nat.lt_of_lt_of_le ((Nat.log2_lt z).mpr h) (by decide)
def spAtName : Sp := fun vs H Q _ => ∃ (z : Str) (way c : Int), vs = [.str z, .int way, .int c] ∧ TxOk z ∧ z.length ≤ 5000 ∧ Acc z.cps.toList ∧ (∃ p, EndAt z.cps.toList p) ∧ 6 ≤ way ∧ way ≤ 12 ∧ 0 ≤ c ∧ c < 1000000000000 ∧ ∀ z' H', Same H H' → TxOk z' → ¬ Acc z'.cps.toList → Q (.str z') H'
theorem put_tx {z : Str} {p : Nat} {n : List Nat} (h : TxOk z) (hl : z.length ≤ 5000) (hn : n.length ≤ 1000) (hc : ∀ c ∈ n, c < 128) : TxOk (mkS (putL z.cps.toList p n)) := by
  rw [len_list] at hl
  refine ⟨?_, fun c h1 => ?_⟩
  · rw [len_list, mk_list]
    unfold putL
    rw [List.length_append, List.length_append, List.length_take, List.length_drop]
    omega
  · rw [mk_list] at h1
    unfold putL at h1
    rcases List.mem_append.mp h1 with h1 | h1
    · exact h.2 c (List.mem_of_mem_take h1)
    · rcases List.mem_append.mp h1 with h1 | h1
      · exact hc c h1
      · exact h.2 c (List.mem_of_mem_drop h1)
theorem few6 : ∀ s ∈ ([":", ": ", "::", "5", "0x", "9:", ":0", ":00", ":07", ":a", ":1a", "aaaaaaaa", "()", "( )", "(())", ":12 ", ":3()", "  "] : List Str), s.length ≤ 1000 ∧ ∀ c ∈ s.cps.toList, c < 128 := by decide +kernel
theorem eight : Txt.mul (Str.ofString "a") 8 = "aaaaaaaa" := by decide +kernel
end K24
set_option Elab.async false
set_option linter.all false
set_option maxRecDepth 100000
set_option maxHeartbeats 4000000
namespace K24
open PySem L2 NS TR
open TM
theorem slice_end {z : Str} {p : Nat} (h : z.cps.toList.length = p) : (Txt.slice z (some (p : Int)) (some ((p : Int) + 1))).cps.toList = [] := by
  have hl : z.length = p := by rw [len_list]; exact h
  have e : Txt.slice z (some (p : Int)) (some ((p : Int) + 1)) = PySem.StrLaws.sliceText z (some (p : Int)) (some ((p : Int) + 1)) := rfl
  have e2 : PySem.StrLaws.sliceText z (some (p : Int)) (some ((p : Int) + 1)) = PySem.StrLaws.sliceText z (some (p : Int)) (some (p : Int)) := by
    unfold PySem.StrLaws.sliceText
    have : PySem.Builtin.Str.strSliceIndices (some (p : Int)) (some ((p : Int) + 1)) 1 z.length = PySem.Builtin.Str.strSliceIndices (some (p : Int)) (some (p : Int)) 1 z.length := by
      rw [hl]
      have e1 : min ((p : Int) + 1) (p : Int) = (p : Int) := by omega
      have e3 : ¬ ((p : Int) + 1 < 0) := by omega
      have e4 : ¬ ((p : Int) < 0) := by omega
      simp [PySem.Builtin.Str.strSliceIndices, e1, e3, e4]
    rw [this]
  rw [e, e2, PySem.StrLaws.sliceText_nat z (Nat.le_refl p) (by omega)]
  simp
section
variable {P : Program} {w : World} {K : PySem.W.Frag} {mg : Str → Option Value} {base : Heap} {T : Adr}
theorem ok_atname (X : Tx K mg T) : FnOk P w K mg base CX0 3 T.qatname T.d_qatname ["_law_text", "_law_way", "_law_cell"] spAtName := by
  have G_qends := (ok_ends (P := P) (w := w) (base := base) X).mono (show 1 ≤ 2 by decide)
  have G_qput := (ok_put (P := P) (w := w) (base := base) X).mono (show 1 ≤ 2 by decide)
  refine X.F_qatname.okQ sc_qatname (fun vs H Q E h => ?_) (fun cdv A outer s H vs Q E hr h => ?_)
  · obtain ⟨_, _, _, rfl, _⟩ := h
    rfl
  obtain ⟨z, way, c, rfl, tz, hz, acc, ⟨p0, hp0⟩, w6, w12, c0, c1, q⟩ := h
  refine ⟨_, (qss_cons (qs_set (i := 3) sc_qatname.nd rfl (Or.inl rfl) (qe_call G_qends hr rfl X.m_qends X.F_qends.kp X.b_qends .nil pass0 (qaN (qv 0) qa_nil))) (qss_cons (qs_set (i := 4) sc_qatname.nd rfl (Or.inl rfl) (qe_ix ix_list (qv 3) (qe_op op_mod (qv 2) (qe_callB call_len_seq rfl X.z_len PySem.boot_len (qaN (qv 3) qa_nil))) (fun _ _ => rfl))) (qss_cons (qs_set (i := 5) sc_qatname.nd rfl (Or.inl rfl) (qe_cmpR op_eq (qe_slice sl_str (qv 0) (qo_some (qv 4)) (qo_some (qe_op op_add (qv 4) qe_int))) qe_str (nomark _))) (qss_cons (qs_if (qt_cmpR op_eq (qv 1) qe_int (nomark _)) (qss_one (qs_ret (qe_call G_qput hr rfl X.m_qput X.F_qput.kp X.b_qput .nil pass0 (qaN (qv 0) (qaN (qv 4) (qaS (qe_ix ix_list (qe_lst (qaC qe_str (qaC qe_str (qaC qe_str qa_nil)))) (qe_op op_mod (qe_op op_fdiv (qv 2) qe_int) qe_int) (fun _ _ => rfl)) qa_nil)))))) qss_nil) (qss_cons (qs_if (qt_cmpR op_eq (qv 1) qe_int (nomark _)) (qss_one (qs_ret (qe_call G_qput hr rfl X.m_qput X.F_qput.kp X.b_qput .nil pass0 (qaN (qv 0) (qaN (qv 4) (qaS (qe_ix ix_list (qe_lst (qaC qe_str (qaC qe_str (qaC qe_str qa_nil)))) (qe_op op_mod (qe_op op_fdiv (qv 2) qe_int) qe_int) (fun _ _ => rfl)) qa_nil)))))) qss_nil) (qss_cons (qs_if (qw_pt (qw_and (qt_cmpR op_eq (qv 1) qe_int (nomark _)) (qw_and1 (qt_not (qt_val (qv 5)))))) (qss_one (qs_ret (qe_call G_qput hr rfl X.m_qput X.F_qput.kp X.b_qput .nil pass0 (qaN (qv 0) (qaN (qv 4) (qaS (qe_ix ix_list (qe_lst (qaC qe_str (qaC qe_str (qaC qe_str qa_nil)))) (qe_op op_mod (qe_op op_fdiv (qv 2) qe_int) qe_int) (fun _ _ => rfl)) qa_nil)))))) qss_nil) (qss_cons (qs_if (qw_pt (qw_and (qt_cmpR op_eq (qv 1) qe_int (nomark _)) (qw_and1 (qt_not (qt_val (qv 5)))))) (qss_one (qs_ret (qe_call G_qput hr rfl X.m_qput X.F_qput.kp X.b_qput .nil pass0 (qaN (qv 0) (qaN (qv 4) (qaB (qe_op op_add_str qe_str (qe_callTy call_str_int rfl X.z_str PyProof.Rows.boot_str (qaB (qe_op op_add (qe_op op_pow qe_int qe_int) (qv 2)) qa_nil))) qa_nil)))))) qss_nil) (qss_cons (qs_if (qw_pt (qw_or (qt_cmpR op_eq (qv 1) qe_int (nomark _)) (qw_or1 (qt_cmpR op_eq (qv 1) qe_int (nomark _))))) (qss_one (qs_ret (qe_call G_qput hr rfl X.m_qput X.F_qput.kp X.b_qput .nil pass0 (qaN (qv 0) (qaB (qe_op op_add (qv 4) qe_int) (qaS (qe_ix ix_list (qe_lst (qaC qe_str (qaB (qe_op op_rep_str qe_str qe_int) qa_nil))) (qe_op op_sub (qv 1) qe_int) (fun _ _ => rfl)) qa_nil)))))) qss_nil) (qss_cons (qs_if (qt_cmpR op_eq (qv 1) qe_int (nomark _)) (qss_one (qs_ret (qe_call G_qput hr rfl X.m_qput X.F_qput.kp X.b_qput .nil pass0 (qaN (qv 0) (qaN (qv 4) (qaS (qe_ix ix_list (qe_lst (qaC qe_str (qaC qe_str (qaB (qe_op op_rep_str qe_str qe_int) qa_nil)))) (qe_op op_mod (qe_op op_fdiv (qv 2) qe_int) qe_int) (fun _ _ => rfl)) qa_nil)))))) qss_nil) (qss_cons (qs_if (qt_cmpR op_eq (qv 1) qe_int (nomark _)) (qss_one (qs_ret (qe_call G_qput hr rfl X.m_qput X.F_qput.kp X.b_qput .nil pass0 (qaN (qv 0) (qaN (qv 4) (qaS (qe_ix ix_list (qe_lst (qaC qe_str (qaC qe_str (qaC qe_str qa_nil)))) (qe_op op_mod (qe_op op_fdiv (qv 2) qe_int) qe_int) (fun _ _ => rfl)) qa_nil)))))) qss_nil) (qss_one (qs_ret (qe_call G_qput hr rfl X.m_qput X.F_qput.kp X.b_qput .nil pass0 (qaN (qv 0) (qaN (qv 4) (qaS (qe_ix ix_list (qe_lst (qaC qe_str (qaC qe_str (qaC qe_str qa_nil)))) (qe_op op_mod (qe_op op_fdiv (qv 2) qe_int) qe_int) (fun _ _ => rfl)) qa_nil)))))))))))))))), ?_⟩
  refine ⟨_, rfl, z, rfl, tz, fun D ps H1 s1 hD hall hin hlen => ?_⟩
  have hpos : 0 < ps.length := List.length_pos_of_mem (hin p0 hp0)
  have lm : (ps.map fun (p : Nat) => V.int (p : Int)).length = ps.length := List.length_map ..
  have j0 := Int.emod_nonneg c (show ((ps.map fun (p : Nat) => V.int (p : Int)).length : Int) ≠ 0 by omega)
  have j1 := Int.emod_lt_of_pos c (show (0 : Int) < ((ps.map fun (p : Nat) => V.int (p : Int)).length : Int) by omega)
  obtain ⟨x, hx, hxm⟩ := atI_in j0 j1
  obtain ⟨p, hpm, rfl⟩ := List.mem_map.mp hxm
  refine ⟨_, rfl, _, rfl, _, rfl, D, _, rfl, .inl (SqL.of hD), _, _, rfl, rfl, by omega, D, _, _, _, rfl, rfl, SqL.of hD, hx, ?_⟩
  obtain ⟨A', B, u, w1, w2, v, eL, hA, a⟩ := at_end acc (hall p hpm)
  have hpl := (endat_le (hall p hpm)).2
  have hzl : z.length = z.cps.toList.length := len_list z
  have lB : z.cps.toList.length = p + B.length := by rw [eL, List.length_append, hA]
  have fin : ∀ (s : Str) (H' : Hp), Same H1 H' → s.length ≤ 1000 → (∀ c ∈ s.cps.toList, c < 128) → ¬ Acc (A' ++ (s.cps.toList ++ B)) → Q (.str (mkS (putL z.cps.toList p s.cps.toList))) H' := fun s H' sm h1 h2 h3 => q _ H' (s1.trans sm) (put_tx tz hz (by rw [len_list] at h1; exact h1) h2) (by rw [mk_list, eL, put_at hA]; exact h3)
  have esl : (Txt.slice z (some (p : Int)) (some ((p : Int) + 1))).cps.toList = B.take 1 := by
    rcases Nat.lt_or_ge p z.cps.toList.length with g | g
    · rw [mid_list p (p + 1) rfl (by omega) (by omega) (by omega), eL]
      rw [lB] at g
      subst hA
      have e2 : A' ++ B = (A' ++ B.take 1) ++ B.drop 1 := by rw [List.append_assoc, List.take_append_drop]
      rw [show A'.length + 1 = (A' ++ B.take 1).length by rw [List.length_append, List.length_take]; omega, e2, List.take_left, List.drop_left]
    · have hB0 : B = [] := List.length_eq_zero_iff.mp (by omega)
      rw [slice_end (by omega), hB0]
      rfl
  refine ⟨_, rfl, _, rfl, _, rfl, _, rfl, _, _, rfl, rfl, _, rfl, z, rfl, fits2 (by omega), rfl, ?_⟩
  have hbm : (w2 = [] ∧ decide (V.str (Txt.slice z (some (p : Int)) (some ((p : Int) + 1))) = V.str ":") = false) ∨ (∃ d, w2 = 58 :: d ∧ d ≠ [] ∧ decide (V.str (Txt.slice z (some (p : Int)) (some ((p : Int) + 1))) = V.str ":") = true) := by
    rcases a.w2d with e | ⟨d, e, hd, _⟩
    · refine .inl ⟨e, decide_eq_false fun h => ?_⟩
      have h := congrArg (fun s : Str => s.cps.toList) (V.str.inj h)
      have h : (Txt.slice z (some (p : Int)) (some ((p : Int) + 1))).cps.toList = (Str.ofString ":").cps.toList := h
      rw [esl, a.eB, e, List.nil_append, show (Str.ofString ":").cps.toList = [58] by decide] at h
      rcases a.ed with ev | ⟨y, r, ev, hy⟩
      · rw [ev] at h; cases h
      · rw [ev] at h
        have : y = 58 := by simpa using h
        rw [this] at hy
        revert hy
        decide
    · refine .inr ⟨d, e, hd, decide_eq_true (congrArg V.str (str_ext ?_))⟩
      rw [esl, a.eB, e]
      rfl
  generalize decide (V.str (Txt.slice z (some (p : Int)) (some ((p : Int) + 1))) = V.str ":") = bm at hbm ⊢
  have hw : way = 6 ∨ way = 7 ∨ way = 8 ∨ way = 9 ∨ way = 10 ∨ way = 11 ∨ way = 12 := by omega
  rcases hw with rfl | rfl | rfl | rfl | rfl | rfl | rfl
  ·
      refine ⟨_, rfl, rfl, _, rfl, iteYd rfl ?_⟩
      have m0 := Int.emod_nonneg (c / 7) (show (3 : Int) ≠ 0 by decide)
      have m1 := Int.emod_lt_of_pos (c / 7) (show (0 : Int) < 3 by decide)
      obtain ⟨s, hs, hm⟩ := at_of (zs := [":", ": ", "::"]) (m := c / 7 % 3) m0 m1
      have fw := few6 s (by simp only [List.mem_cons, List.mem_nil_iff, or_false] at hm ⊢; rcases hm with rfl | rfl | rfl <;> simp)
      refine ⟨_, rfl, _, rfl, (by show 3 ≤ sizeLine; decide), fun l hl => ?_⟩
      have s2 := same_new hl (.lst [V.str ":", V.str ": ", V.str "::"])
      exact ⟨_, rfl, _, _, rfl, rfl, ⟨by decide, by decide⟩, _, _, rfl, rfl, (by show (0 : Int) < 3; decide), l, _, _, _, rfl, rfl, SqL.of upd_same, hs, z, s, p, rfl, by omega, fw.1, by omega, fin s _ s2 fw.1 fw.2 (bad6 a s hm)⟩
  ·
      refine ⟨_, rfl, rfl, _, rfl, iteNd (by decide) ⟨_, rfl, rfl, _, rfl, iteYd rfl ?_⟩⟩
      have m0 := Int.emod_nonneg (c / 7) (show (3 : Int) ≠ 0 by decide)
      have m1 := Int.emod_lt_of_pos (c / 7) (show (0 : Int) < 3 by decide)
      obtain ⟨s, hs, hm⟩ := at_of (zs := ["5", "0x", "9:"]) (m := c / 7 % 3) m0 m1
      have fw := few6 s (by simp only [List.mem_cons, List.mem_nil_iff, or_false] at hm ⊢; rcases hm with rfl | rfl | rfl <;> simp)
      refine ⟨_, rfl, _, rfl, (by show 3 ≤ sizeLine; decide), fun l hl => ?_⟩
      have s2 := same_new hl (.lst [V.str "5", V.str "0x", V.str "9:"])
      exact ⟨_, rfl, _, _, rfl, rfl, ⟨by decide, by decide⟩, _, _, rfl, rfl, (by show (0 : Int) < 3; decide), l, _, _, _, rfl, rfl, SqL.of upd_same, hs, z, s, p, rfl, by omega, fw.1, by omega, fin s _ s2 fw.1 fw.2 (bad7 a s hm)⟩
  ·
    rcases hbm with ⟨e, rfl⟩ | ⟨d, e, hd, rfl⟩
    · subst e
      refine ⟨_, rfl, rfl, _, rfl, iteNd (by decide) ⟨_, rfl, rfl, _, rfl, iteNd (by decide) ⟨_, rfl, rfl, _, rfl, iteYd rfl ⟨_, rfl, _, rfl, iteT ?_⟩⟩⟩⟩
      have m0 := Int.emod_nonneg (c / 7) (show (3 : Int) ≠ 0 by decide)
      have m1 := Int.emod_lt_of_pos (c / 7) (show (0 : Int) < 3 by decide)
      obtain ⟨s, hs, hm⟩ := at_of (zs := [":0", ":00", ":07"]) (m := c / 7 % 3) m0 m1
      have fw := few6 s (by simp only [List.mem_cons, List.mem_nil_iff, or_false] at hm ⊢; rcases hm with rfl | rfl | rfl <;> simp)
      refine ⟨_, rfl, _, rfl, (by show 3 ≤ sizeLine; decide), fun l hl => ?_⟩
      have s2 := same_new hl (.lst [V.str ":0", V.str ":00", V.str ":07"])
      exact ⟨_, rfl, _, _, rfl, rfl, ⟨by decide, by decide⟩, _, _, rfl, rfl, (by show (0 : Int) < 3; decide), l, _, _, _, rfl, rfl, SqL.of upd_same, hs, z, s, p, rfl, by omega, fw.1, by omega, fin s _ s2 fw.1 fw.2 (bad8 a s hm)⟩
    · subst e
      have lb : 1 ≤ B.length := by rw [a.eB]; simp
      refine ⟨_, rfl, rfl, _, rfl, iteNd (by decide) ⟨_, rfl, rfl, _, rfl, iteNd (by decide) ⟨_, rfl, rfl, _, rfl, iteYd rfl ⟨_, rfl, _, rfl, iteF ?_⟩⟩⟩⟩
      refine ⟨_, rfl, rfl, _, rfl, iteNd (by decide) ?_⟩
      refine ⟨_, rfl, rfl, _, rfl, iteYd rfl ?_⟩
      refine ⟨_, rfl, _, rfl, _, _, rfl, rfl, _, _, rfl, rfl, (by decide), (by decide), (by decide), (by show 2 ≤ sizeLine; decide), fun l hl => ?_⟩
      have s2 := same_new hl (.lst [V.str "0", V.str (Txt.mul (Str.ofString "1") 18)])
      refine ⟨_, rfl, _, _, rfl, rfl, l, _, _, _, rfl, rfl, SqL.of upd_same, rfl, z, Str.ofString "0", p + 1, ?_, by omega, (by decide +kernel), by omega, ?_⟩
      · exact congrArg (fun i => [V.str z, V.int i, V.str _]) (show (p : Int) + 1 = ((p + 1 : Nat) : Int) by omega)
      · refine q _ _ (s1.trans s2) (put_tx tz hz (by decide +kernel) (by decide +kernel)) ?_
        have eB := a.eB
        have ep : putL z.cps.toList (p + 1) (Str.ofString "0").cps.toList = A' ++ (58 :: (Str.ofString "0").cps.toList ++ (d ++ v)) := by
          rw [eL, eB, show A' ++ (58 :: d ++ v) = (A' ++ [58]) ++ (d ++ v) by simp, put_at (by simp [hA])]
          simp
        rw [mk_list, ep]
        rw [show (Str.ofString "0").cps.toList = [48] by decide]
        exact bad_m0 a hd
  · rcases hbm with ⟨e, rfl⟩ | ⟨d, e, hd, rfl⟩
    · subst e
      have e18 : (10 ^ Int.toNat 18 : Int) = 1000000000000000000 := by decide
      have b0 : (1000000000000000000 : Int) ≤ 10 ^ Int.toNat 18 + c := by rw [e18]; omega
      have b1 : (10 ^ Int.toNat 18 + c : Int) < 10000000000000000000 := by rw [e18]; omega
      have b2 : (0 : Int) ≤ 10 ^ Int.toNat 18 + c := by rw [e18]; omega
      have bn := big_num b0 b1
      have lc : (Str.ofString ":").length = 1 := by decide
      have ld : (Str.ofString (toString (10 ^ Int.toNat 18 + c : Int))).length ≤ 19 := by rw [len_list]; exact bn.2
      have hf := num_figs b2
      have el : (Str.ofString ":" ++ Str.ofString (toString (10 ^ Int.toNat 18 + c : Int))).cps.toList = 58 :: (Str.ofString (toString (10 ^ Int.toNat 18 + c : Int))).cps.toList := by rw [app_list]; rfl
      refine ⟨_, rfl, rfl, _, rfl, iteNd (by decide) ⟨_, rfl, rfl, _, rfl, iteNd (by decide) ⟨_, rfl, rfl, _, rfl, iteNd (by decide) ⟨_, rfl, rfl, _, rfl, iteYd rfl ⟨_, rfl, _, rfl, iteT ?_⟩⟩⟩⟩⟩
      refine ⟨_, rfl, _, rfl, _, _, rfl, rfl, ⟨by decide, by decide, by decide⟩, _, rfl, _, _, rfl, rfl, _, rfl, big_log b2 b1, _, _, rfl, rfl, fits2 (by rw [lc]; exact Nat.le_trans (Nat.add_le_add_left ld 1) (by decide)), z, _, p, rfl, by omega, (by rw [app_len, lc]; exact Nat.le_trans (Nat.add_le_add_left ld 1) (by decide)), by omega, fin (Str.ofString ":" ++ Str.ofString (toString (10 ^ Int.toNat 18 + c : Int))) H1 (Same.refl _) ?_ ?_ ?_⟩
      · rw [app_len, lc]; exact Nat.le_trans (Nat.add_le_add_left ld 1) (by decide)
      · intro x hx
        rw [el] at hx
        rcases List.mem_cons.mp hx with rfl | hx
        · decide
        · exact fig_lt (hf x hx)
      · rw [el]
        exact no_mark a (fun x hx => stp_fig (hf x hx)) (.inr (num_no (.inr (.inl (by rw [List.append_nil]; exact bn.1)))))
    · subst e
      have lb : 1 ≤ B.length := by rw [a.eB]; simp
      refine ⟨_, rfl, rfl, _, rfl, iteNd (by decide) ⟨_, rfl, rfl, _, rfl, iteNd (by decide) ⟨_, rfl, rfl, _, rfl, iteNd (by decide) ⟨_, rfl, rfl, _, rfl, iteYd rfl ⟨_, rfl, _, rfl, iteF ?_⟩⟩⟩⟩⟩
      refine ⟨_, rfl, rfl, _, rfl, iteNd (by decide) ⟨_, rfl, rfl, _, rfl, iteYd rfl ?_⟩⟩
      refine ⟨_, rfl, _, rfl, _, _, rfl, rfl, _, _, rfl, rfl, (by decide), (by decide), (by decide), (by show 2 ≤ sizeLine; decide), fun l hl => ?_⟩
      have s2 := same_new hl (.lst [V.str "0", V.str (Txt.mul (Str.ofString "1") 18)])
      refine ⟨_, rfl, _, _, rfl, rfl, l, _, _, _, rfl, rfl, SqL.of upd_same, rfl, z, Txt.mul (Str.ofString "1") 18, p + 1, ?_, by omega, (by decide +kernel), by omega, ?_⟩
      · exact congrArg (fun i => [V.str z, V.int i, V.str _]) (show (p : Int) + 1 = ((p + 1 : Nat) : Int) by omega)
      · refine q _ _ (s1.trans s2) (put_tx tz hz (by decide +kernel) (by decide +kernel)) ?_
        have eB := a.eB
        have ep : putL z.cps.toList (p + 1) (Txt.mul (Str.ofString "1") 18).cps.toList = A' ++ (58 :: (Txt.mul (Str.ofString "1") 18).cps.toList ++ (d ++ v)) := by
          rw [eL, eB, show A' ++ (58 :: d ++ v) = (A' ++ [58]) ++ (d ++ v) by simp, put_at (by simp [hA])]
          simp
        rw [mk_list, ep]
        exact bad_m1 a hd (by decide +kernel) (by decide +kernel)
  ·
      refine ⟨_, rfl, rfl, _, rfl, iteNd (by decide) ⟨_, rfl, rfl, _, rfl, iteNd (by decide) ⟨_, rfl, rfl, _, rfl, iteNd (by decide) ⟨_, rfl, rfl, _, rfl, iteNd (by decide) ⟨_, rfl, rfl, _, rfl, iteNd (by decide) ⟨_, rfl, rfl, _, rfl, iteNd (by decide) ⟨_, rfl, rfl, _, rfl, iteYd rfl ?_⟩⟩⟩⟩⟩⟩⟩
      have m0 := Int.emod_nonneg (c / 7) (show (3 : Int) ≠ 0 by decide)
      have m1 := Int.emod_lt_of_pos (c / 7) (show (0 : Int) < 3 by decide)
      obtain ⟨s, hs, hm⟩ := at_of (zs := [":a", ":1a", Txt.mul (Str.ofString "a") 8]) (m := c / 7 % 3) m0 m1
      rw [eight] at hm
      have fw := few6 s (by simp only [List.mem_cons, List.mem_nil_iff, or_false] at hm ⊢; rcases hm with rfl | rfl | rfl <;> simp)
      refine ⟨_, rfl, _, rfl, _, _, rfl, rfl, (by decide), (by decide), (by decide), (by show 3 ≤ sizeLine; decide), fun l hl => ?_⟩
      have s2 := same_new hl (.lst [V.str ":a", V.str ":1a", V.str (Txt.mul (Str.ofString "a") 8)])
      exact ⟨_, rfl, _, _, rfl, rfl, ⟨by decide, by decide⟩, _, _, rfl, rfl, (by show (0 : Int) < 3; decide), l, _, _, _, rfl, rfl, SqL.of upd_same, hs, z, s, p, rfl, by omega, fw.1, by omega, fin s _ s2 fw.1 fw.2 (bad10 a s hm)⟩
  ·
      refine ⟨_, rfl, rfl, _, rfl, iteNd (by decide) ⟨_, rfl, rfl, _, rfl, iteNd (by decide) ⟨_, rfl, rfl, _, rfl, iteNd (by decide) ⟨_, rfl, rfl, _, rfl, iteNd (by decide) ⟨_, rfl, rfl, _, rfl, iteNd (by decide) ⟨_, rfl, rfl, _, rfl, iteNd (by decide) ⟨_, rfl, rfl, _, rfl, iteNd (by decide) ⟨_, rfl, rfl, _, rfl, iteYd rfl ?_⟩⟩⟩⟩⟩⟩⟩⟩
      have m0 := Int.emod_nonneg (c / 7) (show (3 : Int) ≠ 0 by decide)
      have m1 := Int.emod_lt_of_pos (c / 7) (show (0 : Int) < 3 by decide)
      obtain ⟨s, hs, hm⟩ := at_of (zs := ["()", "( )", "(())"]) (m := c / 7 % 3) m0 m1
      have fw := few6 s (by simp only [List.mem_cons, List.mem_nil_iff, or_false] at hm ⊢; rcases hm with rfl | rfl | rfl <;> simp)
      refine ⟨_, rfl, _, rfl, (by show 3 ≤ sizeLine; decide), fun l hl => ?_⟩
      have s2 := same_new hl (.lst [V.str "()", V.str "( )", V.str "(())"])
      exact ⟨_, rfl, _, _, rfl, rfl, ⟨by decide, by decide⟩, _, _, rfl, rfl, (by show (0 : Int) < 3; decide), l, _, _, _, rfl, rfl, SqL.of upd_same, hs, z, s, p, rfl, by omega, fw.1, by omega, fin s _ s2 fw.1 fw.2 (bad11 s hm)⟩
  ·
      refine ⟨_, rfl, rfl, _, rfl, iteNd (by decide) ⟨_, rfl, rfl, _, rfl, iteNd (by decide) ⟨_, rfl, rfl, _, rfl, iteNd (by decide) ⟨_, rfl, rfl, _, rfl, iteNd (by decide) ⟨_, rfl, rfl, _, rfl, iteNd (by decide) ⟨_, rfl, rfl, _, rfl, iteNd (by decide) ⟨_, rfl, rfl, _, rfl, iteNd (by decide) ⟨_, rfl, rfl, _, rfl, iteNd (by decide) ?_⟩⟩⟩⟩⟩⟩⟩⟩
      have m0 := Int.emod_nonneg (c / 7) (show (3 : Int) ≠ 0 by decide)
      have m1 := Int.emod_lt_of_pos (c / 7) (show (0 : Int) < 3 by decide)
      obtain ⟨s, hs, hm⟩ := at_of (zs := [":12 ", ":3()", "  "]) (m := c / 7 % 3) m0 m1
      have fw := few6 s (by simp only [List.mem_cons, List.mem_nil_iff, or_false] at hm ⊢; rcases hm with rfl | rfl | rfl <;> simp)
      refine ⟨_, rfl, _, rfl, (by show 3 ≤ sizeLine; decide), fun l hl => ?_⟩
      have s2 := same_new hl (.lst [V.str ":12 ", V.str ":3()", V.str "  "])
      exact ⟨_, rfl, _, _, rfl, rfl, ⟨by decide, by decide⟩, _, _, rfl, rfl, (by show (0 : Int) < 3; decide), l, _, _, _, rfl, rfl, SqL.of upd_same, hs, z, s, p, rfl, by omega, fw.1, by omega, fin s _ s2 fw.1 fw.2 (bad12 a s hm)⟩
end
end K24
set_option Elab.async false
set_option linter.all false
set_option maxRecDepth 100000
set_option maxHeartbeats 4000000
namespace K24
open PySem L2 NS TR
open TM
theorem boot_VE : bootBuiltins "ValueError" = some (.type "ValueError") := by decide +kernel
theorem call_isxC {X : Cx} {K : PySem.W.Frag} (h : X.K = K) : CallR X (.builtin "isinstance") (fun xs H Q => ∃ (a C : Addr) (v : V) (b : Bool), xs = [.ref a, v] ∧ H a = some (excO a C) ∧ XCls K C ∧
    ((∃ D, v = .ref D ∧ PySem.W.kitOne K (.ref C) (.ref D) = some b) ∨ (∃ T, v = .ty T ∧ PySem.W.kitOne K (.ref C) (.type T) = some b) ∨ (∃ (p : Addr) (ds : List Addr), v = .ref p ∧ H p = some (.tup (ds.map V.ref)) ∧ PySem.W.kitAny K (.ref C) (ds.map Value.ref) = some b)) ∧ Q (.bl b) H) := h ▸ call_isx
theorem isds1 {K : PySem.W.Frag} {H : Hp} {b : Bool} : Isds K H [.fl (.bl b)] [.bl b] := isds_cons (by unfold Isd; exact ⟨rfl, rfl⟩) isds_nil
theorem isds3 {K : PySem.W.Frag} {H : Hp} {a b c : Bool} : Isds K H [.fl (.bl a), .fl (.bl b), .fl (.bl c)] [.bl a, .bl b, .bl c] := isds_cons (by unfold Isd; exact ⟨rfl, rfl⟩) (isds_cons (by unfold Isd; exact ⟨rfl, rfl⟩) isds1)
theorem isds4 {K : PySem.W.Frag} {H : Hp} {a b c d : Bool} : Isds K H [.fl (.bl a), .fl (.bl b), .fl (.bl c), .fl (.bl d)] [.bl a, .bl b, .bl c, .bl d] := isds_cons (by unfold Isd; exact ⟨rfl, rfl⟩) isds3
def spRefT : Sp := fun vs H Q _ => ∃ (z : Str) (g : Bool), vs = [.str z, .bl g] ∧ TxOk z ∧ ((g = false ∧ Bad z) ∨ (g = true ∧ ∃ t, z = shT t ∧ Wt t ∧ size t ≤ 160 ∧ (60 < size t ∨ 20 < deep t))) ∧ ∀ H', Same H H' → Q (.bl true) H'
def spDeepT : Sp := fun vs H Q _ => ∃ (m : Nat) (c : Int), vs = [.int (m : Int), .int c] ∧ 1 ≤ m ∧ m ≤ 160 ∧ 0 ≤ c ∧ c < 1000000000000000000 ∧ ∀ t v H', Same H H' → TrIs H' t v → Wt t → size t = m → deep t = m → Q v H'
theorem nmA : NmOk (Str.ofString "a") := ⟨by decide, by decide, by decide⟩
theorem nmb : NmOk (Str.ofString "b") := ⟨by decide, by decide, by decide⟩
theorem nmc : NmOk (Str.ofString "c") := ⟨by decide, by decide, by decide⟩
theorem nmd : NmOk (Str.ofString "d") := ⟨by decide, by decide, by decide⟩
section
variable {P : Program} {w : World} {K : PySem.W.Frag} {mg : Str → Option Value} {base : Heap} {T : Adr}
theorem ok_refT (X : Tx K mg T) : FnOk P w K mg base CX0 6 T.qrefused T.d_qrefused ["_law_text", "_law_great"] spRefT := by
  have G_qreadtree := ok_rdT (P := P) (w := w) (base := base) X
  refine X.F_qrefused.okQ sc_qrefused (fun vs H Q E h => ?_) (fun cdv A outer s H vs Q E hr h => ?_)
  · obtain ⟨_, _, rfl, _⟩ := h
    rfl
  obtain ⟨z, g, rfl, tz, hor, k⟩ := h
  refine ⟨_, (qss_cons (qs_set (i := 2) sc_qrefused.nd rfl (Or.inl rfl) (qe_lst qa_nil)) (qss_cons (qs_try (i := 3) G_qreadtree hr rfl X.m_qreadtree X.F_qreadtree.kp X.b_qreadtree (qaN (qv 0) qa_nil) rfl X.m_LeafError X.e_LeafError sc_qrefused.nd rfl rfl rfl rfl rfl (fun _ => (qss_cons (qs_set (i := 2) sc_qrefused.nd rfl (Or.inl rfl) (qe_lst (qaK (qe_callB (call_isxC (K := K) rfl) rfl X.z_isinstance PyProof.Rows.boot_isinstance (qaN (qv 3) (qaN (qe_glob rfl X.m_NoText (v := V.ref T.k_NoText) rfl) qa_nil))) (qaK (qe_callB (call_isxC (K := K) rfl) rfl X.z_isinstance PyProof.Rows.boot_isinstance (qaN (qv 3) (qaN (qe_glob rfl X.m_TooGreat (v := V.ref T.k_TooGreat) rfl) qa_nil))) (qaK (qe_callB (call_isxC (K := K) rfl) rfl X.z_isinstance PyProof.Rows.boot_isinstance (qaN (qv 3) (qaN (qe_bltn rfl X.z_ValueError boot_VE rfl (v := .ty "ValueError")) qa_nil))) qa_nil))))) (qss_one (qs_expr (qe_bmC (K := K) rfl PySem.F.plainAttrs_list PySem.F.slot_list_append PySem.F.type_list_append mt_append (qv 2) (qaK (qe_callB (call_isxC (K := K) rfl) rfl X.z_isinstance PyProof.Rows.boot_isinstance (qaN (qv 3) (qaT (qe_tup (qaN (qe_glob rfl X.m_NoName (v := V.ref T.k_NoName) rfl) (qaN (qe_glob rfl X.m_NoRule (v := V.ref T.k_NoRule) rfl) (qaN (qe_glob rfl X.m_NoKind (v := V.ref T.k_NoKind) rfl) (qaN (qe_glob rfl X.m_NoTree (v := V.ref T.k_NoTree) rfl) (qaN (qe_glob rfl X.m_NoPlace (v := V.ref T.k_NoPlace) rfl) (qaN (qe_glob rfl X.m_NoGiven (v := V.ref T.k_NoGiven) rfl) (qaN (qe_glob rfl X.m_NoWalk (v := V.ref T.k_NoWalk) rfl) (qaN (qe_glob rfl X.m_Ring (v := V.ref T.k_Ring) rfl) qa_nil))))))))) qa_nil))) qa_nil))))))) (qss_one (qs_ret (qe_cmpR (op_eqD hr.units) (qv 2) (qe_lst (qaU (qe_not (qv 1)) (qaN (qv 1) (qaC qe_bl (qaC qe_bl qa_nil))))) (nomark _)))))), ?_⟩
  refine ⟨(by show 0 ≤ sizeLine; decide), fun o1 ho1 => ?_⟩
  have O1 := same_new ho1 (.lst [])
  generalize upd H o1 (.lst []) = H1 at O1 ⊢
  rcases hor with ⟨rfl, bad⟩ | ⟨rfl, t, ez, wt, hz, hg⟩
  · refine ⟨_, rfl, z, rfl, tz, .inr ⟨bad, fun H2 s2 => ?_⟩⟩
    refine ⟨T.k_NoText, rfl, X.e_NoText, X.u_NoText_LeafError, fun ex hex => ?_⟩
    have E1 := same_new hex (excO ex T.k_NoText)
    refine ⟨_, rfl, ex, T.k_NoText, _, _, rfl, upd_same, X.x_NoText, .inl ⟨_, rfl, X.i_NoText_0⟩, ?_⟩
    refine ⟨_, rfl, ex, T.k_NoText, _, _, rfl, upd_same, X.x_NoText, .inl ⟨_, rfl, X.i_NoText_1⟩, ?_⟩
    refine ⟨_, rfl, ex, T.k_NoText, _, _, rfl, upd_same, X.x_NoText, .inr (.inl ⟨_, rfl, X.i_NoText_2⟩), (by show 3 ≤ sizeLine; decide), fun p1 hp1 => ?_⟩
    have E2 := same_new hp1 (.lst [.bl true, .bl false, .bl true])
    have hp1' := upd_same (H := upd H2 ex (excO ex T.k_NoText)) (a := p1) (o := .lst [.bl true, .bl false, .bl true])
    have hex' := E2 _ _ (upd_same (H := H2) (a := ex) (o := excO ex T.k_NoText))
    have np1 : H p1 = none := (O1.trans (s2.trans E1)).free hp1
    refine ⟨_, rfl, .inl ⟨rfl, _, SqL.of hp1'⟩, _, rfl, (by show 8 ≤ sizeLine; decide), fun tp htp => ?_⟩
    have E3 := same_new htp (.tup ([T.k_NoName, T.k_NoRule, T.k_NoKind, T.k_NoTree, T.k_NoPlace, T.k_NoGiven, T.k_NoWalk, T.k_Ring].map V.ref))
    refine ⟨ex, T.k_NoText, _, _, rfl, E3 _ _ hex', X.x_NoText, .inr (.inr ⟨tp, [T.k_NoName, T.k_NoRule, T.k_NoKind, T.k_NoTree, T.k_NoPlace, T.k_NoGiven, T.k_NoWalk, T.k_Ring], rfl, upd_same, X.i_NoText_3⟩), p1, _, _, rfl, rfl, E3 _ _ hp1', (by show 3 < sizeLine; decide), ?_⟩
    refine ⟨_, rfl, _, rfl, _, rfl, _, rfl, (by show 4 ≤ sizeLine; decide), fun r1 hr1 => ?_⟩
    have E5 := same_new hr1 (.lst [.bl true, .bl false, .bl true, .bl false])
    refine ⟨p1, r1, [.bl true, .bl false, .bl true, .bl false], [.bl true, .bl false, .bl true, .bl false], [.fl (.bl true), .fl (.bl false), .fl (.bl true), .fl (.bl false)], [.fl (.bl true), .fl (.bl false), .fl (.bl true), .fl (.bl false)], rfl, rfl, .inr ⟨SqL.of (E5 _ _ upd_same), SqL.of upd_same⟩, isds4, isds4, by decide, ?_⟩
    exact k _ ((same_upd np1 (O1.trans (s2.trans (E1.trans (E2.trans E3))))).trans E5)
  · refine ⟨_, rfl, z, rfl, tz, .inl ⟨t, ez, wt, hz, (fun h1 h2 => by omega), fun _ H2 s2 => ?_⟩⟩
    refine ⟨T.k_TooGreat, rfl, X.e_TooGreat, X.u_TooGreat_LeafError, fun ex hex => ?_⟩
    have E1 := same_new hex (excO ex T.k_TooGreat)
    refine ⟨_, rfl, ex, T.k_TooGreat, _, _, rfl, upd_same, X.x_TooGreat, .inl ⟨_, rfl, X.i_TooGreat_0⟩, ?_⟩
    refine ⟨_, rfl, ex, T.k_TooGreat, _, _, rfl, upd_same, X.x_TooGreat, .inl ⟨_, rfl, X.i_TooGreat_1⟩, ?_⟩
    refine ⟨_, rfl, ex, T.k_TooGreat, _, _, rfl, upd_same, X.x_TooGreat, .inr (.inl ⟨_, rfl, X.i_TooGreat_2⟩), (by show 3 ≤ sizeLine; decide), fun p1 hp1 => ?_⟩
    have E2 := same_new hp1 (.lst [.bl false, .bl true, .bl true])
    have hp1' := upd_same (H := upd H2 ex (excO ex T.k_TooGreat)) (a := p1) (o := .lst [.bl false, .bl true, .bl true])
    have hex' := E2 _ _ (upd_same (H := H2) (a := ex) (o := excO ex T.k_TooGreat))
    have np1 : H p1 = none := (O1.trans (s2.trans E1)).free hp1
    refine ⟨_, rfl, .inl ⟨rfl, _, SqL.of hp1'⟩, _, rfl, (by show 8 ≤ sizeLine; decide), fun tp htp => ?_⟩
    have E3 := same_new htp (.tup ([T.k_NoName, T.k_NoRule, T.k_NoKind, T.k_NoTree, T.k_NoPlace, T.k_NoGiven, T.k_NoWalk, T.k_Ring].map V.ref))
    refine ⟨ex, T.k_TooGreat, _, _, rfl, E3 _ _ hex', X.x_TooGreat, .inr (.inr ⟨tp, [T.k_NoName, T.k_NoRule, T.k_NoKind, T.k_NoTree, T.k_NoPlace, T.k_NoGiven, T.k_NoWalk, T.k_Ring], rfl, upd_same, X.i_TooGreat_3⟩), p1, _, _, rfl, rfl, E3 _ _ hp1', (by show 3 < sizeLine; decide), ?_⟩
    refine ⟨_, rfl, _, rfl, _, rfl, _, rfl, (by show 4 ≤ sizeLine; decide), fun r1 hr1 => ?_⟩
    have E5 := same_new hr1 (.lst [.bl false, .bl true, .bl true, .bl false])
    refine ⟨p1, r1, [.bl false, .bl true, .bl true, .bl false], [.bl false, .bl true, .bl true, .bl false], [.fl (.bl false), .fl (.bl true), .fl (.bl true), .fl (.bl false)], [.fl (.bl false), .fl (.bl true), .fl (.bl true), .fl (.bl false)], rfl, rfl, .inr ⟨SqL.of (E5 _ _ upd_same), SqL.of upd_same⟩, isds4, isds4, by decide, ?_⟩
    exact k _ ((same_upd np1 (O1.trans (s2.trans (E1.trans (E2.trans E3))))).trans E5)

theorem ok_deepT (X : Tx K mg T) : FnOk P w K mg base CX0 1 T.qdeep T.d_qdeep ["_law_level", "_law_cell"] spDeepT := by
  refine X.F_qdeep.okQ sc_qdeep (fun vs H Q E h => ?_) (fun cdv A outer s H vs Q E hr h => ?_)
  · obtain ⟨_, _, rfl, _⟩ := h
    rfl
  obtain ⟨m, c, rfl, m1, m2, c0, c1, q⟩ := h
  refine ⟨_, (qss_cons (qs_set (i := 2) sc_qdeep.nd rfl (Or.inl rfl) (qe_tup (qaC qe_str (qaN (qv 1) (qaT (qe_tup qa_nil) qa_nil))))) (qss_cons (qs_for PassesOwn.never rfl (qi_range1 rfl X.z_range (qaB (qe_op op_sub (qv 0) qe_int) qa_nil)) (qg_name (i := 3) sc_qdeep.nd rfl (Or.inl rfl)) (qss_one (qs_set (i := 2) sc_qdeep.nd rfl (Or.inl rfl) (qe_tup (qaC qe_str (qaN (qv 3) (qaT (qe_tup (qaN (qv 2) qa_nil)) qa_nil))))))) (qss_one (qs_ret (qv 2))))), ?_⟩
  refine ⟨_, rfl, (by show 0 ≤ sizeLine; decide), fun e he => ⟨(by show 3 ≤ sizeLine; decide), fun p0 hp0 => ?_⟩⟩
  have s1 := same_new he (.tup [])
  have s2 := same_new hp0 (.tup [.str "a", .int c, .ref e])
  have t0 : TrIs (upd (upd H e (.tup [])) p0 (.tup [.str "a", .int c, .ref e])) (.node "a" c []) (.ref p0) := TrIs.cl upd_same (s2 _ _ upd_same) .nil
  refine ⟨_, rfl, _, _, rfl, rfl, _, rfl, by omega, by omega, ?_⟩
  refine for_range (n := ((m : Int) - 1).toNat) (fun i σ H' => Same H H' ∧ ∃ t v x3, σ = [some (.int (m : Int)), some (.int c), some v, x3] ∧ TrIs H' t v ∧ Wt t ∧ size t = i + 1 ∧ deep t = i + 1)
    ⟨s1.trans s2, _, _, none, rfl, t0, .node nmA c0 c1 (fun b hb => nomatch hb), by rw [size, sizes], by rw [deep, deeps]⟩ ?_ ?_
  · rintro i σ H' hi ⟨sm, t, v, x3, rfl, ht, wt, hs, hd⟩
    refine ⟨_, rfl, _, rfl, (by show 1 ≤ sizeLine; decide), fun p1 hp1 => ⟨(by show 3 ≤ sizeLine; decide), fun p2 hp2 => ?_⟩⟩
    have s3 := same_new hp1 (.tup [v])
    have s4 := same_new hp2 (.tup [.str "b", .int (0 + (i : Int)), .ref p1])
    refine ⟨sm.trans (s3.trans s4), .node "b" (0 + (i : Int)) [t], _, _, rfl, TrIs.cl upd_same (s4 _ _ upd_same) (.cons (TrIs.same (sameT (s3.trans s4)) _ ht) .nil), .node nmb (by omega) (by omega) (fun b hb => by rw [List.mem_singleton.mp hb]; exact wt), by rw [size, sizes, sizes]; omega, by rw [deep, deeps, deeps]; omega⟩
  · rintro σ H' ⟨sm, t, v, x3, rfl, ht, wt, hs, hd⟩
    exact ⟨_, rfl, q t v H' sm ht wt (by omega) (by omega)⟩
end
end K24
set_option Elab.async false
set_option linter.all false
set_option maxRecDepth 100000
set_option maxHeartbeats 4000000
namespace K24
open PySem L2 NS TR
open TM
def spWideT : Sp := fun vs H Q _ => ∃ (m : Nat) (c : Int), vs = [.int (m : Int), .int c] ∧ 60 ≤ m ∧ m ≤ 160 ∧ 0 ≤ c ∧ c < 1000000000000000000 ∧ ∀ t v H', Same H H' → TrIs H' t v → Wt t → size t = m → deep t ≤ 20 → Q v H'
theorem l2r_rep {α : Type} {R : α → V → Prop} {a : α} {v : V} (h : R a v) : ∀ n, L2R R (List.replicate n a) (List.replicate n v)
  | 0 => .nil
  | n + 1 => .cons h (l2r_rep h n)
theorem sizes_app' : ∀ (as bs : List Tr), sizes (as ++ bs) = sizes as + sizes bs
  | [], bs => by rw [List.nil_append, sizes]; omega
  | a :: as, bs => by rw [List.cons_append, sizes, sizes, sizes_app' as bs]; omega
theorem sizes_rep (t : Tr) : ∀ n, sizes (List.replicate n t) = n * size t
  | 0 => by rw [List.replicate_zero, sizes]; omega
  | n + 1 => by rw [List.replicate_succ, sizes, sizes_rep t n, Nat.succ_mul]; omega
theorem deeps_le {d : Nat} : ∀ {ts : List Tr}, (∀ t ∈ ts, deep t ≤ d) → deeps ts ≤ d
  | [], _ => by rw [deeps]; omega
  | t :: ts, h => by
    rw [deeps]
    have h1 := h t (by simp)
    have h2 := deeps_le fun x hx => h x (List.mem_cons_of_mem t hx)
    omega
section
variable {P : Program} {w : World} {K : PySem.W.Frag} {mg : Str → Option Value} {base : Heap} {T : Adr}
theorem ok_wideT (X : Tx K mg T) : FnOk P w K mg base CX0 1 T.qwide T.d_qwide ["_law_many", "_law_cell"] spWideT := by
  refine X.F_qwide.okQ sc_qwide (fun vs H Q E h => ?_) (fun cdv A outer s H vs Q E hr h => ?_)
  · obtain ⟨_, _, rfl, _⟩ := h
    rfl
  obtain ⟨m, c, rfl, m1, m2, c0, c1, q⟩ := h
  refine ⟨_, (qss_cons (qs_set (i := 2) sc_qwide.nd rfl (Or.inl rfl) (qe_op op_rep (qe_lst (qaT (qe_tup (qaC qe_str (qaC qe_int (qaT (qe_tup qa_nil) qa_nil)))) qa_nil)) (qe_op op_sub (qv 0) qe_int))) (qss_cons (qs_expr (qe_bm PySem.F.plainAttrs_list PySem.F.slot_list_insert PySem.F.type_list_insert mt_insert (qv 2) (qaB (qe_op op_mod (qv 1) (qe_op op_sub (qv 0) qe_int)) (qaT (qe_tup (qaC qe_str (qaC qe_int (qaT (qe_tup (qaT (qe_tup (qaC qe_str (qaC qe_int (qaT (qe_tup qa_nil) qa_nil)))) qa_nil)) qa_nil)))) qa_nil)))) (qss_one (qs_ret (qe_tup (qaC qe_str (qaN (qv 1) (qaK (qe_callTy call_tuple_of rfl X.z_tuple PyProof.Rows.boot_tuple (qaN (qv 2) qa_nil)) qa_nil)))))))), ?_⟩
  refine ⟨(by show 0 ≤ sizeLine; decide), fun e he => ⟨(by show 3 ≤ sizeLine; decide), fun pb hpb => ⟨(by show 1 ≤ sizeLine; decide), fun l1 hl1 => ?_⟩⟩⟩
  have s1 := same_new he (.tup [])
  have s2 := same_new hpb (.tup [.str "b", .int 0, .ref e])
  have s3 := same_new hl1 (.lst [.ref pb])
  have tb : TrIs (upd (upd H e (.tup [])) pb (.tup [.str "b", .int 0, .ref e])) (.node "b" 0 []) (.ref pb) := TrIs.cl upd_same (s2 _ _ upd_same) .nil
  have tb1 := TrIs.same (sameT s3) _ tb
  have nl : ∃ n : Nat, ((m : Int) - 3).toNat = n ∧ n + 3 = m := ⟨m - 3, by omega, by omega⟩
  obtain ⟨n, en, enm⟩ := nl
  refine ⟨_, rfl, _, _, rfl, rfl, l1, _, _, rfl, rfl, upd_same, by omega, by omega, (by rw [en]; show 1 * n ≤ sizeLine; exact fits2 (by omega)), fun l2 hl2 => ?_⟩
  have s4 := same_new hl2 (.lst (List.replicate ((m : Int) - 3).toNat [V.ref pb]).flatten)
  have efl : (List.replicate ((m : Int) - 3).toNat [V.ref pb]).flatten = List.replicate n (V.ref pb) := by rw [en]; simp
  rw [efl] at s4 ⊢
  have h2 : (upd (upd (upd (upd H e (.tup [])) pb (.tup [.str "b", .int 0, .ref e])) l1 (.lst [.ref pb])) l2 (.lst (List.replicate n (V.ref pb)))) l2 = some (.lst (List.replicate n (V.ref pb))) := upd_same
  have tb2 := TrIs.same (sameT s4) _ tb1
  have free2 : H l2 = none := (s1.trans (s2.trans s3)).free hl2
  have sH := s1.trans (s2.trans (s3.trans s4))
  generalize upd (upd (upd (upd H e (.tup [])) pb (.tup [.str "b", .int 0, .ref e])) l1 (.lst [.ref pb])) l2 (.lst (List.replicate n (V.ref pb))) = H2 at s4 h2 tb2 sH ⊢
  have hp : (0 : Int) < (m : Int) - 2 := by omega
  have k0 := Int.emod_nonneg c (show (m : Int) - 2 ≠ 0 by omega)
  have k1 := Int.emod_lt_of_pos c hp
  obtain ⟨k, hk⟩ := Int.eq_ofNat_of_zero_le k0
  refine ⟨_, rfl, .inl ⟨rfl, _, SqL.of h2⟩, _, rfl, _, rfl, _, _, rfl, rfl, _, _, rfl, rfl, hp, (by show 0 ≤ sizeLine; decide), fun e2 he2 => ⟨(by show 3 ≤ sizeLine; decide), fun pd hpd => ⟨(by show 1 ≤ sizeLine; decide), fun td htd => ⟨(by show 3 ≤ sizeLine; decide), fun pc hpc => ?_⟩⟩⟩⟩
  have r1 := same_new he2 (.tup [])
  have r2 := same_new hpd (.tup [.str "d", .int 0, .ref e2])
  have r3 := same_new htd (.tup [.ref pd])
  have r4 := same_new hpc (.tup [.str "c", .int 7, .ref td])
  have rd : TrIs (upd (upd H2 e2 (.tup [])) pd (.tup [.str "d", .int 0, .ref e2])) (.node "d" 0 []) (.ref pd) := TrIs.cl upd_same (r2 _ _ upd_same) .nil
  have rc := TrIs.cl (nm := "c") (mk := 7) (bs := [.node "d" 0 []]) (upd_same (H := upd (upd (upd H2 e2 (.tup [])) pd (.tup [.str "d", .int 0, .ref e2])) td (.tup [.ref pd])) (a := pc) (o := .tup [.str "c", .int 7, .ref td])) (r4 _ _ upd_same) (.cons (TrIs.same (sameT (r3.trans r4)) _ rd) .nil)
  have r := r1.trans (r2.trans (r3.trans r4))
  have h3 := r _ _ h2
  have tb3 := TrIs.same (sameT r) _ tb2
  generalize upd (upd (upd (upd H2 e2 (.tup [])) pd (.tup [.str "d", .int 0, .ref e2])) td (.tup [.ref pd])) pc (.tup [.str "c", .int 7, .ref td]) = H3 at rc r h3 tb3 ⊢
  refine ⟨l2, _, _, _, rfl, rfl, h3, k0, by rw [List.length_replicate]; omega, fits2 (by rw [List.length_replicate]; omega), ?_⟩
  dsimp only
  rw [hk, show ((k : Nat) : Int).toNat = k by omega]
  have tL : SameT H3 (upd H3 l2 (.lst ((List.replicate n (V.ref pb)).take k ++ V.ref pc :: (List.replicate n (V.ref pb)).drop k))) := sameT_lst h3
  refine ⟨_, rfl, _, rfl, l2, _, rfl, .inl ⟨SqL.of upd_same, fun t1 ht1 => ⟨(by show 3 ≤ sizeLine; decide), fun pa hpa => ?_⟩⟩⟩
  have u1 := same_new ht1 (.tup ((List.replicate n (V.ref pb)).take k ++ V.ref pc :: (List.replicate n (V.ref pb)).drop k))
  have u2 := same_new hpa (.tup [.str "a", .int c, .ref t1])
  have tA : SameT H3 _ := tL.trans (sameT (u1.trans u2))
  have wtb : Wt (.node "b" 0 []) := .node nmb (by decide) (by decide) (fun b hb => nomatch hb)
  have wtd : Wt (.node "d" 0 []) := .node nmd (by decide) (by decide) (fun b hb => nomatch hb)
  have wtc : Wt (.node "c" 7 [.node "d" 0 []]) := .node nmc (by decide) (by decide) (fun b hb => by rw [List.mem_singleton.mp hb]; exact wtd)
  have db : deep (.node "b" 0 []) = 1 := by rw [deep, deeps]
  have dd : deep (.node "d" 0 []) = 1 := by rw [deep, deeps]
  have dc : deep (.node "c" 7 [.node "d" 0 []]) = 2 := by rw [deep, deeps, deeps, dd]; rfl
  have hmem : ∀ x ∈ (List.replicate n (Tr.node "b" 0 [])).take k ++ Tr.node "c" 7 [.node "d" 0 []] :: (List.replicate n (Tr.node "b" 0 [])).drop k, x = .node "b" 0 [] ∨ x = .node "c" 7 [.node "d" 0 []] := fun x hx => by
    rcases List.mem_append.mp hx with h | h
    · exact .inl (List.eq_of_mem_replicate (List.mem_of_mem_take h))
    · rcases List.mem_cons.mp h with h | h
      · exact .inr h
      · exact .inl (List.eq_of_mem_replicate (List.mem_of_mem_drop h))
  have hl2r : L2R (TrIs (upd (upd (upd H3 l2 (.lst ((List.replicate n (V.ref pb)).take k ++ V.ref pc :: (List.replicate n (V.ref pb)).drop k))) t1 (.tup ((List.replicate n (V.ref pb)).take k ++ V.ref pc :: (List.replicate n (V.ref pb)).drop k))) pa (.tup [.str "a", .int c, .ref t1]))) ((List.replicate n (Tr.node "b" 0 [])).take k ++ Tr.node "c" 7 [.node "d" 0 []] :: (List.replicate n (Tr.node "b" 0 [])).drop k) ((List.replicate n (V.ref pb)).take k ++ V.ref pc :: (List.replicate n (V.ref pb)).drop k) := by
    have b1 := TrIs.same tA _ tb3
    have b2 := TrIs.same tA _ rc
    simp only [List.take_replicate, List.drop_replicate] at b1 b2 ⊢
    exact (l2r_rep b1 _).app (.cons b2 (l2r_rep b1 _))
  refine q (.node "a" c ((List.replicate n (Tr.node "b" 0 [])).take k ++ Tr.node "c" 7 [.node "d" 0 []] :: (List.replicate n (Tr.node "b" 0 [])).drop k)) _ _ ((same_upd free2 (sH.trans r)).trans (u1.trans u2)) (TrIs.cl upd_same (u2 _ _ upd_same) hl2r) (.node nmA c0 c1 fun b hb => ?_) ?_ ?_
  · rcases hmem b hb with rfl | rfl
    · exact wtb
    · exact wtc
  · rw [size, sizes_app', sizes, List.take_replicate, List.drop_replicate, sizes_rep, sizes_rep, size, sizes, size, sizes, sizes, size, sizes]
    omega
  · rw [deep]
    have := deeps_le (d := 2) fun x hx => by
      rcases hmem x hx with rfl | rfl
      · rw [db]; decide
      · rw [dc]; decide
    omega
end
end K24
set_option Elab.async false
set_option linter.all false
set_option maxRecDepth 100000
set_option maxHeartbeats 4000000
namespace K24
open PySem L2 NS TR
open TM
theorem comp_rngF {n : Nat} {js : List Nat} {tc : TT} {te : TE} {σ : L2.St} {Q : VK} {D : Addr} {H1 : Hp} (f : Nat → Bool) (hz : n < sizeLine) (hD : H1 D = none)
    (hc : ∀ i H' (R : Bool → Hp → Prop), i < n → R (f i) H' → tc (some (.int (0 + (i : Int))) :: compS js σ) H' R)
    (he : ∀ i H' (R : V → Hp → Prop), i < n → R (.int (0 + (i : Int))) H' → te (some (.int (0 + (i : Int))) :: compS js σ) H' R)
    (hd : ∀ H', Same H1 H' → H' D = some (.lst (((List.range n).filter f).map fun (i : Nat) => V.int (i : Int))) → Q (.ref D) H') : CompW (Itr 0 n) js tc te σ Q D H1 := by
  refine ⟨fun i m acc H => m = n - i ∧ i ≤ n ∧ acc = ((List.range i).filter f).map (fun (i : Nat) => V.int (i : Int)) ∧ Same H1 H ∧ H D = some (.lst acc), ⟨n, by simp, Nat.zero_le _, rfl, same_new hD _, upd_same⟩, ?_⟩
  rintro i m acc H ⟨hm, hi, ea, sm, ha⟩
  have la : acc.length ≤ i := by
    rw [ea, List.length_map]
    have := List.length_filter_le f (List.range i)
    rw [List.length_range] at this
    exact this
  refine ⟨ha, by omega, ?_⟩
  by_cases hlt : i < n
  · refine .inr ⟨hlt, fun x H' y => ?_⟩
    obtain ⟨e, y⟩ := y
    subst e y
    refine hc i _ _ hlt ?_
    cases hf : f i with
    | true =>
      rw [if_pos rfl]
      refine he i _ _ hlt ⟨ha, n - (i + 1), by omega, rfl, hlt, ?_, same_upd hD sm, upd_same⟩
      rw [ea, List.range_succ, List.filter_append, List.map_append]
      simp [hf]
    | false =>
      rw [if_neg (by decide)]
      refine ⟨n - (i + 1), by omega, rfl, hlt, ?_, sm, ha⟩
      rw [ea, List.range_succ, List.filter_append, List.map_append]
      simp [hf]
  · have e : i = n := by omega
    subst e
    exact .inl ⟨Nat.le_refl _, hd H sm (by rw [ha, ea])⟩
abbrev S2 : Str := "()"
theorem in2 : ∀ c, c < 128 → inS S2 c = (c == 40 || c == 41) := by decide +kernel
def spAtBr : Sp := fun vs H Q _ => ∃ (z : Str) (way c : Int), vs = [.str z, .int way, .int c] ∧ TxOk z ∧ z.length ≤ 5000 ∧ Acc z.cps.toList ∧ 3 ≤ way ∧ way ≤ 5 ∧ ∀ z' H', Same H H' → TxOk z' → ¬ Acc z'.cps.toList → Q (.str z') H'
theorem cnt_ne {L : List Nat} (h : L.count 41 ≠ L.count 40) : ¬ Acc L := fun a => h (acc_count a)
theorem br_at {L : List Nat} {p b : Nat} (h : L[p]? = some b) : L = L.take p ++ b :: L.drop (p + 1) := by
  have := List.take_append_drop p L
  rw [drop_cons h] at this
  exact this.symm
section
variable {P : Program} {w : World} {K : PySem.W.Frag} {mg : Str → Option Value} {base : Heap} {T : Adr}
theorem ok_atbr (X : Tx K mg T) : FnOk P w K mg base CX0 2 T.qatbracket T.d_qatbracket ["_law_text", "_law_way", "_law_cell"] spAtBr := by
  have G_qput := ok_put (P := P) (w := w) (base := base) X
  refine X.F_qatbracket.okQ sc_qatbracket (fun vs H Q E h => ?_) (fun cdv A outer s H vs Q E hr h => ?_)
  · obtain ⟨_, _, _, rfl, _⟩ := h
    rfl
  obtain ⟨z, way, c, rfl, tz, hz, acc, w3, w5, q⟩ := h
  refine ⟨_, (qss_cons (qs_setC (ys := ["_law_text"]) (js := [0]) rfl rfl (qi_range1 rfl X.z_range (qaK (qe_callB call_len_str rfl X.z_len PySem.boot_len (qaN (qv 0) qa_nil)) qa_nil)) (fun _ _ _ _ _ => qif_one (qt_cmpR op_in_str (qe_ix ix_str (qv 1) (qv 0) (fun _ _ => rfl)) qe_str rfl)) (fun _ _ _ _ _ => (qv 0)) (qg_name (i := 3) sc_qatbracket.nd rfl (Or.inl rfl)) rfl) (qss_cons (qs_if (qt_cmpR (op_eqNil hr.units) (qv 3) (qe_lst qa_nil) (nomark _)) (qss_one (qs_ret (qe_op op_add_str (qv 0) (qe_ix ix_list (qe_lst (qaC qe_str (qaC qe_str qa_nil))) (qe_op op_mod (qv 2) qe_int) (fun _ _ => rfl))))) qss_nil) (qss_cons (qs_set (i := 4) sc_qatbracket.nd rfl (Or.inl rfl) (qe_ix ix_list (qv 3) (qe_op op_mod (qe_op op_fdiv (qv 2) qe_int) (qe_callB call_len_seq rfl X.z_len PySem.boot_len (qaN (qv 3) qa_nil))) (fun _ _ => rfl))) (qss_cons (qs_if (qt_cmpR op_eq (qv 1) qe_int (nomark _)) (qss_one (qs_ret (qe_op op_add_str (qe_slice sl_str (qv 0) qo_none (qo_some (qv 4))) (qe_slice sl_str (qv 0) (qo_some (qe_op op_add (qv 4) qe_int)) qo_none)))) qss_nil) (qss_cons (qs_if (qt_cmpR op_eq (qv 1) qe_int (nomark _)) (qss_one (qs_ret (qe_call G_qput hr rfl X.m_qput X.F_qput.kp X.b_qput .nil pass0 (qaN (qv 0) (qaB (qe_op op_add (qv 4) (qe_op op_mod (qv 2) qe_int)) (qaC qe_str qa_nil)))))) qss_nil) (qss_one (qs_ret (qe_call G_qput hr rfl X.m_qput X.F_qput.kp X.b_qput .nil pass0 (qaN (qv 0) (qaN (qv 4) (qaS (qe_ix ix_str (qv 0) (qv 4) (fun _ _ => rfl)) qa_nil))))))))))), ?_⟩
  have hzl : z.length = z.cps.toList.length := len_list z
  have ac := acc_count acc
  refine ⟨_, rfl, z, rfl, fits2 (by omega), _, rfl, by omega, by omega, fun D hD => ?_⟩
  refine comp_rngF (n := z.length) (fun i => match z.cps.toList[i]? with | some c => inS S2 c | none => false) (fits2 (by omega) |> Nat.lt_of_le_of_lt (by omega)) hD (fun i H' R hi hR => ?_) (fun i H' R hi hR => ⟨_, rfl, hR⟩) (fun H1 s1 hD1 => ?_)
  · obtain ⟨d, hd⟩ := some_of_lt (xs := z.cps.toList) (i := i) (by omega)
    rw [hd] at hR
    have hia : atI z.cps.toList (0 + (i : Int)) = some d := by rw [Int.zero_add]; exact atI_nat hd
    exact ⟨_, rfl, _, rfl, z, _, d, rfl, rfl, fits2 (by omega), hia, _, _, rfl, rfl, _, rfl, hR⟩
  have hps : ∀ p ∈ (List.range z.length).filter (fun i => match z.cps.toList[i]? with | some c => inS S2 c | none => false), ∃ b, z.cps.toList[p]? = some b ∧ (b = 40 ∨ b = 41) := fun p hp => by
    obtain ⟨h1, h2⟩ := List.mem_filter.mp hp
    have h1 := List.mem_range.mp h1
    obtain ⟨b, hb⟩ := some_of_lt (xs := z.cps.toList) (i := p) (by omega)
    rw [hb] at h2
    have h2 : inS S2 b = true := h2
    rw [in2 b (tz.2 b (List.mem_of_getElem? hb))] at h2
    simp only [Bool.or_eq_true, beq_iff_eq] at h2
    exact ⟨b, hb, h2⟩
  have hlen : ((List.range z.length).filter (fun i => match z.cps.toList[i]? with | some c => inS S2 c | none => false)).length ≤ z.length := by
    have := List.length_filter_le (fun i => match z.cps.toList[i]? with | some c => inS S2 c | none => false) (List.range z.length)
    rwa [List.length_range] at this
  generalize (List.range z.length).filter (fun i => match z.cps.toList[i]? with | some c => inS S2 c | none => false) = ps at hps hlen hD1
  refine ⟨_, rfl, (by show 0 ≤ sizeLine; decide), fun l hl => ?_⟩
  have s2 := same_new hl (.lst [])
  have hD2 := s2 _ _ hD1
  refine ⟨D, l, _, rfl, rfl, SqL.of hD2, SqL.of upd_same, _, rfl, ?_⟩
  by_cases hn : ps = []
  · subst hn
    refine iteT ?_
    refine ⟨_, rfl, (by show 2 ≤ sizeLine; decide), fun l2 hl2 => ?_⟩
    have s3 := same_new hl2 (.lst [V.str ")", V.str "("])
    obtain ⟨x, hx, hxm⟩ := at_of (zs := [")", "("]) (m := c % 2) (Int.emod_nonneg _ (by decide)) (Int.emod_lt_of_pos _ (by decide))
    have lx : x.length = 1 ∧ (x.cps.toList = [41] ∨ x.cps.toList = [40]) := by
      simp only [List.mem_cons, List.mem_nil_iff, or_false] at hxm
      rcases hxm with rfl | rfl
      · exact ⟨by decide, .inl (by decide)⟩
      · exact ⟨by decide, .inr (by decide)⟩
    refine ⟨_, rfl, _, _, rfl, rfl, (by show (0 : Int) < 2; decide), l2, _, _, _, rfl, rfl, SqL.of upd_same, hx, z, x, rfl, rfl, fits2 (by omega), q _ _ (s1.trans (s2.trans s3)) ⟨by rw [app_len]; omega, fun d hd => ?_⟩ ?_⟩
    · rw [app_list] at hd
      rcases List.mem_append.mp hd with h | h
      · exact tz.2 d h
      · rcases lx.2 with e | e <;> rw [e] at h <;> rw [List.mem_singleton.mp h] <;> decide
    · rw [app_list]
      refine cnt_ne ?_
      rcases lx.2 with e | e
      · rw [e, List.count_append, List.count_append, show List.count 41 [41] = 1 by decide, show List.count 40 [41] = 0 by decide]
        omega
      · rw [e, List.count_append, List.count_append, show List.count 41 [40] = 0 by decide, show List.count 40 [40] = 1 by decide]
        omega
  · have hnn : ¬ (ps.map fun (p : Nat) => V.int (p : Int)) = [] := fun z => hn (List.map_eq_nil_iff.mp z)
    rw [decide_eq_false hnn]
    refine iteF ?_
    have lm : (ps.map fun (p : Nat) => V.int (p : Int)).length = ps.length := List.length_map ..
    have hpos := List.length_pos_iff.mpr hn
    have j0 := Int.emod_nonneg (c / 2) (show ((ps.map fun (p : Nat) => V.int (p : Int)).length : Int) ≠ 0 by omega)
    have j1 := Int.emod_lt_of_pos (c / 2) (show (0 : Int) < ((ps.map fun (p : Nat) => V.int (p : Int)).length : Int) by omega)
    obtain ⟨x, hx, hxm⟩ := atI_in j0 j1
    obtain ⟨p, hpm, rfl⟩ := List.mem_map.mp hxm
    obtain ⟨b, hb, hb2⟩ := hps p hpm
    have hpl := lt_of_some hb
    have eL := br_at hb
    refine ⟨_, rfl, _, rfl, _, _, rfl, rfl, ⟨by decide, by decide⟩, _, rfl, D, _, rfl, .inl (SqL.of hD2), _, _, rfl, rfl, by omega, D, _, _, _, rfl, rfl, SqL.of hD2, hx, ?_⟩
    have hw : way = 3 ∨ way = 4 ∨ way = 5 := by omega
    have sb : stp 32 b = true := by rcases hb2 with rfl | rfl <;> decide
    have lb : b < 128 := tz.2 b (List.mem_of_getElem? hb)
    rcases hw with rfl | rfl | rfl
    · refine ⟨_, rfl, rfl, _, rfl, iteYd rfl ?_⟩
      have e1 : (Txt.slice z none (some (p : Int))).cps.toList = z.cps.toList.take p := to_list p rfl (by omega)
      have e2 : (Txt.slice z (some ((p : Int) + 1)) none).cps.toList = z.cps.toList.drop (p + 1) := from_list' (p + 1) (by omega) (by omega)
      have l1 : (Txt.slice z none (some (p : Int))).length ≤ 5000 := by rw [len_list, e1, List.length_take]; omega
      have l2 : (Txt.slice z (some ((p : Int) + 1)) none).length ≤ 5000 := by rw [len_list, e2, List.length_drop]; omega
      refine ⟨_, rfl, _, rfl, _, rfl, z, rfl, fits2 (by omega), _, rfl, _, rfl, _, _, rfl, rfl, _, rfl, z, rfl, fits2 (by omega), _, _, rfl, rfl, fits2 (by omega), q _ _ (s1.trans s2) ⟨by rw [app_len]; omega, fun d hd => ?_⟩ ?_⟩
      · rw [app_list, e1, e2] at hd
        rcases List.mem_append.mp hd with h | h
        · exact tz.2 d (List.mem_of_mem_take h)
        · exact tz.2 d (List.mem_of_mem_drop h)
      · rw [app_list, e1, e2]
        refine cnt_ne ?_
        rw [eL, List.count_append, List.count_append, List.count_cons, List.count_cons] at ac
        rw [List.count_append, List.count_append]
        rcases hb2 with rfl | rfl <;> simp at ac <;> omega
    · refine ⟨_, rfl, rfl, _, rfl, iteNd (by decide) ⟨_, rfl, rfl, _, rfl, iteYd rfl ?_⟩⟩
      have k0 := Int.emod_nonneg c (show (2 : Int) ≠ 0 by decide)
      have k1 := Int.emod_lt_of_pos c (show (0 : Int) < 2 by decide)
      obtain ⟨k, hk⟩ := Int.eq_ofNat_of_zero_le k0
      refine ⟨_, rfl, _, rfl, _, rfl, _, _, rfl, rfl, (by show (0 : Int) < 2; decide), _, _, rfl, rfl, z, _, p + k, ?_, by omega, (by show (Str.ofString " ").length ≤ 1000; decide), by omega, q _ _ (s1.trans s2) (put_tx tz hz (by decide) (by decide)) ?_⟩
      · exact congrArg (fun i => [V.str z, V.int i, V.str (Str.ofString " ")]) (show (p : Int) + c % 2 = ((p + k : Nat) : Int) by omega)
      · rw [mk_list, show (Str.ofString " ").cps.toList = [32] by decide]
        have lt : (z.cps.toList.take p).length = p := by rw [List.length_take]; omega
        have hk2 : k = 0 ∨ k = 1 := by omega
        rcases hk2 with rfl | rfl
        · show ¬ Acc (putL z.cps.toList p [32])
          rw [eL, put_at lt]
          intro h
          exact absurd (adj (c := 32) (d := b) (by decide) sb h) (by decide)
        · have e2 : z.cps.toList = (z.cps.toList.take p ++ [b]) ++ z.cps.toList.drop (p + 1) := by rw [List.append_assoc]; exact eL
          have acc' := acc
          rw [eL] at acc'
          rw [e2, put_at (by rw [List.length_append, lt]; rfl)]
          intro h
          have h : Acc (z.cps.toList.take p ++ b :: 32 :: z.cps.toList.drop (p + 1)) := by simpa using h
          have b41 := adj sb (by decide) h
          subst b41
          cases hB : z.cps.toList.drop (p + 1) with
          | nil =>
            rw [hB] at h
            have h : Acc ((z.cps.toList.take p ++ [41]) ++ [32]) := by simpa using h
            exact absurd (last_stop (by decide) h) (by decide)
          | cons y r =>
            rw [hB] at h acc'
            have sy := aft_close acc'
            have h : Acc ((z.cps.toList.take p ++ [41]) ++ 32 :: y :: r) := by simpa using h
            exact absurd (adj (by decide) sy h) (by decide)
    · refine ⟨_, rfl, rfl, _, rfl, iteNd (by decide) ⟨_, rfl, rfl, _, rfl, iteNd (by decide) ?_⟩⟩
      refine ⟨_, rfl, _, rfl, _, rfl, _, rfl, z, _, b, rfl, rfl, fits2 (by omega), atI_nat hb, z, ⟨#[b]⟩, p, rfl, by omega, (by show 1 ≤ 1000; decide), by omega, q _ _ (s1.trans s2) (put_tx tz hz (by show 1 ≤ 1000; decide) (fun d hd => by rw [List.mem_singleton.mp hd]; exact lb)) ?_⟩
      have lt : (z.cps.toList.take p).length = p := by rw [List.length_take]; omega
      rw [mk_list]
      show ¬ Acc (putL z.cps.toList p [b])
      rw [eL, put_at lt]
      refine cnt_ne ?_
      rw [eL, List.count_append, List.count_append, List.count_cons, List.count_cons] at ac
      simp only [List.cons_append, List.nil_append, List.count_append, List.count_cons]
      rcases hb2 with rfl | rfl <;> simp at ac ⊢ <;> omega
end
end K24
set_option Elab.async false
set_option linter.all false
set_option maxRecDepth 100000
set_option maxHeartbeats 4000000
namespace K24
open PySem L2 NS TR
open TM
theorem nodeB_nd {nm : Str} {mk : Int} (hn : NmOk nm) (h0 : 0 ≤ mk) (h1 : mk < 1000000000000000000) : nodeB (mkS (ndT nm mk)) = true := by
  obtain ⟨n1, n2, n3⟩ := nm_name hn
  have nB : nmB nm = true := by unfold nmB; rw [decide_eq_true n1, decide_eq_true n2, n3]; rfl
  by_cases e : mk = 0
  · have ez : mkS (ndT nm mk) = nm := str_ext (by rw [mk_list]; unfold ndT; rw [if_pos e, List.append_nil])
    rw [ez, nodeB_no (no_colon hn)]
    exact nB
  · have ez : mkS (ndT nm mk) = nm ++ ⟨#[58]⟩ ++ Str.ofString (toString mk) := str_ext (by
      rw [mk_list, app_list, app_list]
      unfold ndT
      rw [if_neg e]
      simp)
    have nl := num_len h0 h1
    have ld : (Str.ofString (toString mk)).length ≤ 18 := by rw [len_list]; exact nl.2
    have l1 : 1 ≤ (Str.ofString (toString mk)).length := by rw [len_list]; exact List.length_pos_iff.mpr nl.1
    have uB : numB (Str.ofString (toString mk)) = true := by
      unfold numB
      rw [decide_eq_true l1, decide_eq_true ld, num_str h0]
      by_cases hh : (Str.ofString (toString mk)).cps.toList.head? = some 48
      · exact absurd (num_head h0 hh) e
      · rw [decide_eq_false hh]; rfl
    rw [ez, nodeB_at (no_colon hn), nB, uB, decide_eq_false (fun z => num_not0 h0 e (congrArg V.str z))]
    rfl
mutual
theorem rows_nd : ∀ (t : Tr), Wt t → ∀ l, ∀ x ∈ rws l (nsT t), nodeB x.1 = true
  | .node nm mk bs, h, l, x, hx => by
    cases h with
    | node hn h0 h1 hb =>
      rw [nsT, rws] at hx
      rcases List.mem_append.mp hx with h | h
      · exact rows_nds bs hb (l + 1) x h
      · rw [List.mem_singleton.mp h]
        exact nodeB_nd hn h0 h1
theorem rows_nds : ∀ (ts : List Tr), (∀ t ∈ ts, Wt t) → ∀ l, ∀ x ∈ rwss l (nsTs ts), nodeB x.1 = true
  | [], _, l, x, hx => by rw [nsTs, rwss] at hx; cases hx
  | t :: ts, h, l, x, hx => by
    rw [nsTs, rwss] at hx
    rcases List.mem_append.mp hx with g | g
    · exact rows_nd t (h t (by simp)) l x g
    · exact rows_nds ts (fun y hy => h y (by simp [hy])) l x g
end
theorem acc_T {t : Tr} (h : Wt t) : Acc (txt 32 (nsT t)) := by
  obtain ⟨cl, r⟩ := NS.run_all (cl_T t h)
  exact ⟨_, r, rfl, rows_nd t h 1⟩
theorem txt_shape {t : Tr} (h : Wt t) : ∃ A x B, txt 32 (nsT t) = A ++ [x] ++ B ∧ letOk x = true ∧ (∀ y r, B = y :: r → letOk y = false) := by
  cases h with
  | @node nm mk bs hn h0 h1 hb =>
    rcases snoc_or nm.cps.toList with e | ⟨A, x, e⟩
    · exact absurd e hn.1
    · refine ⟨A, x, (if mk = 0 then [] else 58 :: (Str.ofString (toString mk)).cps.toList) ++ brk 32 (nsTs bs), ?_, hn.2.2 x (by rw [e]; simp), fun y r hy => ?_⟩
      · rw [nsT, txt]
        unfold ndT
        rw [e]
        simp
      · by_cases hm : mk = 0
        · rw [if_pos hm, List.nil_append] at hy
          cases bs with
          | nil => rw [nsTs, brk] at hy; cases hy
          | cons b bs => rw [nsTs, brk] at hy; cases hy; decide
        · rw [if_neg hm] at hy
          cases hy
          decide
theorem txt_first {t : Tr} (h : Wt t) : ∃ x r, txt 32 (nsT t) = x :: r ∧ letOk x = true := by
  cases h with
  | @node nm mk bs hn h0 h1 hb =>
    cases e : nm.cps.toList with
    | nil => exact absurd e hn.1
    | cons x r =>
      refine ⟨x, r ++ ((if mk = 0 then [] else 58 :: (Str.ofString (toString mk)).cps.toList) ++ brk 32 (nsTs bs)), ?_, hn.2.2 x (by rw [e]; simp)⟩
      rw [nsT, txt]
      unfold ndT
      rw [e]
      simp
theorem no_nine {L n : List Nat} {x : Nat} (h : Acc L) (hx : letOk x = true) (hn : ∀ c ∈ n, c = x) (h9 : n.length = 9) : ¬ Acc (L ++ n) := fun g => by
  have hs : ∀ c ∈ n, stp 32 c = false := fun c hc => by rw [hn c hc]; exact stp_let hx
  have hnn : n ≠ [] := fun z => by rw [z] at h9; cases h9
  have n58 : (58 : Nat) ∉ n := fun m => by
    have := hn 58 m
    rw [← this] at hx
    revert hx
    decide
  obtain ⟨u, w, e, sw, st⟩ := from_stop L
  by_cases hw : w = []
  · rw [hw, List.append_nil] at e
    rcases st with rfl | ⟨u', c, rfl, hc⟩
    · rw [e] at h
      exact not_nil h
    · rw [e] at h g
      have c41 := last_stop hc h
      have g : Acc (u' ++ c :: (n ++ [])) := by simpa using g
      rcases seg1 hc hs (.inl rfl) g with ⟨ne, _⟩ | ⟨_, ne⟩
      · exact ne c41
      · exact hnn ne
  · have hb := seg (w := w ++ n) (v := []) st (fun c hc => (List.mem_append.mp hc).elim (sw c) (hs c)) (fun z => hw (List.append_eq_nil_iff.mp z).1) (.inl rfl) (by rw [e] at g; simpa using g)
    by_cases m : (58 : Nat) ∈ w
    · obtain ⟨p, q, rfl, hp⟩ := List.eq_append_cons_of_mem m
      rw [List.append_assoc] at hb
      obtain ⟨_, _, hnum⟩ := nb_at hp hb
      cases n with
      | nil => exact hnn rfl
      | cons c r =>
        have d := (num_inv hnum).2.2.1 c (by simp)
        rw [hn c (by simp)] at d
        unfold letOk at hx
        rw [Bool.and_eq_true, decide_eq_true_eq, decide_eq_true_eq] at hx
        omega
    · have b2 : nodeB (mkS ((w ++ n) ++ [])) = true := by rw [List.append_nil]; exact hb
      have := (nb_pre (fun z => (List.mem_append.mp z).elim m n58) b2).1
      rw [List.length_append] at this
      omega
theorem bad0 : ∀ s ∈ (["", " ", "()", ":", ":5", "1", "(a)", "a b"] : List Str), ¬ Acc s.cps.toList := by
  intro s hs
  simp only [List.mem_cons, List.mem_nil_iff, or_false] at hs
  have b1 : nodeB (mkS [58]) = false := by decide +kernel
  have b2 : nodeB (mkS [58, 53]) = false := by decide +kernel
  have b3 : nodeB (mkS [49]) = false := by decide +kernel
  rcases hs with rfl | rfl | rfl | rfl | rfl | rfl | rfl | rfl
  · rw [show (Str.ofString "").cps.toList = [] by decide]; exact not_nil
  · rw [show (Str.ofString " ").cps.toList = [32] by decide]; exact first_stop (by decide)
  · rw [show (Str.ofString "()").cps.toList = [40, 41] by decide]; exact first_stop (by decide)
  · rw [show (Str.ofString ":").cps.toList = [58] by decide]
    intro h
    rw [seg0 (w := [58]) (v := []) (by decide) (.inl rfl) h] at b1
    cases b1
  · rw [show (Str.ofString ":5").cps.toList = [58, 53] by decide]
    intro h
    rw [seg0 (w := [58, 53]) (v := []) (by decide) (.inl rfl) h] at b2
    cases b2
  · rw [show (Str.ofString "1").cps.toList = [49] by decide]
    intro h
    rw [seg0 (w := [49]) (v := []) (by decide) (.inl rfl) h] at b3
    cases b3
  · rw [show (Str.ofString "(a)").cps.toList = [40, 97, 41] by decide]; exact first_stop (by decide)
  · rw [show (Str.ofString "a b").cps.toList = [97] ++ 32 :: [98] by decide]
    refine acc_more (.inl rfl) ?_
    have := acc_T (t := .node "a" 0 []) (.node nmA (by decide) (by decide) (fun b hb => nomatch hb))
    rw [nsT, nsTs, txt, brk, List.append_nil] at this
    have e : ndT (Str.ofString "a") 0 = [97] := by unfold ndT; rw [if_pos rfl, List.append_nil]; decide
    rw [e] at this
    exact this
theorem few0 : ∀ s ∈ (["", " ", "()", ":", ":5", "1", "(a)", "a b"] : List Str), s.length ≤ 1000 ∧ ∀ c ∈ s.cps.toList, c < 128 := by decide +kernel
def spFaulty : Sp := fun vs H Q _ => ∃ (t : Tr) (way c : Int), vs = [.str (shT t), .int way, .int c] ∧ Wt t ∧ size t ≤ 60 ∧ 0 ≤ way ∧ way ≤ 12 ∧ 0 ≤ c ∧ c < 1000000000000 ∧ ∀ z' H', Same H H' → TxOk z' → ¬ Acc z'.cps.toList → Q (.str z') H'
theorem tx_app {a b : Str} (ha : TxOk a) (hl : a.length ≤ 5000) (hb : TxOk b) (hm : b.length ≤ 5000) : TxOk (a ++ b) := ⟨by rw [app_len]; omega, fun c hc => by
  rw [app_list] at hc
  exact (List.mem_append.mp hc).elim (ha.2 c) (hb.2 c)⟩
section
variable {P : Program} {w : World} {K : PySem.W.Frag} {mg : Str → Option Value} {base : Heap} {T : Adr}
theorem ok_faulty (X : Tx K mg T) : FnOk P w K mg base CX0 4 T.qfaulty T.d_qfaulty ["_law_text", "_law_way", "_law_cell"] spFaulty := by
  have G_qoddsign := (ok_oddS (P := P) (w := w) (base := base) X).mono (show 2 ≤ 3 by decide)
  have G_qatbracket := (ok_atbr (P := P) (w := w) (base := base) X).mono (show 2 ≤ 3 by decide)
  have G_qatname := ok_atname (P := P) (w := w) (base := base) X
  refine X.F_qfaulty.okQ sc_qfaulty (fun vs H Q E h => ?_) (fun cdv A outer s H vs Q E hr h => ?_)
  · obtain ⟨_, _, _, rfl, _⟩ := h
    rfl
  obtain ⟨t, way, c, rfl, wt, hz, w0, w12, c0, c1, q⟩ := h
  refine ⟨_, (qss_cons (qs_if (qt_cmpR op_eq (qv 1) qe_int (nomark _)) (qss_one (qs_ret (qe_ix ix_list (qe_lst (qaC qe_str (qaC qe_str (qaC qe_str (qaC qe_str (qaC qe_str (qaC qe_str (qaC qe_str (qaC qe_str qa_nil))))))))) (qe_op op_mod (qv 2) qe_int) (fun _ _ => rfl)))) qss_nil) (qss_cons (qs_if (qt_cmpR op_eq (qv 1) qe_int (nomark _)) (qss_one (qs_ret (qe_ix ix_list (qe_lst (qaB (qe_op op_add_str qe_str (qv 0)) (qaB (qe_op op_add_str (qv 0) qe_str) (qaB (qe_op op_add_str (qv 0) qe_str) (qaB (qe_op op_add_str (qv 0) qe_str) (qaB (qe_op op_add_str (qv 0) (qe_op op_rep_str (qe_slice sl_str (qv 0) qo_none (qo_some qe_int)) qe_int)) (qaB (qe_op op_add_str (qv 0) qe_str) qa_nil))))))) (qe_op op_mod (qv 2) qe_int) (fun _ _ => rfl)))) qss_nil) (qss_cons (qs_if (qt_cmpR op_eq (qv 1) qe_int (nomark _)) (qss_one (qs_ret (qe_call G_qoddsign hr rfl X.m_qoddsign X.F_qoddsign.kp X.b_qoddsign .nil pass0 (qaN (qv 0) (qaN (qv 2) qa_nil))))) qss_nil) (qss_cons (qs_if (qt_cmpR op_lt (qv 1) qe_int (nomark _)) (qss_one (qs_ret (qe_call G_qatbracket hr rfl X.m_qatbracket X.F_qatbracket.kp X.b_qatbracket .nil pass0 (qaN (qv 0) (qaN (qv 1) (qaN (qv 2) qa_nil)))))) qss_nil) (qss_one (qs_ret (qe_call G_qatname hr rfl X.m_qatname X.F_qatname.kp X.b_qatname .nil pass0 (qaN (qv 0) (qaN (qv 1) (qaN (qv 2) qa_nil)))))))))), ?_⟩
  have el : (shT t).cps.toList = txt 32 (nsT t) := by unfold shT; rw [mk_list]
  have tz := shT_tx wt (by omega)
  have lz : (shT t).length ≤ 5000 := by have := shT_len wt; omega
  have acc : Acc (shT t).cps.toList := by rw [el]; exact acc_T wt
  obtain ⟨A0, x0, B0, e0, hx0, hB0⟩ := txt_shape wt
  have hend : EndAt (shT t).cps.toList (A0.length + 1) := ⟨A0, x0, B0, by rw [el]; exact e0, rfl, hx0, hB0⟩
  obtain ⟨y0, r0, ey, hy0⟩ := txt_first wt
  rw [← el] at ey
  generalize shT t = z at el tz lz acc hend ey
  have hzl : z.length = z.cps.toList.length := len_list z
  by_cases h0 : way = 0
  · subst h0
    refine ⟨_, rfl, rfl, _, rfl, iteYd rfl ⟨(by show 8 ≤ sizeLine; decide), fun l hl => ?_⟩⟩
    obtain ⟨s, hs, hm⟩ := at_of (zs := ["", " ", "()", ":", ":5", "1", "(a)", "a b"]) (m := c % 8) (Int.emod_nonneg _ (by decide)) (Int.emod_lt_of_pos _ (by decide))
    have s2 := same_new hl (.lst ((["", " ", "()", ":", ":5", "1", "(a)", "a b"] : List Str).map V.str))
    have fw := few0 s hm
    exact ⟨_, rfl, _, _, rfl, rfl, (by show (0 : Int) < 8; decide), l, _, _, _, rfl, rfl, SqL.of upd_same, hs, q s _ s2 ⟨by omega, fw.2⟩ (bad0 s hm)⟩
  by_cases h1 : way = 1
  · subst h1
    have e1 : (Txt.slice z none (some 1)).cps.toList = [y0] := by
      rw [to_list (x := z) (k := (1 : Int)) 1 (by decide) (by rw [ey]; simp), ey]
      rfl
    have ez1 : Txt.slice z none (some 1) = ⟨#[y0]⟩ := str_ext (by rw [e1])
    have m9 := mul_all y0 9
    have l9 := mul1_len y0 (n := 9) (by decide)
    refine ⟨_, rfl, rfl, _, rfl, iteNd (by decide) ⟨_, rfl, rfl, _, rfl, iteYd rfl ?_⟩⟩
    have q1 : (Str.ofString " ").length = 1 := by decide
    have q2 : (Str.ofString "\n").length = 1 := by decide
    have q3 : (Str.ofString " a").length = 2 := by decide
    have q4 : (Str.ofString ")").length = 1 := by decide
    have t1 : TxOk (Str.ofString " ") := ⟨by decide, by decide⟩
    have t2 : TxOk (Str.ofString "\n") := ⟨by decide, by decide⟩
    have t3 : TxOk (Str.ofString " a") := ⟨by decide, by decide⟩
    have t4 : TxOk (Str.ofString ")") := ⟨by decide, by decide⟩
    have l9' : (Txt.mul ⟨#[y0]⟩ 9).length = 9 := by omega
    have t9 : TxOk (Txt.mul ⟨#[y0]⟩ 9) := ⟨by omega, fun d hd => by rw [m9 d hd]; exact let_lt hy0⟩
    have hall : ∀ s ∈ ([Str.ofString " " ++ z, z ++ Str.ofString " ", z ++ Str.ofString "\n", z ++ Str.ofString " a", z ++ Txt.mul ⟨#[y0]⟩ 9, z ++ Str.ofString ")"] : List Str), TxOk s ∧ ¬ Acc s.cps.toList := by
      intro s hs
      simp only [List.mem_cons, List.mem_nil_iff, or_false] at hs
      rcases hs with rfl | rfl | rfl | rfl | rfl | rfl
      · refine ⟨tx_app t1 (by omega) tz lz, ?_⟩
        rw [app_list, show (Str.ofString " ").cps.toList = [32] by decide]
        exact first_stop (by decide)
      · refine ⟨tx_app tz lz t1 (by omega), ?_⟩
        rw [app_list, show (Str.ofString " ").cps.toList = 32 :: [] by decide]
        exact acc_more (.inl rfl) acc
      · refine ⟨tx_app tz lz t2 (by omega), ?_⟩
        rw [app_list, show (Str.ofString "\n").cps.toList = 10 :: [] by decide]
        exact no_sign (by decide) (by decide) (by decide) (by decide)
      · refine ⟨tx_app tz lz t3 (by omega), ?_⟩
        rw [app_list, show (Str.ofString " a").cps.toList = 32 :: [97] by decide]
        exact acc_more (.inl rfl) acc
      · refine ⟨tx_app tz lz t9 (by omega), ?_⟩
        rw [app_list]
        exact no_nine acc hy0 m9 (by rw [← len_list]; exact l9')
      · refine ⟨tx_app tz lz t4 (by omega), ?_⟩
        rw [app_list, show (Str.ofString ")").cps.toList = 41 :: [] by decide]
        exact acc_more (.inr rfl) acc
    obtain ⟨s, hs, hm⟩ := at_of (zs := [Str.ofString " " ++ z, z ++ Str.ofString " ", z ++ Str.ofString "\n", z ++ Str.ofString " a", z ++ Txt.mul ⟨#[y0]⟩ 9, z ++ Str.ofString ")"]) (m := c % 6) (Int.emod_nonneg _ (by decide)) (Int.emod_lt_of_pos _ (by decide))
    refine ⟨_, rfl, _, _, rfl, rfl, fits2 (by omega), _, rfl, _, _, rfl, rfl, fits2 (by omega), _, rfl, _, _, rfl, rfl, fits2 (by omega), _, rfl, _, _, rfl, rfl, fits2 (by omega), _, rfl, _, rfl, _, rfl, z, rfl, fits2 (by omega), ?_⟩
    dsimp only
    rw [ez1]
    refine ⟨_, _, rfl, rfl, (by show 1 ≤ 1000; decide), (by decide), (by decide), _, _, rfl, rfl, fits2 (by omega), _, rfl, _, _, rfl, rfl, fits2 (by omega), (by show 6 ≤ sizeLine; decide), fun l hl => ?_⟩
    have s2 := same_new hl (.lst (([Str.ofString " " ++ z, z ++ Str.ofString " ", z ++ Str.ofString "\n", z ++ Str.ofString " a", z ++ Txt.mul ⟨#[y0]⟩ 9, z ++ Str.ofString ")"] : List Str).map V.str))
    have hh := hall s hm
    exact ⟨_, rfl, _, _, rfl, rfl, (by show (0 : Int) < 6; decide), l, _, _, _, rfl, rfl, SqL.of upd_same, hs, q s _ s2 hh.1 hh.2⟩
  have n0 : ¬ V.int way = V.int 0 := fun z => h0 (V.int.inj z)
  have n1 : ¬ V.int way = V.int 1 := fun z => h1 (V.int.inj z)
  by_cases h2 : way = 2
  · subst h2
    refine ⟨_, rfl, rfl, _, rfl, iteNd n0 ⟨_, rfl, rfl, _, rfl, iteNd n1 ⟨_, rfl, rfl, _, rfl, iteYd rfl ?_⟩⟩⟩
    refine ⟨_, rfl, _, rfl, z, c, rfl, by omega, fun k x hk hx hl => q _ H (Same.refl _) (put_tx tz lz (by show 1 ≤ 1000; decide) (fun d hd => by rw [List.mem_singleton.mp hd]; exact hl)) ?_⟩
    rw [mk_list]
    unfold putL
    exact no_sign hx.1 hx.2.1 hx.2.2.1 hx.2.2.2
  have n2 : ¬ V.int way = V.int 2 := fun z => h2 (V.int.inj z)
  refine ⟨_, rfl, rfl, _, rfl, iteNd n0 ⟨_, rfl, rfl, _, rfl, iteNd n1 ⟨_, rfl, rfl, _, rfl, iteNd n2 ⟨_, rfl, _, _, rfl, rfl, _, rfl, iteDd (fun h6 => ?_) (fun h6 => ?_)⟩⟩⟩⟩
  · exact ⟨_, rfl, _, rfl, _, rfl, z, way, c, rfl, tz, lz, acc, by omega, by omega, fun z' H' sm h1 h2 => q z' H' sm h1 h2⟩
  · exact ⟨_, rfl, _, rfl, _, rfl, z, way, c, rfl, tz, lz, acc, ⟨_, hend⟩, by omega, w12, c0, c1, fun z' H' sm h1 h2 => q z' H' sm h1 h2⟩
end
end K24
set_option Elab.async false
set_option linter.all false
set_option maxRecDepth 100000
set_option maxHeartbeats 4000000
namespace K24
open PySem L2 NS TR
open TM
theorem passE0 {P : Program} {w : World} {X : Cx} : Passes (CXe P w) X E0 := fun _ _ _ _ _ _ _ h => by
  obtain ⟨_, _, _, _, _, z⟩ := h
  exact z.elim
def spLaw (K : PySem.W.Frag) : Sp := fun vs H Q _ => ∃ (a : Addr) (ns : List Int), vs = [.ref a] ∧ SqL K H a (ns.map V.int) ∧ ns.length ≤ 63 ∧ ∀ H', Q (.bl true) H'
section
variable {P : Program} {w : World} {K : PySem.W.Frag} {mg : Str → Option Value} {base : Heap} {T : Adr}
theorem ok_law (X : Tx K mg T) : FnOk P w K mg base CX0 120 T.law T.d_law ["_law_script"] (spLaw K) := by
  have G_qbuilt := (ok_built (P := P) (w := w) (base := base) X).mono (show 2 ≤ 119 by decide)
  have G_qwritten := (ok_writ (P := P) (w := w) (base := base) X 60).mono (show 61 ≤ 119 by decide)
  have G_qshowtree := (ok_shT (P := P) (w := w) (base := base) X 60).mono (show 62 ≤ 119 by decide)
  have G_qfaulty := (ok_faulty (P := P) (w := w) (base := base) X).mono (show 4 ≤ 119 by decide)
  have G_qrefused := (ok_refT (P := P) (w := w) (base := base) X).mono (show 6 ≤ 119 by decide)
  have G_qreadtree := (ok_rdT (P := P) (w := w) (base := base) X).mono (show 5 ≤ 119 by decide)
  have G_qsame := (ok_same (P := P) (w := w) (base := base) X 40).mono (show 42 ≤ 119 by decide)
  have G_qwide := (ok_wideT (P := P) (w := w) (base := base) X).mono (show 1 ≤ 119 by decide)
  have G_qdeep := (ok_deepT (P := P) (w := w) (base := base) X).mono (show 1 ≤ 119 by decide)
  refine X.F_law.okQ sc_law (fun vs H Q E h => ?_) (fun cdv A outer s H vs Q E hr h => ?_)
  · obtain ⟨_, _, rfl, _⟩ := h
    rfl
  obtain ⟨a, ns, rfl, hS, h63, k⟩ := h
  refine ⟨_, (qss_cons (qs_set (i := 1) sc_law.nd rfl (Or.inl rfl) qe_int) (qss_cons (qs_for PassesOwn.never rfl (qi_list (qe_slice sl_list (qv 0) qo_none (qo_some qe_int))) (qg_name (i := 2) sc_law.nd rfl (Or.inl rfl)) (qss_one (qs_set (i := 1) sc_law.nd rfl (Or.inl rfl) (qe_op op_mod (qe_op op_add (qe_op op_mul (qv 1) qe_int) (qv 2)) qe_int)))) (qss_cons (qs_set (i := 3) sc_law.nd rfl (Or.inl rfl) (qe_call G_qbuilt hr rfl X.m_qbuilt X.F_qbuilt.kp X.b_qbuilt .nil pass0 (qaN (qv 0) (qaN (qv 1) (qaC qe_int qa_nil))))) (qss_cons (qs_set (i := 4) sc_law.nd rfl (Or.inl rfl) (qe_call G_qwritten hr rfl X.m_qwritten X.F_qwritten.kp X.b_qwritten .nil pass0 (qaN (qv 3) qa_nil))) (qss_cons (qs_for PassesOwn.never rfl (qi_range1 rfl X.z_range (qaC qe_int qa_nil)) (qg_name (i := 5) sc_law.nd rfl (Or.inl rfl)) (qss_cons (qs_set (i := 2) sc_law.nd rfl (Or.inl rfl) (qe_op op_mod (qe_op op_mul (qe_op op_add (qv 1) (qe_op op_mul (qv 5) (qv 5))) qe_int) qe_int)) (qss_cons (qs_if (qt_not (qt_val (qe_call G_qrefused hr rfl X.m_qrefused X.F_qrefused.kp X.b_qrefused .nil pass0 (qaK (qe_call G_qfaulty hr rfl X.m_qfaulty X.F_qfaulty.kp X.b_qfaulty .nil pass0 (qaN (qv 4) (qaB (qe_op op_mod (qv 2) qe_int) (qaB (qe_op op_fdiv (qv 2) qe_int) qa_nil)))) (qaC qe_bl qa_nil))))) (qss_one (qs_ret qe_bl)) qss_nil) (qss_one (qs_if (qt_not (qt_val (qe_call G_qsame hr rfl X.m_qsame X.F_qsame.kp X.b_qsame .nil pass0 (qaK (qe_call G_qreadtree hr rfl X.m_qreadtree X.F_qreadtree.kp X.b_qreadtree .nil passE0 (qaN (qv 4) qa_nil)) (qaN (qv 3) qa_nil))))) (qss_one (qs_ret qe_bl)) qss_nil))))) (qss_cons (qs_set (i := 6) sc_law.nd rfl (Or.inl rfl) (qe_ix ix_list (qe_lst (qaK (qe_call G_qwide hr rfl X.m_qwide X.F_qwide.kp X.b_qwide .nil pass0 (qaC qe_int (qaN (qv 1) qa_nil))) (qaK (qe_call G_qdeep hr rfl X.m_qdeep X.F_qdeep.kp X.b_qdeep .nil pass0 (qaC qe_int (qaN (qv 1) qa_nil))) qa_nil))) (qe_op op_mod (qv 1) qe_int) (fun _ _ => rfl))) (qss_cons (qs_set (i := 7) sc_law.nd rfl (Or.inl rfl) (qe_ix ix_list (qe_lst (qaK (qe_call G_qwide hr rfl X.m_qwide X.F_qwide.kp X.b_qwide .nil pass0 (qaB (qe_op op_add qe_int (qe_op op_mod (qe_op op_fdiv (qv 1) qe_int) qe_int)) (qaN (qv 1) qa_nil))) (qaK (qe_call G_qdeep hr rfl X.m_qdeep X.F_qdeep.kp X.b_qdeep .nil pass0 (qaB (qe_op op_add qe_int (qe_op op_mod (qe_op op_fdiv (qv 1) qe_int) qe_int)) (qaN (qv 1) qa_nil))) qa_nil))) (qe_op op_mod (qe_op op_fdiv (qv 1) qe_int) qe_int) (fun _ _ => rfl))) (qss_cons (qs_if (qw_pt (qw_or (qt_not (qt_val (qe_call G_qrefused hr rfl X.m_qrefused X.F_qrefused.kp X.b_qrefused .nil pass0 (qaK (qe_call G_qwritten hr rfl X.m_qwritten X.F_qwritten.kp X.b_qwritten .nil pass0 (qaN (qv 7) qa_nil)) (qaC qe_bl qa_nil))))) (qw_or1 (qt_not (qt_val (qe_call G_qsame hr rfl X.m_qsame X.F_qsame.kp X.b_qsame .nil pass0 (qaK (qe_call G_qreadtree hr rfl X.m_qreadtree X.F_qreadtree.kp X.b_qreadtree .nil passE0 (qaK (qe_call G_qwritten hr rfl X.m_qwritten X.F_qwritten.kp X.b_qwritten .nil pass0 (qaN (qv 6) qa_nil)) qa_nil)) (qaN (qv 6) qa_nil)))))))) (qss_one (qs_ret qe_bl)) qss_nil) (qss_cons (qs_set (i := 8) sc_law.nd rfl (Or.inl rfl) (qe_call G_qshowtree hr rfl X.m_qshowtree X.F_qshowtree.kp X.b_qshowtree .nil pass0 (qaN (qv 7) qa_nil))) (qss_cons (qs_if (qw_pt (qw_or (qt_not (qt_val (qe_callB call_isinst rfl X.z_isinstance PyProof.Rows.boot_isinstance (qaN (qv 8) (qaN (qe_bltn rfl X.z_str PyProof.Rows.boot_str rfl (v := .ty "str")) qa_nil))))) (qw_or1 (qt_cmpR op_ne (qv 8) (qe_call G_qwritten hr rfl X.m_qwritten X.F_qwritten.kp X.b_qwritten .nil pass0 (qaN (qv 7) qa_nil)) (nomark _))))) (qss_one (qs_ret qe_bl)) qss_nil) (qss_one (qs_ret (qe_call G_qsame hr rfl X.m_qsame X.F_qsame.kp X.b_qsame .nil pass0 (qaK (qe_call G_qreadtree hr rfl X.m_qreadtree X.F_qreadtree.kp X.b_qreadtree .nil passE0 (qaN (qv 4) qa_nil)) (qaN (qv 3) qa_nil))))))))))))))), ?_⟩
  refine ⟨_, rfl, _, rfl, a, _, rfl, hS, fun sl hsl => ?_⟩
  have ecs : cutV (ns.map V.int) none (some 39) = (ns.take 39).map V.int := by
    rw [show (some 39 : Option Int) = some ((39 : Nat) : Int) from rfl, cut_take', List.map_take]
  rw [ecs]
  have s0 := same_new hsl (.lst ((ns.take 39).map V.int))
  have hsl1 := upd_same (H := H) (a := sl) (o := .lst ((ns.take 39).map V.int))
  generalize upd H sl (.lst ((ns.take 39).map V.int)) = H1 at s0 hsl1 ⊢
  refine ⟨sl, rfl, ⟨_, SqL.of hsl1⟩, for_list (K := K) (a := sl) (xs := (ns.take 39).map V.int) (fun i σ H' => (∃ sd x2, σ = [some (.ref a), some (.int sd), x2, none, none, none, none, none, none] ∧ 0 ≤ sd ∧ sd < 999999937) ∧ H' = H1) ⟨⟨_, _, rfl, by decide, by decide⟩, rfl⟩ (fun i σ H' _ ⟨_, e⟩ => by rw [e]; exact SqL.of hsl1) ?_ ?_⟩
  · rintro i y σ H' hy ⟨⟨sd, x2, rfl, _, _⟩, rfl⟩
    rw [List.getElem?_map] at hy
    obtain ⟨c, _, rfl⟩ := Option.map_eq_some_iff.mp hy
    exact ⟨_, rfl, _, _, rfl, rfl, .inr ⟨by decide, by decide⟩, _, rfl, _, _, rfl, rfl, _, _, rfl, rfl, (by show (0 : Int) < 999999937; decide), ⟨_, _, rfl, Int.emod_nonneg _ (by decide), Int.emod_lt_of_pos _ (by decide)⟩, rfl⟩
  · rintro σ H' ⟨⟨sd, x2, rfl, sd0, sd1⟩, rfl⟩
    refine ⟨_, rfl, _, rfl, a, ns, sd, 12, rfl, s0.seq hS, h63, by decide, fun t v H2 s2 hv wt hz hd => ?_⟩
    refine ⟨_, rfl, t, v, rfl, hv, wt, by omega, by omega, fun H3 s3 => ?_⟩
    have hv3 := TrIs.same (sameT s3) t hv
    have tz := shT_tx wt (show size t ≤ 160 by omega)
    refine ⟨_, rfl, by decide, by decide, ?_⟩
    refine for_range (n := 6) (fun i σ H' => (∃ x2 x5, σ = [some (.ref a), some (.int sd), x2, some v, some (.str (shT t)), x5, none, none, none]) ∧ Same H3 H') ⟨⟨_, _, rfl⟩, Same.refl _⟩ ?_ ?_
    · rintro i σ H4 hi ⟨⟨x2, x5, rfl⟩, s4⟩
      refine ⟨_, rfl, _, rfl, _, rfl, _, _, rfl, rfl, .inl ⟨by show -(2 ^ 64) < (0 : Int) + (i : Int); omega, by show (0 : Int) + (i : Int) < 2 ^ 64; omega⟩, _, _, rfl, rfl, _, _, rfl, rfl, .inr ⟨by decide, by decide⟩, _, _, rfl, rfl, (by show (0 : Int) < 2147483647; decide), ?_⟩
      have n0 := Int.emod_nonneg ((sd + (0 + (i : Int)) * (0 + (i : Int))) * 48271) (show (2147483647 : Int) ≠ 0 by decide)
      have n1 := Int.emod_lt_of_pos ((sd + (0 + (i : Int)) * (0 + (i : Int))) * 48271) (show (0 : Int) < 2147483647 by decide)
      try dsimp only
      generalize (sd + (0 + (i : Int)) * (0 + (i : Int))) * 48271 % 2147483647 = nu at n0 n1 ⊢
      have w0 := Int.emod_nonneg nu (show (13 : Int) ≠ 0 by decide)
      have w1 := Int.emod_lt_of_pos nu (show (0 : Int) < 13 by decide)
      refine ⟨_, rfl, _, rfl, _, _, rfl, rfl, (by show (0 : Int) < 13; decide), _, rfl, _, _, rfl, rfl, ⟨by decide, by decide⟩, t, nu % 13, nu / 13, rfl, wt, hz, w0, by omega, by omega, by omega, fun z' H5 s5 tx bad => ?_⟩
      refine ⟨z', false, rfl, tx, .inl ⟨rfl, bad_of bad⟩, fun H6 s6 => ⟨_, rfl, iteF ?_⟩⟩
      have s36 := s4.trans (s5.trans s6)
      refine ⟨_, rfl, shT t, rfl, tz, .inl ⟨t, rfl, wt, by omega, (fun _ _ v7 H7 s7 hv7 => ?_), fun h => absurd h (by omega)⟩⟩
      have hv7' := TrIs.same (sameT (s36.trans s7)) t hv3
      exact ⟨_, rfl, v7, v, rfl, (al_tr t hv7 hv7' (by omega)).mono (by omega), fun H8 s8 => ⟨_, rfl, iteF ⟨⟨_, _, rfl⟩, s36.trans (s7.trans s8)⟩⟩⟩
    · rintro σ H4 ⟨⟨x2, x5, rfl⟩, s4⟩
      have m0 := Int.emod_nonneg sd (show (2 : Int) ≠ 0 by decide)
      have m1 := Int.emod_lt_of_pos sd (show (0 : Int) < 2 by decide)
      refine ⟨_, rfl, 60, sd, rfl, by decide, by decide, sd0, by omega, fun tw vw H5 s5 hw ww zw dw => ?_⟩
      refine ⟨_, rfl, 20, sd, rfl, by decide, by decide, sd0, by omega, fun td vd H6 s6 hd6 wd zd dd => ⟨(by show 2 ≤ sizeLine; decide), fun l1 hl1 => ?_⟩⟩
      have s7 := same_new hl1 (.lst [vw, vd])
      have hw7 := TrIs.same (sameT (s6.trans s7)) _ hw
      have hd7 := TrIs.same (sameT s7) _ hd6
      obtain ⟨te, ve, hte, he7, we, ze, de⟩ : ∃ te ve, atI [vw, vd] (sd % 2) = some ve ∧ TrIs (upd H6 l1 (.lst [vw, vd])) te ve ∧ Wt te ∧ size te ≤ 60 ∧ deep te ≤ 20 := by
        have : sd % 2 = 0 ∨ sd % 2 = 1 := by omega
        rcases this with e | e <;> rw [e]
        · exact ⟨tw, vw, rfl, hw7, ww, by omega, by omega⟩
        · exact ⟨td, vd, rfl, hd7, wd, by omega, by omega⟩
      refine ⟨_, rfl, _, _, rfl, rfl, (by show (0 : Int) < 2; decide), l1, _, _, _, rfl, rfl, SqL.of upd_same, hte, ?_⟩
      have sA := s4.trans (s5.trans (s6.trans s7))
      generalize upd H6 l1 (.lst [vw, vd]) = H7 at s7 hw7 hd7 he7 sA ⊢
      have g0 := Int.emod_nonneg (sd / 3) (show (90 : Int) ≠ 0 by decide)
      have g1 := Int.emod_lt_of_pos (sd / 3) (show (0 : Int) < 90 by decide)
      have h0 := Int.emod_nonneg (sd / 3) (show (30 : Int) ≠ 0 by decide)
      have h1 := Int.emod_lt_of_pos (sd / 3) (show (0 : Int) < 30 by decide)
      obtain ⟨g, hg⟩ := Int.eq_ofNat_of_zero_le g0
      obtain ⟨h, hh⟩ := Int.eq_ofNat_of_zero_le h0
      refine ⟨_, rfl, _, _, rfl, rfl, ⟨by decide, by decide⟩, _, _, rfl, rfl, (by show (0 : Int) < 90; decide), _, _, rfl, rfl, _, rfl, 61 + g, sd, congrArg (fun i => [V.int i, V.int sd]) (show (61 : Int) + sd / 3 % 90 = ((61 + g : Nat) : Int) by omega), by omega, by omega, sd0, by omega, fun tx vx H8 s8 hx8 wx zx dx => ?_⟩
      refine ⟨_, rfl, _, _, rfl, rfl, ⟨by decide, by decide⟩, _, _, rfl, rfl, (by show (0 : Int) < 30; decide), _, _, rfl, rfl, _, rfl, 21 + h, sd, congrArg (fun i => [V.int i, V.int sd]) (show (21 : Int) + sd / 3 % 30 = ((21 + h : Nat) : Int) by omega), by omega, by omega, sd0, by omega, fun ty vy H9 s9 hy9 wy zy dy => ⟨(by show 2 ≤ sizeLine; decide), fun l2 hl2 => ?_⟩⟩
      have s10 := same_new hl2 (.lst [vx, vy])
      have hx10 := TrIs.same (sameT (s9.trans s10)) _ hx8
      have hy10 := TrIs.same (sameT s10) _ hy9
      obtain ⟨tg, vg, htg, hg10, wg, zg, dg, gr⟩ : ∃ tg vg, atI [vx, vy] (sd / 2 % 2) = some vg ∧ TrIs (upd H9 l2 (.lst [vx, vy])) tg vg ∧ Wt tg ∧ size tg ≤ 160 ∧ deep tg ≤ 60 ∧ (60 < size tg ∨ 20 < deep tg) := by
        have k0 := Int.emod_nonneg (sd / 2) (show (2 : Int) ≠ 0 by decide)
        have k1 := Int.emod_lt_of_pos (sd / 2) (show (0 : Int) < 2 by decide)
        have : sd / 2 % 2 = 0 ∨ sd / 2 % 2 = 1 := by omega
        rcases this with e | e <;> rw [e]
        · exact ⟨tx, vx, rfl, hx10, wx, by omega, by omega, by omega⟩
        · exact ⟨ty, vy, rfl, hy10, wy, by omega, by omega, by omega⟩
      refine ⟨_, rfl, _, _, rfl, rfl, ⟨by decide, by decide⟩, _, _, rfl, rfl, (by show (0 : Int) < 2; decide), l2, _, _, _, rfl, rfl, SqL.of upd_same, htg, ?_⟩
      have sB := s8.trans (s9.trans s10)
      have he10 := TrIs.same (sameT sB) _ he7
      have hv10 := TrIs.same (sameT (sA.trans sB)) t hv3
      generalize upd H9 l2 (.lst [vx, vy]) = H10 at s10 hg10 he10 hv10 sB ⊢
      refine ⟨_, rfl, tg, vg, rfl, hg10, wg, by omega, zg, fun H11 s11 => ?_⟩
      refine ⟨shT tg, true, rfl, shT_tx wg zg, .inr ⟨rfl, tg, rfl, wg, zg, gr⟩, fun H12 s12 => ⟨_, rfl, iteF ?_⟩⟩
      have sC := s11.trans s12
      refine ⟨_, rfl, te, ve, rfl, TrIs.same (sameT sC) _ he10, we, by omega, by omega, fun H13 s13 => ?_⟩
      refine ⟨shT te, rfl, shT_tx we (by omega), .inl ⟨te, rfl, we, by omega, (fun _ _ v14 H14 s14 hv14 => ?_), fun h => absurd h (by omega)⟩⟩
      have sD := sC.trans (s13.trans s14)
      refine ⟨_, rfl, v14, ve, rfl, (al_tr te hv14 (TrIs.same (sameT sD) _ he10) (by omega)).mono (by omega), fun H15 s15 => ⟨_, rfl, iteF ?_⟩⟩
      have sE := sD.trans s15
      refine ⟨_, rfl, tg, vg, rfl, TrIs.same (sameT sE) _ hg10, wg, by omega, zg, fun H16 s16 => ?_⟩
      refine ⟨_, rfl, _, "str", _, _, rfl, .str _, k_ss, _, rfl, iteF ?_⟩
      refine ⟨_, rfl, _, rfl, tg, vg, rfl, TrIs.same (sameT (sE.trans s16)) _ hg10, wg, by omega, zg, fun H17 s17 => ⟨rfl, _, rfl, iteNS rfl ?_⟩⟩
      have sF := sE.trans (s16.trans s17)
      refine ⟨_, rfl, shT t, rfl, tz, .inl ⟨t, rfl, wt, by omega, (fun _ _ v18 H18 s18 hv18 => ?_), fun h => absurd h (by omega)⟩⟩
      exact ⟨_, rfl, v18, v, rfl, (al_tr t hv18 (TrIs.same (sameT (sF.trans s18)) t hv10) (by omega)).mono (by omega), fun H19 s19 => k _⟩
end
end K24
set_option Elab.async false
set_option linter.all false
set_option maxRecDepth 100000
namespace K24
open PySem L2

end K24
open PySem PySem.W PyProof.Rows
set_option maxRecDepth 100000 in
set_option maxHeartbeats 0 in
theorem PySem.Challenge.cw_leafsay_k24_trees_refused_holds : PySem.Challenge.rw_leafsay_k24_trees_refused.Holds := by
  w_on; o_law; k_head; (case hw => w_witness2)
  k_fill
  refine L2.walk_ofK (l := PySem.Challenge.rw_leafsay_k24_trees_refused) (n := 63) (k := 120) (x := "_law_script") (CX := L2.CX0) (sp := K24.spLaw) rfl (by decide) rfl ⟨rfl, by decide, by decide, rfl⟩ (fun w h Y => PySem.W.kIn_of Y) ?F (fun K H a ns hl _ hS => ⟨a, ns, rfl, hS, hl, fun _ => rfl⟩) (fun _ _ _ _ z => z)
  case F =>
    intro w mg fa h KX G hmg
    have T : ∃ T : K24.Adr, K24.Tx (L2.KOf KX) mg T := by
      dsimp only [L2.KOf]
      refine' K24.tx_mk KX G ?m_LeafError ?m_NoText ?m_TooGreat ?m_NoName ?m_NoRule ?m_NoKind ?m_NoTree ?m_NoPlace ?m_NoGiven ?m_NoWalk ?m_Ring ?m_NestReader ?a0 ?l0 ?c0 ?k0 ?a1 ?l1 ?c1 ?k1 ?a2 ?l2 ?c2 ?k2 ?a3 ?i3 ?l3 ?c3 ?k3 ?a4 ?i4 ?l4 ?c4 ?k4 ?a5 ?i5 ?l5 ?c5 ?k5 ?a6 ?i6 ?l6 ?c6 ?k6 ?a7 ?i7 ?l7 ?c7 ?k7 ?a8 ?i8 ?l8 ?c8 ?k8 ?a9 ?i9 ?l9 ?c9 ?k9 ?a10 ?l10 ?c10 ?k10 ?a11 ?l11 ?c11 ?k11 ?a12 ?l12 ?c12 ?k12 ?a13 ?l13 ?c13 ?k13 ?a14 ?l14 ?c14 ?k14 ?a15 ?l15 ?c15 ?k15 ?a16 ?l16 ?c16 ?k16 ?a17 ?l17 ?c17 ?k17 ?a18 ?l18 ?c18 ?k18 ?a19 ?l19 ?c19 ?k19 ?a20 ?l20 ?c20 ?k20 ?a21 ?l21 ?c21 ?k21 ?a22 ?l22 ?c22 ?k22 ?a23 ?l23 ?c23 ?k23 ?a24 ?l24 ?c24 ?k24 ?a25 ?l25 ?c25 ?k25 ?a26 ?l26 ?c26 ?k26 ?a27 ?l27 ?c27 ?k27 ?a28 ?l28 ?c28 ?k28 ?a29 ?l29 ?c29 ?k29 ?a30 ?l30 ?c30 ?k30 ?a31 ?l31 ?c31 ?k31 ?z_ValueError ?z_all ?z_bool ?z_enumerate ?z_int ?z_isinstance ?z_len ?z_max ?z_range ?z_reversed ?z_str ?z_tuple ?z_zip ?c_MOST_LETTERS ?c_MOST_FIGURES ?c_MOST_NODES ?c_MOST_DEEP ?c_LETTERS ?c_FIGURES ?e_LeafError ?e_NoText ?xga_NoText ?xgt_NoText ?xca_NoText ?xsp_NoText ?xtk_NoText ?xmo_NoText ?xmb_NoText ?u_NoText_LeafError ?i_NoText_0 ?i_NoText_1 ?i_NoText_2 ?i_NoText_3 ?e_TooGreat ?xga_TooGreat ?xgt_TooGreat ?xca_TooGreat ?xsp_TooGreat ?xtk_TooGreat ?xmo_TooGreat ?xmb_TooGreat ?u_TooGreat_LeafError ?i_TooGreat_0 ?i_TooGreat_1 ?i_TooGreat_2 ?i_TooGreat_3 ?opg_NestReader ?ohd_NestReader ?opo_NestReader ?osa_NestReader ?omk_NestReader ?okc_NestReader ?n_rows ?n_open_words ?n_inner_counts ?n_closed
      (case m_LeafError => k_is)
      (case m_NoText => k_is)
      (case m_TooGreat => k_is)
      (case m_NoName => k_is)
      (case m_NoRule => k_is)
      (case m_NoKind => k_is)
      (case m_NoTree => k_is)
      (case m_NoPlace => k_is)
      (case m_NoGiven => k_is)
      (case m_NoWalk => k_is)
      (case m_Ring => k_is)
      (case m_NestReader => k_is)
      (case a0 => k_is)
      (case l0 => k_is)
      (case c0 => k_is)
      (case k0 => k_is)
      (case a1 => k_is)
      (case l1 => k_is)
      (case c1 => k_is)
      (case k1 => k_is)
      (case a2 => k_is)
      (case l2 => k_is)
      (case c2 => k_is)
      (case k2 => k_is)
      (case a3 => k_is)
      (case i3 => k_is)
      (case l3 => k_is)
      (case c3 => k_is)
      (case k3 => k_is)
      (case a4 => k_is)
      (case i4 => k_is)
      (case l4 => k_is)
      (case c4 => k_is)
      (case k4 => k_is)
      (case a5 => k_is)
      (case i5 => k_is)
      (case l5 => k_is)
      (case c5 => k_is)
      (case k5 => k_is)
      (case a6 => k_is)
      (case i6 => k_is)
      (case l6 => k_is)
      (case c6 => k_is)
      (case k6 => k_is)
      (case a7 => k_is)
      (case i7 => k_is)
      (case l7 => k_is)
      (case c7 => k_is)
      (case k7 => k_is)
      (case a8 => k_is)
      (case i8 => k_is)
      (case l8 => k_is)
      (case c8 => k_is)
      (case k8 => k_is)
      (case a9 => k_is)
      (case i9 => k_is)
      (case l9 => k_is)
      (case c9 => k_is)
      (case k9 => k_is)
      (case a10 => k_is)
      (case l10 => k_is)
      (case c10 => k_is)
      (case k10 => k_is)
      (case a11 => k_is)
      (case l11 => k_is)
      (case c11 => k_is)
      (case k11 => k_is)
      (case a12 => k_is)
      (case l12 => k_is)
      (case c12 => k_is)
      (case k12 => k_is)
      (case a13 => k_is)
      (case l13 => k_is)
      (case c13 => k_is)
      (case k13 => k_is)
      (case a14 => k_is)
      (case l14 => k_is)
      (case c14 => k_is)
      (case k14 => k_is)
      (case a15 => k_is)
      (case l15 => k_is)
      (case c15 => k_is)
      (case k15 => k_is)
      (case a16 => k_is)
      (case l16 => k_is)
      (case c16 => k_is)
      (case k16 => k_is)
      (case a17 => k_is)
      (case l17 => k_is)
      (case c17 => k_is)
      (case k17 => k_is)
      (case a18 => k_is)
      (case l18 => k_is)
      (case c18 => k_is)
      (case k18 => k_is)
      (case a19 => k_is)
      (case l19 => k_is)
      (case c19 => k_is)
      (case k19 => k_is)
      (case a20 => k_is)
      (case l20 => k_is)
      (case c20 => k_is)
      (case k20 => k_is)
      (case a21 => k_is)
      (case l21 => k_is)
      (case c21 => k_is)
      (case k21 => k_is)
      (case a22 => k_is)
      (case l22 => k_is)
      (case c22 => k_is)
      (case k22 => k_is)
      (case a23 => k_is)
      (case l23 => k_is)
      (case c23 => k_is)
      (case k23 => k_is)
      (case a24 => k_is)
      (case l24 => k_is)
      (case c24 => k_is)
      (case k24 => k_is)
      (case a25 => k_is)
      (case l25 => k_is)
      (case c25 => k_is)
      (case k25 => k_is)
      (case a26 => k_is)
      (case l26 => k_is)
      (case c26 => k_is)
      (case k26 => k_is)
      (case a27 => k_is)
      (case l27 => k_is)
      (case c27 => k_is)
      (case k27 => k_is)
      (case a28 => k_is)
      (case l28 => k_is)
      (case c28 => k_is)
      (case k28 => k_is)
      (case a29 => k_is)
      (case l29 => k_is)
      (case c29 => k_is)
      (case k29 => k_is)
      (case a30 => k_is)
      (case l30 => k_is)
      (case c30 => k_is)
      (case k30 => k_is)
      (case a31 => k_is)
      (case l31 => k_is)
      (case c31 => k_is)
      (case k31 => k_is)
      (case z_ValueError => k_is)
      (case z_all => k_is)
      (case z_bool => k_is)
      (case z_enumerate => k_is)
      (case z_int => k_is)
      (case z_isinstance => k_is)
      (case z_len => k_is)
      (case z_max => k_is)
      (case z_range => k_is)
      (case z_reversed => k_is)
      (case z_str => k_is)
      (case z_tuple => k_is)
      (case z_zip => k_is)
      (case c_MOST_LETTERS => k_is)
      (case c_MOST_FIGURES => k_is)
      (case c_MOST_NODES => k_is)
      (case c_MOST_DEEP => k_is)
      (case c_LETTERS => k_is)
      (case c_FIGURES => k_is)
      (case e_LeafError => k_exc)
      (case e_NoText => k_exc)
      (case xga_NoText => k_is)
      (case xgt_NoText => k_is)
      (case xca_NoText => k_is)
      (case xsp_NoText => k_is)
      (case xtk_NoText => k_is)
      (case xmo_NoText => k_is)
      (case xmb_NoText => k_is)
      (case u_NoText_LeafError => k_is)
      (case i_NoText_0 => kit_is)
      (case i_NoText_1 => kit_is)
      (case i_NoText_2 => kit_is)
      (case i_NoText_3 => kit_is)
      (case e_TooGreat => k_exc)
      (case xga_TooGreat => k_is)
      (case xgt_TooGreat => k_is)
      (case xca_TooGreat => k_is)
      (case xsp_TooGreat => k_is)
      (case xtk_TooGreat => k_is)
      (case xmo_TooGreat => k_is)
      (case xmb_TooGreat => k_is)
      (case u_TooGreat_LeafError => k_is)
      (case i_TooGreat_0 => kit_is)
      (case i_TooGreat_1 => kit_is)
      (case i_TooGreat_2 => kit_is)
      (case i_TooGreat_3 => kit_is)
      (case opg_NestReader => k_is)
      (case ohd_NestReader => k_is)
      (case opo_NestReader => k_is)
      (case osa_NestReader => k_is)
      (case omk_NestReader => k_is)
      (case okc_NestReader => k_is)
      (case n_rows => k_is)
      (case n_open_words => k_is)
      (case n_inner_counts => k_is)
      (case n_closed => k_is)
    obtain ⟨T, TX⟩ := T
    have e0 := hmg.symm.trans TX.m_law
    cases e0
    obtain ⟨oc, od, kV, doc, pm, an, cdv, ct, osl, efd, _, _⟩ := TX.F_law.ex
    refine ⟨T.d_law, fun s u => ?_, fun base _ _ => K24.ok_law TX⟩
    rw [efd]
    exact .of_eq rfl
