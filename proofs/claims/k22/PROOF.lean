import PyProof.Rows.All
import Wide.All
import OpenK.AllK
import Wide.FinOn
import Lean
import PyProof.EqAt
import PyProof.EqKinds
import PyProof.TupleCall
import PyProof.NeKinds
import PyProof.FitsReplace
import PyProof.Rows.SumAny
import PyProof.Rows.MinMaxN
import PyProof.Rows.CallKwBuiltin
import PyProof.StrBlock2
import KE.KMinKey
import OpenK.KOwn
import PyProof.ExcArgsOwn
import KE.KIsAll
import PyProof.ReprRoads
import PyProof.ReprBulk
import PyProof.StrWalks
import PyProof.ConsumeWalk
import PyProof.StrCalls2
import PyProof.EnumMake
import PyProof.Draws
import PyProof.Rows.EnumRows
import PyProof.Rows.FactsT2
import PyProof.CompUse
import KE.KRevIter
import PyProof.ListStr
import KE.KIntText
import PyProof.StrLawsIdx
import PyProof.StrLawsNeg
import PyProof.StrLawsTight
import PyProof.StrLawsChain
import PyProof.Rows.StrItems
import PyProof.Rows.StrFirst
import PyProof.Rows.StrLawsPart
import PyProof.Rows.Range3
import PyProof.Rows.StrWeight2
import PyProof.AutoListH
import PyProof.TupleOfGen
import PyProof.WalksEnum
import PyProof.FactsAll.range_2
import PyProof.ZipIter
import PyProof.MeetsSeq
import PyProof.Rows.StrInSeq3
import PyProof.FactsAll.list_3
import KE.KTryOn
import OpenK.KRaise
import PyProof.DictItems
import KE.KPairComp
import PySem.Challenge.RW_leafsay_k22_what_fits
/-! Names that stand for nothing: where a name is taken, the head goes on without the twin of that name, and the compiled text stays small. -/
def PySem.W.Fast.tw13982284297414095016 : Nat := 0
def PySem.W.Fast.tw522037760780400486 : Nat := 0
def PySem.W.Fast.tw1290201343475202027 : Nat := 0
def PySem.W.Fast.tw10847586830749657107 : Nat := 0
def PySem.W.Fast.tw1621593208275156238 : Nat := 0
def PySem.W.Fast.tw15245085581914734539 : Nat := 0
def PySem.W.Fast.tw10244308066308725578 : Nat := 0
def PySem.W.Fast.tw9602548947061758239 : Nat := 0
def PySem.W.Fast.tw7172995957909022860 : Nat := 0
def PySem.W.Fast.tw3253184628196637941 : Nat := 0
def PySem.W.Fast.tw3479872146984367548 : Nat := 0
def PySem.W.Fast.tw307649532273629512 : Nat := 0
def PySem.W.Fast.tw1218845524253031519 : PySem.Program := PySem.Challenge.pw_leafsay_k22_what_fits
theorem PySem.W.Fast.te1218845524253031519 : PySem.Challenge.pw_leafsay_k22_what_fits = PySem.W.Fast.tw1218845524253031519 := rfl
set_option Elab.async false
set_option linter.all false
set_option maxRecDepth 100000
namespace L2
open PySem PySem.Spec PyProof.Rows
abbrev Key := Sum Int Str
def keyIs : Key -> Value -> Bool
  | .inl k, v => Value.isInt k v
  | .inr x, v => Value.isStrOf x v
def keyH (w : World) : Key -> Int
  | .inl k => hashInt k
  | .inr x => hashStr w x
theorem keyIs_shape : ∀ {k : Key} {v : Value}, keyIs k v = true -> (∃ i t, k = Sum.inl i /\ v = Value.int i t) \/ (∃ x t, k = Sum.inr x /\ v = Value.str x t)
  | .inl i, v, h => by
    obtain ⟨t, e⟩ := Value.isInt_shape (k := i) (v := v) h
    exact .inl ⟨i, t, rfl, e⟩
  | .inr x, v, h => by
    obtain ⟨t, e⟩ := Value.isStrOf_shape (x := x) (v := v) h
    exact .inr ⟨x, t, rfl, e⟩
theorem keyIs_int (i : Int) (t : Tok) : keyIs (.inl i) (.int i t) = true := by simp [keyIs, Value.isInt]
theorem keyIs_str (x : Str) (t : Tok) : keyIs (.inr x) (.str x t) = true := by simp [keyIs, Value.isStrOf]
theorem key_ll (a b : Int) : decide ((Sum.inl a : Key) = Sum.inl b) = (a == b) := by
  by_cases e : a = b
  · subst e; simp
  · have h : ¬ (Sum.inl a : Key) = Sum.inl b := fun q => e (Sum.inl.inj q)
    rw [decide_eq_false h]
    exact (beq_eq_false_iff_ne.mpr e).symm
theorem key_rr (a b : Str) : decide ((Sum.inr a : Key) = Sum.inr b) = decide (a = b) := by
  by_cases e : a = b
  · subst e; simp
  · have h : ¬ (Sum.inr a : Key) = Sum.inr b := fun q => e (Sum.inr.inj q)
    rw [decide_eq_false h, decide_eq_false e]
theorem key_lr (a : Int) (b : Str) : decide ((Sum.inl a : Key) = Sum.inr b) = false := decide_eq_false (fun q => nomatch q)
theorem key_rl (a : Str) (b : Int) : decide ((Sum.inr a : Key) = Sum.inl b) = false := decide_eq_false (fun q => nomatch q)
def mixKind (prog : Program) (w : World) : PySem.KeyKind prog w Key where
  is := keyIs
  hash := keyH w
  inj := fun v a b ha hb => by
    rcases keyIs_shape ha with ⟨i, t, rfl, rfl⟩ | ⟨x, t, rfl, rfl⟩
    · rcases keyIs_shape hb with ⟨j, u, rfl, e⟩ | ⟨y, u, rfl, e⟩
      · injection e with e1 _; rw [e1]
      · exact nomatch e
    · rcases keyIs_shape hb with ⟨j, u, rfl, e⟩ | ⟨y, u, rfl, e⟩
      · exact nomatch e
      · injection e with e1 _; rw [e1]
  byValue := fun k v h => by
    rcases keyIs_shape h with ⟨i, t, rfl, rfl⟩ | ⟨x, t, rfl, rfl⟩ <;> rfl
  pyHash := fun hv h => by
    rcases keyIs_shape hv with ⟨i, t, rfl, rfl⟩ | ⟨x, t, rfl, rfl⟩
    · exact wpAny_pyHash_int h
    · exact wpAny_pyHash_str h
  eqBool := fun hu hv h => by
    rcases keyIs_shape hu with ⟨i, t, rfl, rfl⟩ | ⟨x, t, rfl, rfl⟩
    · rcases keyIs_shape hv with ⟨j, u, rfl, rfl⟩ | ⟨y, u, rfl, rfl⟩
      · rw [key_ll] at h; exact wpAny_eqBool_int h
      · rw [key_lr] at h; exact SeqAt.EqAt.int_str i t y u _ _ _ _ h
    · rcases keyIs_shape hv with ⟨j, u, rfl, rfl⟩ | ⟨y, u, rfl, rfl⟩
      · rw [key_rl] at h; exact SeqAt.EqAt.str_int x t j u _ _ _ _ h
      · rw [key_rr] at h; exact wpAny_eqBool_str h
  «strs» := fun k x t v h => by
    rcases keyIs_shape h with ⟨i, u, rfl, e⟩ | ⟨y, u, rfl, e⟩
    · exact nomatch e
    · injection e with e1 _
      subst e1
      cases v <;> rfl
theorem mixKind_int (prog : Program) (w : World) (i : Int) (t : Tok) : (mixKind prog w).is (.inl i) (.int i t) = true := keyIs_int i t
theorem mixKind_str (prog : Program) (w : World) (x : Str) (t : Tok) : (mixKind prog w).is (.inr x) (.str x t) = true := keyIs_str x t
end L2
namespace L2
open PySem PySem.Spec PyProof.Rows
inductive V where
  | non | bl (b : Bool) | int (i : Int) | str (x : Str) | byt (b : Array UInt8) | flt (b : UInt64) | ref (a : Addr) | ty (n : String)
  deriving DecidableEq
def RelV : V -> Value -> Prop
  | .non, u => u = Value.none
  | .bl b, u => u = Value.bool b
  | .int i, u => ∃ t, u = Value.int i t
  | .str x, u => ∃ t, u = Value.str x t
  | .byt b, u => ∃ t, u = Value.bytes b t
  | .flt b, u => ∃ t, u = Value.float b t
  | .ref a, u => u = Value.ref a
  | .ty n, u => u = Value.type n
abbrev Vals : List V -> List Value -> Prop := Paired RelV
theorem Vals.length {xs : List V} {us : List Value} (r : Vals xs us) : xs.length = us.length := Paired.length r
theorem Vals.get : ∀ {xs : List V} {us : List Value} {i : Nat} {x : V}, Vals xs us -> xs[i]? = some x -> ∃ u, us[i]? = some u /\ RelV x u
  | _, _, _, _, .nil, e => by simp at e
  | _, _, 0, _, .cons r _, e => by simp at e; subst e; exact ⟨_, rfl, r⟩
  | _, _, i + 1, x, .cons _ t, e => by
    obtain ⟨u, h1, h2⟩ := Vals.get (i := i) (x := x) t (by simpa using e)
    exact ⟨u, by simpa using h1, h2⟩
theorem Vals.set {x : V} {u : Value} (r : RelV x u) : ∀ {xs : List V} {us : List Value} (i : Nat), Vals xs us -> Vals (xs.set i x) (us.set i u)
  | _, _, _, .nil => .nil
  | _, _, 0, .cons _ t => .cons r t
  | _, _, i + 1, .cons q t => .cons q (Vals.set r i t)
theorem Vals.append : ∀ {xs ys : List V} {us ws : List Value}, Vals xs us -> Vals ys ws -> Vals (xs ++ ys) (us ++ ws)
  | _, _, _, _, .nil, s => s
  | _, _, _, _, .cons r t, s => .cons r (Vals.append t s)
theorem Vals.take : ∀ {xs : List V} {us : List Value} (n : Nat), Vals xs us -> Vals (xs.take n) (us.take n)
  | _, _, 0, _ => .nil
  | _, _, _ + 1, .nil => .nil
  | _, _, n + 1, .cons r t => .cons r (Vals.take n t)
theorem Vals.drop : ∀ {xs : List V} {us : List Value} (n : Nat), Vals xs us -> Vals (xs.drop n) (us.drop n)
  | _, _, 0, r => r
  | _, _, _ + 1, .nil => .nil
  | _, _, n + 1, .cons _ t => Vals.drop n t
def RelO : Option V -> Option Value -> Prop
  | some v, some u => RelV v u
  | none, none => True
  | _, _ => False
def KV {κ : Type} : List (κ × V) -> List (κ × Value) -> Prop := Paired fun (p : κ × V) (q : κ × Value) => p.1 = q.1 /\ RelV p.2 q.2
def kV : Key -> V
  | .inl i => .int i
  | .inr x => .str x
inductive HO where
  /-- a list -/
  | lst (xs : List V)
  /-- a tuple (never changes) -/
  | tup (xs : List V)
  /-- a dict whose keys are ints and texts; one whose keys are tuples of ints and texts (the empty one is both) -/
  | dK (kvs : List (Key × V)) | dT (kvs : List (List Key × V))
  /-- a set of ints: its members, its size -/
  | set (S : Int -> Bool) (n : Nat)
  /-- an instance of the class at C, its dict at dx, its attributes -/
  | ins (C dx : Addr) (fs : List (Str × V))
  /-- the dict of the instance at x -/
  | own (x : Addr)
  /-- the dict of an exception -/
  | xd (fs : List (Str × V))
  /-- a bound method, f of x -/
  | met (f x : Addr)
  /-- a range object lo, lo + 1, .. below hi -/
  | rng (lo hi : Int)
  /-- a thing that is known to the object (the script; a dict while a loop walks it): read, never written while it is so -/
  | frz (o : Obj) (u : HO)
  /-- a code object's table -/
  | tbl (ps : Array Value)
  /-- any other thing, by what is true of its one object (a def of one's own: SetO a S n := HO.ext fun h => ..) -/
  | ext (φ : Heap -> Prop)
abbrev Hp := Addr -> Option HO
def upd (H : Hp) (a : Addr) (o : HO) : Hp := fun b => if b = a then some o else H b
theorem upd_same {H : Hp} {a : Addr} {o : HO} : upd H a o a = some o := by unfold upd; rw [if_pos rfl]
theorem upd_ne {H : Hp} {a b : Addr} {o : HO} (h : b ≠ a) : upd H a o b = H b := by unfold upd; rw [if_neg h]
theorem ne_of {H : Hp} {a b : Addr} {o u : HO} (h : H a = some o) (h' : H b = some u) (d : o ≠ u) : a ≠ b := by
  intro e; subst e; rw [h] at h'; exact d (Option.some.inj h')
theorem ne_of_none {H : Hp} {a b : Addr} {o : HO} (h : H a = some o) (h' : H b = none) : a ≠ b := by
  intro e; subst e; rw [h] at h'; cases h'
section
variable (P : Program) (w : World)
def ObjOk (H : Hp) (h : Heap) (a : Addr) : HO -> Prop
  | .lst xs => xs.length <= sizeLine /\ ∃ (its : List Value) (n : Nat), Vals xs its /\ h.get? a = some { cls := .type "list", data := .seq its.toArray n }
  | .tup xs => xs.length <= sizeLine /\ ∃ its : List Value, Vals xs its /\ IsTup h a its.toArray
  | .dK kvs => kvs.length <= sizeLine /\ (a == sysModules) = false /\ ∃ vs, KV kvs vs /\ h.DictOf (mixKind P w) a vs
  | .dT kvs => kvs.length <= sizeLine /\ (a == sysModules) = false /\ ∃ xs : List (List Key × Addr × Value),
      Paired (fun (p : List Key × V) (q : List Key × Addr × Value) => p.1 = q.1 /\ H q.2.1 = some (.tup (p.1.map kV)) /\ RelV p.2 q.2.2) kvs xs /\
      ∃ o es ep, h.get? a = some o /\ o.ExactDict /\ o.data = .dict es ep /\ es.toList = xs.map (entryOfKey (tupleKind (mixKind P w))) /\ (xs.map (·.1)).Nodup
  | .set S n => h.SetOf (intKind P w) a S n
  | .ins C dx fs => H dx = some (.own a) /\ fs.length <= 1000 /\ dx ≠ a /\ h.get? a = some (PySem.W.instObj C dx) /\
      ∃ mA, h.Ns1 dx mA /\ (∀ f, RelO (fs.lookup f) (mA f)) /\ PySem.Within mA (fs.map (·.1))
  | .own _ => ∃ o, h.get? a = some o
  | .xd fs => ∃ mA, h.Ns1 a mA /\ ∀ f, RelO (fs.lookup f) (mA f)
  | .rng lo hi => ∃ t u v, h.get? a = some { cls := .type "range", data := .fields #[.int lo t, .int hi u, .int 1 v] }
  | .frz o u => h.get? a = some o /\ ObjOk H h a u
  | .tbl ps => h.get? a = some { cls := .none, data := .fields ps }
  | .met f x => h.get? a = some (PySem.W.methodObj (.ref f) (.ref x))
  | .ext φ => φ h /\ (∃ o, h.get? a = some o) /\ ∀ h1 h2 : Heap, φ h1 -> (∀ o, h1.get? a = some o -> h2.get? a = some o) -> φ h2
def HOk (H : Hp) (h : Heap) : Prop := ∀ a o, H a = some o -> ObjOk P w H h a o
end
section
variable {P : Program} {w : World} {H H' : Hp} {h h' : Heap} {a : Addr} {o : HO}
theorem ObjOk.lt (x : ObjOk P w H h a o) : a < h.objs.size := by
  cases o with
  | lst xs => obtain ⟨_, _, _, _, e⟩ := x; exact Heap.lt_size e
  | tup xs => obtain ⟨_, _, _, p⟩ := x; exact p.lt
  | dK kvs => obtain ⟨_, _, _, _, o, _, _, e, _⟩ := x; exact Heap.lt_size e
  | dT kvs => obtain ⟨_, _, _, _, o, _, _, e, _⟩ := x; exact Heap.lt_size e
  | set S n => obtain ⟨o, _, _, _, e, _⟩ := x; exact Heap.lt_size e
  | ins C dx fs => obtain ⟨_, _, _, e, _⟩ := x; exact Heap.lt_size e
  | own y => obtain ⟨_, e⟩ := x; exact Heap.lt_size e
  | xd fs => obtain ⟨_, ⟨_, _, _, e, _⟩, _⟩ := x; exact Heap.lt_size e
  | rng lo hi => obtain ⟨_, _, _, e⟩ := x; exact Heap.lt_size e
  | frz ob u => obtain ⟨e, _⟩ := x; exact Heap.lt_size e
  | tbl ps => exact Heap.lt_size (show h.get? a = some _ from x)
  | met f y => exact Heap.lt_size (show h.get? a = some _ from x)
  | ext φ => obtain ⟨_, ⟨_, e⟩, _⟩ := x; exact Heap.lt_size e
theorem Paired.mapP {α β : Type} {F G : α -> β -> Prop} : ∀ {l₁ : List α} {l₂ : List β}, Paired F l₁ l₂ -> (∀ a b, F a b -> G a b) -> Paired G l₁ l₂
  | _, _, .nil, _ => .nil
  | _, _, .cons r t, f => .cons (f _ _ r) (Paired.mapP t f)
theorem ObjOk.stay (x : ObjOk P w H h a o) (k : ∀ b u, (b = a \/ H b = some (.own a)) -> h.get? b = some u -> h'.get? b = some u)
    (ho : ∀ b, H b = some (.own a) -> H' b = some (.own a)) (ht : ∀ b xs, H b = some (.tup xs) -> H' b = some (.tup xs)) : ObjOk P w H' h' a o := by
  induction o with
  | lst xs => obtain ⟨z, its, n, r, e⟩ := x; exact ⟨z, its, n, r, k _ _ (.inl rfl) e⟩
  | tup xs => obtain ⟨z, its, r, ob, e, c⟩ := x; exact ⟨z, its, r, ob, k _ _ (.inl rfl) e, c⟩
  | dK kvs => obtain ⟨z, y, vs, r, ob, es, ep, e, c⟩ := x; exact ⟨z, y, vs, r, ob, es, ep, k _ _ (.inl rfl) e, c⟩
  | dT kvs =>
    obtain ⟨z, y, xs, r, ob, es, ep, e, c⟩ := x
    exact ⟨z, y, xs, Paired.mapP r fun p q z => ⟨z.1, ht _ _ z.2.1, z.2.2⟩, ob, es, ep, k _ _ (.inl rfl) e, c⟩
  | set S n => obtain ⟨ob, es, ep, t, e, c⟩ := x; exact ⟨ob, es, ep, t, k _ _ (.inl rfl) e, c⟩
  | ins C dx fs =>
    obtain ⟨d, z, ne, e, mA, ⟨od, es, ep, e2, c⟩, r⟩ := x
    exact ⟨ho _ d, z, ne, k _ _ (.inl rfl) e, mA, ⟨od, es, ep, k _ _ (.inr d) e2, c⟩, r⟩
  | own y => obtain ⟨ob, e⟩ := x; exact ⟨ob, k _ _ (.inl rfl) e⟩
  | xd fs => obtain ⟨mA, ⟨od, es, ep, e, c⟩, r⟩ := x; exact ⟨mA, ⟨od, es, ep, k _ _ (.inl rfl) e, c⟩, r⟩
  | rng lo hi => obtain ⟨t, u, v, e⟩ := x; exact ⟨t, u, v, k _ _ (.inl rfl) e⟩
  | frz ob u ih => obtain ⟨e, q⟩ := x; exact ⟨k _ _ (.inl rfl) e, ih q⟩
  | tbl ps =>
    have e : h.get? a = some { cls := .none, data := .fields ps } := x
    show h'.get? a = some { cls := .none, data := .fields ps }
    exact k a _ (.inl rfl) e
  | met f y =>
    have e : h.get? a = some (PySem.W.methodObj (.ref f) (.ref y)) := x
    show h'.get? a = some (PySem.W.methodObj (.ref f) (.ref y))
    exact k a _ (.inl rfl) e
  | ext φ => obtain ⟨p, ⟨o, e⟩, st⟩ := x; exact ⟨st _ _ p fun o q => k _ _ (.inl rfl) q, ⟨o, k _ _ (.inl rfl) e⟩, st⟩
theorem HOk.lt (x : HOk P w H h) (e : H a = some o) : a < h.objs.size := (x a o e).lt
theorem HOk.fresh (x : HOk P w H h) (e : h.objs.size <= a) : H a = none := by
  cases q : H a with
  | none => rfl
  | some u => exact absurd (Nat.lt_of_lt_of_le (x.lt q) e) (Nat.lt_irrefl _)
theorem HOk.kept (x : HOk P w H h) (k : ∀ b u, h.get? b = some u -> h'.get? b = some u) : HOk P w H h' := fun a o e =>
  (x a o e).stay (fun b u _ q => k b u q) (fun _ q => q) fun _ _ q => q
theorem HOk.laid (x : HOk P w H h) (k : ∀ b u, h.get? b = some u -> h'.get? b = some u) (hp : h.objs.size <= a) (new : ObjOk P w (upd H a o) h' a o) : HOk P w (upd H a o) h' := fun b u e => by
  have hn := x.fresh hp
  by_cases hb : b = a
  · subst hb; rw [upd_same] at e; cases e; exact new
  · rw [upd_ne hb] at e
    exact (x b u e).stay (fun c v _ q => k c v q) (fun c q => by rw [upd_ne (ne_of_none q hn)]; exact q) fun c xs q => by rw [upd_ne (ne_of_none q hn)]; exact q
end
def Rd (H : Hp) (a : Addr) (u : HO) : Prop := H a = some u \/ ∃ o, H a = some (.frz o u)
theorem Rd.ok {P : Program} {w : World} {H : Hp} {h : Heap} {a : Addr} {u : HO} (r : Rd H a u) (x : HOk P w H h) : ObjOk P w H h a u := by
  rcases r with r | ⟨o, r⟩
  · exact x a u r
  · obtain ⟨_, q⟩ := x a _ r
    exact q
def Mut : Option HO -> Prop
  | some (.lst _) => True
  | some (.dK _) => True
  | some (.dT _) => True
  | some (.set _ _) => True
  | some (.ins _ _ _) => True
  | some (.ext _) => True
  | _ => False
section
variable {P : Program} {w : World} {H : Hp} {h h' : Heap} {x e : Addr} {o' : HO}
theorem HOk.write (ok : HOk P w H h) (mu : Mut (H x)) (he : e = x \/ H e = some (.own x)) (k : ∀ b u, b ≠ e -> h.get? b = some u -> h'.get? b = some u) (heo : ∃ u, h'.get? e = some u)
    (new : ObjOk P w (upd H x o') h' x o') : HOk P w (upd H x o') h' := fun b u q => by
  have nown : ∀ c y, H c = some (.own y) -> c ≠ x := fun c y r z => by subst z; rw [r] at mu; exact mu
  have ntup : ∀ c xs, H c = some (.tup xs) -> c ≠ x := fun c xs r z => by subst z; rw [r] at mu; exact mu
  by_cases hb : b = x
  · subst hb; rw [upd_same] at q; cases q; exact new
  · rw [upd_ne hb] at q
    by_cases hbe : b = e
    · have q' : H b = some (.own x) := by
        rcases he with z | z
        · exact absurd (hbe.trans z) hb
        · rw [hbe]; exact z
      rw [q] at q'; cases q'
      obtain ⟨v, hv⟩ := heo
      exact ⟨v, by rw [hbe]; exact hv⟩
    · refine (ok b u q).stay (fun c v hc r => k c v ?_ r) (fun c r => by rw [upd_ne (nown c b r)]; exact r) fun c xs r => by rw [upd_ne (ntup c xs r)]; exact r
      rcases hc with rfl | hc
      · exact hbe
      · rintro rfl
        rcases he with z | z
        · exact nown c b hc z
        · rw [hc] at z; cases z; exact hb rfl
end
structure Un (fs ex : List Addr) (H H' : Hp) (h h' : Heap) : Prop where
  keep : ∀ b o, h.get? b = some o -> H b = none -> b ∉ fs -> b ∉ ex -> h'.get? b = some o
  slot : ∀ b o, h.get? b = some o -> H b = none -> b ∈ fs -> b ∉ ex -> ∃ sl, h'.get? b = some { o with slots := sl }
  free : ∀ b o, h.get? b = some o -> H b = none -> b ∉ ex -> H' b = none
  there : ∀ b o, h.get? b = some o -> b ∉ ex -> ∃ o', h'.get? b = some o'
  tups : ∀ b xs, H b = some (.tup xs) -> H' b = some (.tup xs)
  frzs : ∀ b o u, H b = some (.frz o u) -> H' b = some (.frz o u)
  tbls : ∀ b ps, H b = some (.tbl ps) -> ∃ more, H' b = some (.tbl (ps ++ more))
section
variable {fs fs' ex ex' : List Addr} {H H1 H2 : Hp} {h h1 h2 h' : Heap} {a x e : Addr} {o : HO}
theorem Un.any (u : Un fs ex H H1 h h1) {b : Addr} {ob : Obj} (q : h.get? b = some ob) (n : H b = none) (hx : b ∉ ex) : ∃ sl, h1.get? b = some { ob with slots := sl } := by
  by_cases hb : b ∈ fs
  · exact u.slot b ob q n hb hx
  · exact ⟨ob.slots, u.keep b ob q n hb hx⟩
theorem Un.kept (k : ∀ b u, h.get? b = some u -> h'.get? b = some u) : Un fs ex H H h h' :=
  ⟨fun b ob q _ _ _ => k b ob q, fun b ob q _ _ _ => ⟨ob.slots, k b ob q⟩, fun _ _ _ n _ => n, fun b ob q _ => ⟨ob, k b ob q⟩, fun _ _ q => q, fun _ _ _ q => q, fun _ ps q => ⟨#[], by rw [q]; simp⟩⟩
theorem Un.refl : Un fs ex H H h h := Un.kept fun _ _ q => q
theorem Un.laid (k : ∀ b u, h.get? b = some u -> h'.get? b = some u) (hp : h.objs.size <= a) (hn : H a = none) : Un fs ex H (upd H a o) h h' where
  keep := fun b u q _ _ _ => k b u q
  slot := fun b u q _ _ _ => ⟨u.slots, k b u q⟩
  free := fun b u q n _ => by rw [upd_ne (Nat.ne_of_lt (Nat.lt_of_lt_of_le (Heap.lt_size q) hp))]; exact n
  there := fun b u q _ => ⟨u, k b u q⟩
  tups := fun b xs q => by rw [upd_ne (ne_of_none q hn)]; exact q
  frzs := fun b u xs q => by rw [upd_ne (ne_of_none q hn)]; exact q
  tbls := fun b ps q => ⟨#[], by rw [upd_ne (ne_of_none q hn), q]; simp⟩
theorem Un.write (mu : Mut (H x)) (he : e = x \/ H e = some (.own x)) (k : ∀ b u, b ≠ e -> h.get? b = some u -> h'.get? b = some u) (heo : ∃ u, h'.get? e = some u) : Un fs ex H (upd H x o) h h' := by
  have hx : ∀ b, H b = none -> b ≠ x := fun b n z => by subst z; rw [n] at mu; exact mu
  have hb : ∀ b, H b = none -> b ≠ e := fun b n z => by
    subst z
    rcases he with r | r
    · exact hx b n r
    · rw [n] at r; cases r
  have hm : ∀ b u, H b = some u -> ¬ Mut (some u) -> b ≠ x := fun b u q nm z => by subst z; rw [q] at mu; exact nm mu
  refine ⟨fun b u q n _ _ => k b u (hb b n) q, fun b u q n _ _ => ⟨u.slots, k b u (hb b n) q⟩, fun b u q n _ => by rw [upd_ne (hx b n)]; exact n, fun b u q _ => ?_,
    fun b xs q => by rw [upd_ne (hm b _ q fun z => z)]; exact q, fun b u xs q => by rw [upd_ne (hm b _ q fun z => z)]; exact q, fun b ps q => ⟨#[], by rw [upd_ne (hm b _ q fun z => z), q]; simp⟩⟩
  by_cases hbe : b = e
  · subst hbe; exact heo
  · exact ⟨u, k b u hbe q⟩
end
def trk (h : Heap) (H : Hp) : List Addr := (List.range h.objs.size).filter fun a => (H a).isSome
def hidT (h : Heap) (H : Hp) : Heap := PySem.W.hideAll h (trk h H)
theorem hidT_size (h : Heap) (H : Hp) : (hidT h H).objs.size = h.objs.size := PySem.W.hideAll_size _ _
theorem hidT_get {h : Heap} {H : Hp} {b : Addr} {o : Obj} (e : h.get? b = some o) (n : H b = none) : (hidT h H).get? b = some o :=
  PySem.W.hideAll_get _ e fun hm => by
    have q : (H b).isSome = true := (List.mem_filter.mp hm).2
    rw [n] at q; simp at q
theorem of_hidT {h : Heap} {H : Hp} {b : Addr} {o : Obj} (e : (hidT h H).get? b = some o) : h.get? b = some o /\ H b = none := by
  have e' : h.get? b = some o := PySem.W.of_hideAll (trk h H) e
  refine ⟨e', ?_⟩
  cases q : H b with
  | none => rfl
  | some x =>
    have hm : b ∈ trk h H := List.mem_filter.mpr ⟨List.mem_range.mpr (Heap.lt_size e'), by simp [q]⟩
    have z : (hidT h H).get? b = none := PySem.W.hideAll_none (trk h H) hm
    rw [z] at e; cases e
end L2
namespace L2
open PySem PySem.Spec PyProof.Rows
structure Mod (K : PySem.W.Frag) (mg : Str -> Option Value) (base : Heap) : Prop where
  kin : K.In base
  glob : base.Ns mainGlobals mg
  blt : ∃ mb, base.Ns builtinsNs mb /\ ∀ x : Str, x ≠ "__name__" -> mb x = bootBuiltins x
  nolimit : base.NoLimit
structure Cx where
  prog : Program
  w : World
  K : PySem.W.Frag
  mg : Str -> Option Value
  base : Heap
  A : Around
  N : List Str
  s₀ : Shared
  H₀ : Hp
  env : Env
  outer : List Env
  stack : List Env
  ex : List Addr
  fn : Str -> Bool
  calm : Bool
  pn : List (Addr × Obj)
  xe : Value -> Shared -> Prop
def frs (l : List Env) : List Addr := l.filterMap (·.frame)
abbrev Cx.fs (X : Cx) : List Addr := frs X.outer
def Vis (sc : Scope) (x : Str) : Prop := sc.names.lookup x = some .local \/ sc.names.lookup x = some .cell \/ sc.names.lookup x = some .free
def Loc (sc : Scope) (x : Str) : Prop := sc.names.lookup x = some .local \/ sc.names.lookup x = some .cell
def Look (env : Env) (h : Heap) (m : Str -> Option Value) (x : Str) (u : Value) : Prop :=
  (env.kindOf x = some .local /\ m x = some u) \/ ((env.kindOf x = some .cell \/ env.kindOf x = some .free) /\ ∃ c, env.cells.lookup x = some c /\ h.IsCell c (some u))
structure Cx.Ok (X : Cx) : Prop where
  mod : Mod X.K X.mg X.base
  kind : X.env.scope.kind = .function
  glob : X.env.globals = mainGlobals
  blt : X.env.builtins = builtinsNs
  above : X.s₀.heap.objs.size <= X.env.locals
  inj : ∀ x y c, X.env.cells.lookup x = some c -> X.env.cells.lookup y = some c -> x = y
  has : ∀ x, (X.env.kindOf x = some .cell \/ X.env.kindOf x = some .free) -> ∃ c, X.env.cells.lookup x = some c
  cab : ∀ x c, X.fn x = true -> X.env.cells.lookup x = some c -> X.s₀.heap.objs.size <= c
  hd : X.calm = true -> X.A.handled = none
  frames : X.A.frames = some X.stack
  stk : X.stack = X.outer \/ (X.stack = X.env :: X.outer /\ X.env.frame = some X.env.locals)
  exf : ∀ b ∈ X.ex, b ≠ X.env.locals /\ ∀ x c, X.env.cells.lookup x = some c -> c ≠ b
  bs : ∀ b o, X.base.get? b = some o -> X.s₀.heap.get? b = some o /\ X.H₀ b = none
  bsz : X.base.objs.size <= X.s₀.heap.objs.size
  noex : ∀ b o, X.base.get? b = some o -> b ∉ X.ex
  exfs : ∀ b ∈ X.ex, b ∉ X.fs
  funs : X.s₀.heap.FunFrames X.base X.outer
  frf : ∀ b ∈ X.fs, X.H₀ b = none
structure Inv (X : Cx) (pins : List (Addr × Obj)) (σ : List (Option V)) (H : Hp) (s : Shared) : Prop where
  ok : X.Ok
  os : s.os = X.s₀.os
  bare : AllBare s.gens
  base : Un X.fs X.ex X.H₀ H X.s₀.heap s.heap
  loc : ∃ m, s.heap.Ns X.env.locals m /\ ∀ (i : Nat) (x : Str) (v : V), X.N[i]? = some x -> σ[i]? = some (some v) -> Vis X.env.scope x -> ∃ u, RelV v u /\ Look X.env s.heap m x u
  cell : ∀ x c, X.env.cells.lookup x = some c -> ∃ v, s.heap.IsCell c v
  free : H X.env.locals = none
  freeC : ∀ x c, X.env.cells.lookup x = some c -> H c = none
  pin : ∀ p ∈ X.pn ++ pins, s.heap.get? p.1 = some p.2 /\ H p.1 = none /\ p.1 ≠ X.env.locals /\ p.1 ∉ X.fs /\ ∀ v, p.2.data ≠ .cell v
  hok : HOk X.prog X.w H s.heap
  len : σ.length = X.N.length
section
variable {X : Cx} {pins : List (Addr × Obj)} {σ : List (Option V)} {H H' : Hp} {s : Shared} {h' : Heap}
theorem Cx.Ok.nofr (ok : X.Ok) {b : Addr} {o : Obj} (e : X.base.get? b = some o) : b ∉ X.fs := fun hb => by
  have := (ok.funs.mem hb).1
  rw [e] at this; cases this
theorem Inv.bs (I : Inv X pins σ H s) : ∀ b o, X.base.get? b = some o -> s.heap.get? b = some o /\ H b = none := fun b o e =>
  ⟨I.base.keep b o (I.ok.bs b o e).1 (I.ok.bs b o e).2 (I.ok.nofr e) (I.ok.noex b o e), I.base.free b o (I.ok.bs b o e).1 (I.ok.bs b o e).2 (I.ok.noex b o e)⟩
theorem Inv.bk (I : Inv X pins σ H s) : ∀ b o, X.base.get? b = some o -> s.heap.get? b = some o := fun b o e => (I.bs b o e).1
theorem Inv.mod (I : Inv X pins σ H s) : Mod X.K X.mg X.base := I.ok.mod
theorem Inv.kIn (I : Inv X pins σ H s) : X.K.In s.heap := I.ok.mod.kin.keeps I.bk
theorem Inv.lt (I : Inv X pins σ H s) : X.env.locals < s.heap.objs.size := let ⟨_, hn, _⟩ := I.loc; hn.lt
theorem Inv.sz (I : Inv X pins σ H s) : X.s₀.heap.objs.size <= s.heap.objs.size := Nat.le_trans I.ok.above (Nat.le_of_lt I.lt)
theorem Inv.nofs (I : Inv X pins σ H s) {a : Addr} (h : s.heap.objs.size <= a) : a ∉ X.fs := fun hb => by
  obtain ⟨_, o, ho, _⟩ := I.ok.funs.mem hb
  exact absurd (Nat.lt_of_lt_of_le (Heap.lt_size ho) (Nat.le_trans I.sz h)) (Nat.lt_irrefl _)
theorem Inv.cne (I : Inv X pins σ H s) : ∀ x c, X.env.cells.lookup x = some c -> c ≠ X.env.locals := fun x c e z => by
  obtain ⟨v, o, ho, hd⟩ := I.cell x c e
  obtain ⟨m, ⟨o', es, ep, ho', hd', _⟩, _⟩ := I.loc
  rw [z, ho'] at ho; cases ho; rw [hd'] at hd; cases hd
theorem Inv.funs (I : Inv X pins σ H s) : s.heap.FunFrames X.base X.outer := by
  have all : ∀ (l : List Env), (∀ b ∈ frs l, b ∈ X.fs) -> X.s₀.heap.FunFrames X.base l -> s.heap.FunFrames X.base l := by
    intro l
    induction l with
    | nil => intro _ _; trivial
    | cons env r ih =>
      intro hs hl
      obtain ⟨hk, ⟨L, o, hf, hn, ho, hd⟩, hr⟩ := hl
      have hL : L ∈ X.fs := hs L (by unfold frs; rw [List.filterMap_cons, hf]; exact List.mem_cons_self)
      obtain ⟨sl, e⟩ := I.base.slot L o ho (I.ok.frf L hL) hL fun z => I.ok.exfs L z hL
      exact ⟨hk, ⟨L, _, hf, hn, e, hd⟩, ih (fun b hb => hs b (by unfold frs; rw [List.filterMap_cons, hf]; exact List.mem_cons_of_mem _ hb)) hr⟩
  exact all X.outer (fun _ hb => hb) I.ok.funs
theorem Inv.stack (I : Inv X pins σ H s) : s.heap.FunFrames X.base X.stack := by
  rcases I.ok.stk with e | ⟨e, hf⟩
  · rw [e]; exact I.funs
  · rw [e]
    obtain ⟨m, hn, _⟩ := I.loc
    refine .cons (by rw [I.ok.kind]; decide) hf hn ?_ I.funs
    exact Heap.get?_none_of_le (Nat.le_trans I.ok.bsz I.ok.above)
theorem Inv.stkSub (I : Inv X pins σ H s) : ∀ b ∈ frs X.stack, b ∈ X.env.locals :: X.fs := fun b hb => by
  rcases I.ok.stk with e | ⟨e, hf⟩
  · rw [e] at hb; exact List.mem_cons_of_mem _ hb
  · rw [e] at hb
    unfold frs at hb
    rw [List.filterMap_cons, hf] at hb
    exact hb
theorem Inv.stkFree (I : Inv X pins σ H s) : ∀ b ∈ frs X.stack, H b = none := fun b hb => by
  rcases List.mem_cons.mp (I.stkSub b hb) with e | hb
  · rw [e]; exact I.free
  · obtain ⟨_, o, ho, _⟩ := I.ok.funs.mem hb
    exact I.base.free b o ho (I.ok.frf b hb) fun z => I.ok.exfs b z hb
theorem Inv.step {g' : Array GenState} {t' : Nat} {d' : Drawn} {ch : List Addr} (I : Inv X pins σ H s)
    (hch : ∀ b ∈ ch, (b ∈ X.ex \/ X.s₀.heap.objs.size <= b) /\ b ≠ X.env.locals /\ (∀ x c, X.env.cells.lookup x = some c -> c ≠ b) /\ ∀ p ∈ X.pn ++ pins, p.1 ≠ b)
    (keep : ∀ b o, b ≠ X.env.locals -> b ∉ X.fs -> b ∉ ch -> s.heap.get? b = some o -> H b = none -> h'.get? b = some o)
    (slot : ∀ b o, b ≠ X.env.locals -> b ∈ X.fs -> b ∉ ch -> s.heap.get? b = some o -> H b = none -> ∃ sl, h'.get? b = some { o with slots := sl }) (free : ∀ b o, b ∉ ch -> s.heap.get? b = some o -> H b = none -> H' b = none)
    (there : ∀ b o, b ∉ ch -> s.heap.get? b = some o -> ∃ o', h'.get? b = some o')
    (tups : ∀ b xs, H b = some (.tup xs) -> H' b = some (.tup xs)) (frzs : ∀ b o u, H b = some (.frz o u) -> H' b = some (.frz o u)) (tbls : ∀ b ps, H b = some (.tbl ps) -> ∃ more, H' b = some (.tbl (ps ++ more)))
    (ns : ∀ m, s.heap.Ns X.env.locals m -> h'.Ns X.env.locals m) (hok : HOk X.prog X.w H' h') (hg : AllBare g') :
    Inv X pins σ H' { s with heap := h', gens := g', drawn := d', toks := t' } := by
  have neL : ∀ b o, X.s₀.heap.get? b = some o -> b ≠ X.env.locals := fun b o e => Nat.ne_of_lt (Nat.lt_of_lt_of_le (Heap.lt_size e) I.ok.above)
  have neC : ∀ b o, X.s₀.heap.get? b = some o -> b ∉ X.ex -> b ∉ ch := fun b o e hx hb => by
    rcases (hch b hb).1 with z | z
    · exact hx z
    · exact absurd (Nat.lt_of_lt_of_le (Heap.lt_size e) z) (Nat.lt_irrefl _)
  have cellK : ∀ x c, X.env.cells.lookup x = some c -> ∀ v, s.heap.IsCell c v -> h'.IsCell c v := fun x c e v ⟨o, ho, hd⟩ => by
    have nch : c ∉ ch := fun z => (hch c z).2.2.1 x c e rfl
    by_cases hc : c ∈ X.fs
    · obtain ⟨sl, q⟩ := slot c o (I.cne x c e) hc nch ho (I.freeC x c e)
      exact ⟨_, q, hd⟩
    · exact ⟨o, keep c o (I.cne x c e) hc nch ho (I.freeC x c e), hd⟩
  refine ⟨I.ok, I.os, hg, ⟨fun b o e n hb hx => ?_, fun b o e n hb hx => ?_, fun b o e n hx => ?_, fun b o e hx => ?_, fun b xs e => tups b xs (I.base.tups b xs e), fun b o xs e => frzs b o xs (I.base.frzs b o xs e), fun b ps e => ?_⟩, ?_, fun x c e => ?_, ?_, fun x c e => ?_, fun p hp => ?_, hok, I.len⟩
  · exact keep b o (neL b o e) hb (neC b o e hx) (I.base.keep b o e n hb hx) (I.base.free b o e n hx)
  · obtain ⟨sl, e1⟩ := I.base.slot b o e n hb hx
    obtain ⟨sl', e2⟩ := slot b _ (neL b o e) hb (neC b o e hx) e1 (I.base.free b o e n hx)
    exact ⟨sl', e2⟩
  · obtain ⟨o', e1⟩ := I.base.there b o e hx
    exact free b o' (neC b o e hx) e1 (I.base.free b o e n hx)
  · obtain ⟨o', e1⟩ := I.base.there b o e hx
    exact there b o' (neC b o e hx) e1
  · obtain ⟨m1, e1⟩ := I.base.tbls b ps e
    obtain ⟨m2, e2⟩ := tbls b _ e1
    exact ⟨m1 ++ m2, by rw [e2, Array.append_assoc]⟩
  · obtain ⟨m, hn, hl⟩ := I.loc
    refine ⟨m, ns m hn, fun i x v e1 e2 e3 => ?_⟩
    obtain ⟨u, r, l⟩ := hl i x v e1 e2 e3
    refine ⟨u, r, ?_⟩
    rcases l with l | ⟨k, c, e, z⟩
    · exact .inl l
    · exact .inr ⟨k, c, e, cellK x c e _ z⟩
  · obtain ⟨v, z⟩ := I.cell x c e
    exact ⟨v, cellK x c e v z⟩
  · obtain ⟨m, ⟨o, _, _, ho, _⟩, _⟩ := I.loc
    exact free _ o (fun z => (hch _ z).2.1 rfl) ho I.free
  · obtain ⟨v, o, ho, hd⟩ := I.cell x c e
    exact free c o (fun z => (hch c z).2.2.1 x c e rfl) ho (I.freeC x c e)
  · obtain ⟨e, n, ne, nf, d⟩ := I.pin p hp
    have nch : p.1 ∉ ch := fun z => (hch p.1 z).2.2.2 p hp rfl
    exact ⟨keep p.1 p.2 ne nf nch e n, free p.1 p.2 nch e n, ne, nf, d⟩
theorem Inv.un {t' : Nat} (I : Inv X pins σ H s) (u : Un X.fs [] H H' s.heap h') (hok : HOk X.prog X.w H' h') : Inv X pins σ H' { s with heap := h', toks := t' } := by
  obtain ⟨m, ⟨o, es, ep, ho, r⟩, _⟩ := id I.loc
  obtain ⟨sl, hL⟩ := u.any ho I.free (by simp)
  exact I.step (g' := s.gens) (d' := s.drawn) (ch := []) (fun _ z => nomatch z) (fun b o _ hb _ e n => u.keep b o e n hb (by simp)) (fun b o _ hb _ e n => u.slot b o e n hb (by simp)) (fun b o _ e n => u.free b o e n (by simp)) (fun b o _ e => u.there b o e (by simp)) u.tups u.frzs u.tbls (fun m' hm => by
    obtain ⟨o', es', ep', ho', r'⟩ := hm
    rw [ho] at ho'; cases ho'
    exact ⟨_, es', ep', hL, r'⟩) hok I.bare
theorem Inv.call {g' : Array GenState} {t' : Nat} {d' : Drawn} {ch : List Addr} (I : Inv X pins σ H s) (u : Un (frs X.stack) ch H H' s.heap h') (hok : HOk X.prog X.w H' h') (hg : AllBare g')
    (hch : ∀ b ∈ ch, (b ∈ X.ex \/ X.s₀.heap.objs.size <= b) /\ b ≠ X.env.locals /\ (∀ x c, X.env.cells.lookup x = some c -> c ≠ b) /\ ∀ p ∈ X.pn ++ pins, p.1 ≠ b) :
    Inv X pins σ H' { s with heap := h', gens := g', drawn := d', toks := t' } := by
  obtain ⟨m, ⟨o, es, ep, ho, r⟩, _⟩ := id I.loc
  obtain ⟨sl, hL⟩ := u.any ho I.free fun z => (hch _ z).2.1 rfl
  exact I.step (ch := ch) hch (fun b o hL hb hc e n => u.keep b o e n (fun z => (List.mem_cons.mp (I.stkSub b z)).elim hL hb) hc) (fun b o _ _ hc e n => u.any e n hc) (fun b o hc e n => u.free b o e n hc) (fun b o hc e => u.there b o e hc) u.tups u.frzs u.tbls (fun m' hm => by
    obtain ⟨o', es', ep', ho', r'⟩ := hm
    rw [ho] at ho'; cases ho'
    exact ⟨_, es', ep', hL, r'⟩) hok hg
theorem Inv.turned {t' : Nat} {it : Addr} (I : Inv X pins σ H s) (k : ∀ b o, b ≠ it -> s.heap.get? b = some o -> h'.get? b = some o) (hn : H it = none) (hL : it ≠ X.env.locals)
    (h1 : it ∈ X.ex \/ X.s₀.heap.objs.size <= it) (h2 : ∀ x c, X.env.cells.lookup x = some c -> c ≠ it) (h3 : ∀ p ∈ X.pn ++ pins, p.1 ≠ it) : Inv X pins σ H { s with heap := h', toks := t' } := by
  have nit : ∀ b u, H b = some u -> b ≠ it := fun b u e z => by rw [z, hn] at e; cases e
  refine I.step (g' := s.gens) (d' := s.drawn) (ch := [it]) (fun b hb => ?_) (fun b o _ _ hc e _ => k b o (fun z => hc (by simp [z])) e) (fun b o _ _ hc e _ => ⟨o.slots, k b o (fun z => hc (by simp [z])) e⟩) (fun _ _ _ _ n => n)
    (fun b o hc e => ⟨o, k b o (fun z => hc (by simp [z])) e⟩) (fun _ _ e => e) (fun _ _ _ e => e) (fun b ps e => ⟨#[], by rw [e]; simp⟩) (fun m hm => ?_) (fun b u e => ?_) I.bare
  · have e : b = it := by simpa using hb
    subst e
    exact ⟨h1, hL, h2, h3⟩
  · obtain ⟨o, es, ep, ho, r⟩ := hm
    exact ⟨o, es, ep, k _ o (Ne.symm hL) ho, r⟩
  · refine (I.hok b u e).stay (fun c v hc q => k c v ?_ q) (fun _ q => q) fun _ _ q => q
    rcases hc with z | z
    · rw [z]; exact nit b u e
    · exact nit c _ z
theorem Inv.tok (I : Inv X pins σ H s) (t : Nat) : Inv X pins σ H { s with toks := t } := I.un (h' := s.heap) (t' := t) Un.refl I.hok
theorem Inv.kept {t' : Nat} (I : Inv X pins σ H s) (k : ∀ b u, s.heap.get? b = some u -> h'.get? b = some u) : Inv X pins σ H { s with heap := h', toks := t' } := I.un (Un.kept k) (I.hok.kept k)
theorem Inv.laid {a : Addr} {o : HO} {t' : Nat} (I : Inv X pins σ H s) (k : ∀ b u, s.heap.get? b = some u -> h'.get? b = some u) (hp : s.heap.objs.size <= a) (new : ObjOk X.prog X.w (upd H a o) h' a o) :
    Inv X pins σ (upd H a o) { s with heap := h', toks := t' } := I.un (Un.laid k hp (I.hok.fresh hp)) (I.hok.laid k hp new)
theorem Inv.write {x e : Addr} {o : HO} {t' : Nat} (I : Inv X pins σ H s) (mu : Mut (H x)) (he : e = x \/ H e = some (.own x)) (k : ∀ b u, b ≠ e -> s.heap.get? b = some u -> h'.get? b = some u) (heo : ∃ u, h'.get? e = some u)
    (new : ObjOk X.prog X.w (upd H x o) h' x o) : Inv X pins σ (upd H x o) { s with heap := h', toks := t' } := I.un (Un.write mu he k heo) (I.hok.write mu he k heo new)
theorem Inv.weak {σ' : List (Option V)} (I : Inv X pins σ H s) (hl : σ'.length = σ.length) (w : ∀ (i : Nat) v, σ'[i]? = some (some v) -> σ[i]? = some (some v)) : Inv X pins σ' H s :=
  ⟨I.ok, I.os, I.bare, I.base, let ⟨m, hn, hl'⟩ := I.loc; ⟨m, hn, fun i x v e1 e2 e3 => hl' i x v e1 (w i v e2) e3⟩, I.cell, I.free, I.freeC, I.pin, I.hok, hl.trans I.len⟩
theorem Inv.pins_of {pins' : List (Addr × Obj)} (I : Inv X pins σ H s) (h : ∀ p ∈ pins', s.heap.get? p.1 = some p.2 /\ H p.1 = none /\ p.1 ≠ X.env.locals /\ p.1 ∉ X.fs /\ ∀ v, p.2.data ≠ .cell v) : Inv X pins' σ H s :=
  ⟨I.ok, I.os, I.bare, I.base, I.loc, I.cell, I.free, I.freeC, fun p hp => (List.mem_append.mp hp).elim (fun z => I.pin p (List.mem_append_left _ z)) (h p), I.hok, I.len⟩
theorem nodup_ix {N : List Str} (hN : N.Nodup) {i j : Nat} {x : Str} (a : N[i]? = some x) (b : N[j]? = some x) : i = j := by
  obtain ⟨h1, e1⟩ := List.getElem?_eq_some_iff.mp a
  obtain ⟨h2, e2⟩ := List.getElem?_eq_some_iff.mp b
  exact (List.getElem_inj hN).mp (e1.trans e2.symm)
theorem store_ok2 {M : Model} {A : Around} {E : Value -> Shared -> Prop} {i : Nat} {x : Str} {v : V} {u : Value} {Q : Unit -> Shared -> Prop} (I : Inv X pins σ H s) (hN : X.N.Nodup) (hi : X.N[i]? = some x) (hx : Loc X.env.scope x) (r : RelV v u)
    (h : ∀ s', Inv X pins (σ.set i (some v)) H s' -> (∃ a, Heap.SameBut a s.heap s'.heap /\ (a = X.env.locals \/ X.env.cells.lookup x = some a)) -> Q () s') (hf : X.fn x = true \/ X.env.scope.names.lookup x = some .local := by first | exact .inl rfl | exact .inr rfl | assumption) : wpAny M A (storeName X.env x u) Q E s := by
  obtain ⟨m, hn, hl⟩ := id I.loc
  have hcls : (X.env.scope.kind == .class || (X.env.scope.kind == .module && X.env.locals != X.env.globals)) = false := by rw [I.ok.kind]; rfl
  have hiσ : i < σ.length := by rw [I.len]; exact (List.getElem?_eq_some_iff.mp hi).1
  have cne := I.cne
  have tracked : ∀ {a : Addr} {h' : Heap}, (∃ o, s.heap.get? a = some o /\ H a = none) -> Heap.SameBut a s.heap h' -> HOk X.prog X.w H h' := fun {a h'} ha hs b ob e => by
    obtain ⟨_, _, hfree⟩ := ha
    refine (I.hok b ob e).stay (fun c w' hc q => (hs.2 c ?_).trans q) (fun _ q => q) fun _ _ q => q
    rintro rfl
    rcases hc with rfl | hc
    · rw [hfree] at e; cases e
    · rw [hfree] at hc; cases hc
  rcases hx with hk | hk
  · refine wpAny_storeName_local hk hn (fun h' hn' hs => ?_) hcls
    obtain ⟨oL, _, _, hoL, _⟩ := id hn
    refine h _ ⟨I.ok, I.os, I.bare, ⟨fun b o e n hb hx => ?_, fun b o e n hb hx => ?_, I.base.free, fun b o e hx => ?_, I.base.tups, I.base.frzs, I.base.tbls⟩, ⟨_, hn', fun j y v' e1 e2 e3 => ?_⟩, fun y c e => ?_, I.free, I.freeC, fun p hp => ?_, tracked ⟨oL, hoL, I.free⟩ hs, by simpa using I.len⟩ ⟨_, hs, .inl rfl⟩
    · exact (hs.2 b (Nat.ne_of_lt (Nat.lt_of_lt_of_le (Heap.lt_size e) I.ok.above))).trans (I.base.keep b o e n hb hx)
    · obtain ⟨sl, e1⟩ := I.base.slot b o e n hb hx
      exact ⟨sl, (hs.2 b (Nat.ne_of_lt (Nat.lt_of_lt_of_le (Heap.lt_size e) I.ok.above))).trans e1⟩
    · obtain ⟨o', e1⟩ := I.base.there b o e hx
      exact ⟨o', (hs.2 b (Nat.ne_of_lt (Nat.lt_of_lt_of_le (Heap.lt_size e) I.ok.above))).trans e1⟩
    · by_cases hj : j = i
      · subst hj
        rw [hi] at e1; cases e1
        rw [List.getElem?_set_self hiσ] at e2
        cases e2
        exact ⟨u, r, .inl ⟨hk, by simp⟩⟩
      · rw [List.getElem?_set_ne (Ne.symm hj)] at e2
        obtain ⟨u', r', q⟩ := hl j y v' e1 e2 e3
        refine ⟨u', r', ?_⟩
        rcases q with ⟨k, e⟩ | ⟨k, c, e, z⟩
        · refine .inl ⟨k, ?_⟩
          have : y ≠ x := fun e => hj (nodup_ix hN e1 (e ▸ hi))
          simp [this, e]
        · exact .inr ⟨k, c, e, z.sameBut hs (cne y c e)⟩
    · obtain ⟨w', z⟩ := I.cell y c e
      exact ⟨w', z.sameBut hs (cne y c e)⟩
    · obtain ⟨e, n, ne, nf, d⟩ := I.pin p hp
      exact ⟨(hs.2 p.1 ne).trans e, n, ne, nf, d⟩
  · have hfn : X.fn x = true := by
      rcases hf with z | z
      · exact z
      · rw [z] at hk; cases hk
    obtain ⟨c, hc⟩ := I.ok.has x (.inl hk)
    obtain ⟨w', z⟩ := I.cell x c hc
    refine wpAny_storeName_cell I.ok.kind hk hc z (fun h' hc' hs => ?_)
    obtain ⟨oc, hoc, hocd⟩ := id z
    refine h { s with heap := h' } ⟨I.ok, I.os, I.bare, ⟨fun b o e n hb hx => ?_, fun b o e n hb hx => ?_, I.base.free, fun b o e hx => ?_, I.base.tups, I.base.frzs, I.base.tbls⟩, ⟨m, hn.sameBut hs (Ne.symm (cne x c hc)), fun j y v' e1 e2 e3 => ?_⟩, fun y c' e => ?_, I.free, I.freeC, fun p hp => ?_, tracked ⟨oc, hoc, I.freeC x c hc⟩ hs, by simpa using I.len⟩ ⟨c, hs, .inr hc⟩
    · exact (hs.2 b (Nat.ne_of_lt (Nat.lt_of_lt_of_le (Heap.lt_size e) (I.ok.cab x c hfn hc)))).trans (I.base.keep b o e n hb hx)
    · obtain ⟨sl, e1⟩ := I.base.slot b o e n hb hx
      exact ⟨sl, (hs.2 b (Nat.ne_of_lt (Nat.lt_of_lt_of_le (Heap.lt_size e) (I.ok.cab x c hfn hc)))).trans e1⟩
    · obtain ⟨o', e1⟩ := I.base.there b o e hx
      exact ⟨o', (hs.2 b (Nat.ne_of_lt (Nat.lt_of_lt_of_le (Heap.lt_size e) (I.ok.cab x c hfn hc)))).trans e1⟩
    · by_cases hj : j = i
      · subst hj
        rw [hi] at e1; cases e1
        rw [List.getElem?_set_self hiσ] at e2
        cases e2
        exact ⟨u, r, .inr ⟨.inl hk, c, hc, hc'⟩⟩
      · rw [List.getElem?_set_ne (Ne.symm hj)] at e2
        obtain ⟨u', r', q⟩ := hl j y v' e1 e2 e3
        refine ⟨u', r', ?_⟩
        rcases q with q | ⟨k, c', e, z'⟩
        · exact .inl q
        · refine .inr ⟨k, c', e, z'.sameBut hs ?_⟩
          rintro rfl
          exact hj (nodup_ix hN e1 (I.ok.inj _ _ _ e hc ▸ hi))
    · by_cases hcc : c' = c
      · subst hcc; exact ⟨_, hc'⟩
      · obtain ⟨w2, z2⟩ := I.cell y c' e
        exact ⟨w2, z2.sameBut hs hcc⟩
    · obtain ⟨e, n, ne, nf, d⟩ := I.pin p hp
      refine ⟨(hs.2 p.1 ?_).trans e, n, ne, nf, d⟩
      intro q
      rw [q, hoc] at e
      have q' : oc = p.2 := Option.some.inj e
      exact d w' (by rw [<- q']; exact hocd)
theorem store_ok {M : Model} {A : Around} {E : Value -> Shared -> Prop} {i : Nat} {x : Str} {v : V} {u : Value} {Q : Unit -> Shared -> Prop} (I : Inv X pins σ H s) (hN : X.N.Nodup) (hi : X.N[i]? = some x) (hx : Loc X.env.scope x) (r : RelV v u)
    (h : ∀ s', Inv X pins (σ.set i (some v)) H s' -> Q () s') (hf : X.fn x = true \/ X.env.scope.names.lookup x = some .local := by first | exact .inl rfl | exact .inr rfl | assumption) : wpAny M A (storeName X.env x u) Q E s :=
  store_ok2 I hN hi hx r (fun s' I' _ => h s' I') hf
theorem Inv.call' {s' : Shared} {ch : List Addr} (I : Inv X pins σ H s) (ho : s'.os = s.os) (u : Un (frs X.stack) ch H H' s.heap s'.heap) (hok : HOk X.prog X.w H' s'.heap) (hg : AllBare s'.gens)
    (hch : ∀ b ∈ ch, (b ∈ X.ex \/ X.s₀.heap.objs.size <= b) /\ b ≠ X.env.locals /\ (∀ x c, X.env.cells.lookup x = some c -> c ≠ b) /\ ∀ p ∈ X.pn ++ pins, p.1 ≠ b) : Inv X pins σ H' s' := by
  obtain ⟨h', g', d', t', o'⟩ := s'
  have e : o' = s.os := ho
  subst e
  exact I.call (g' := g') (t' := t') (d' := d') u hok hg hch
end
abbrev XK := Value -> Option Addr -> Hp -> Prop
abbrev St := List (Option V)
abbrev VK := V -> Hp -> Prop
abbrev TE := St -> Hp -> VK -> Prop
abbrev TT := St -> Hp -> (Bool -> Hp -> Prop) -> Prop
abbrev TA := St -> Hp -> (List V -> Hp -> Prop) -> Prop
structure Ends where
  nx : St -> Hp -> Prop
  rt : VK
  bk : St -> Hp -> Prop := fun _ _ => False
  ct : St -> Hp -> Prop := fun _ _ => False
abbrev TS := Ends -> St -> Hp -> Prop
def EP (X : Cx) (pins : List (Addr × Obj)) (σ : St) (Q : VK) (u : Value) (s' : Shared) : Prop := ∃ v H', Inv X pins σ H' s' /\ RelV v u /\ Q v H'
def TP (X : Cx) (pins : List (Addr × Obj)) (σ : St) (Q : Bool -> Hp -> Prop) (b : Bool) (s' : Shared) : Prop := ∃ H', Inv X pins σ H' s' /\ Q b H'
def AP (X : Cx) (pins : List (Addr × Obj)) (σ : St) (Q : List V -> Hp -> Prop) (us : List Value) (s' : Shared) : Prop := ∃ vs H', Inv X pins σ H' s' /\ Vals vs us /\ Q vs H'
def SP (X : Cx) (pins : List (Addr × Obj)) (D : Ends) (f : Flow) (s' : Shared) : Prop :=
  match f with
  | .next => ∃ σ' H', Inv X pins σ' H' s' /\ D.nx σ' H'
  | .brk => ∃ σ' H', Inv X pins σ' H' s' /\ D.bk σ' H'
  | .cont => ∃ σ' H', Inv X pins σ' H' s' /\ D.ct σ' H'
  | .ret u => ∃ v σ' H', Inv X pins σ' H' s' /\ RelV v u /\ D.rt v H'
def PE (X : Cx) (e : Expr) (t : TE) : Prop :=
  ∀ (pins : List (Addr × Obj)) (s : Shared) (σ : St) (H : Hp) (Q : VK), Inv X pins σ H s -> t σ H Q -> wpAny (model X.prog X.w) X.A (eval e X.env) (EP X pins σ Q) X.xe s
def PT (X : Cx) (e : Expr) (t : TT) : Prop :=
  ∀ (pins : List (Addr × Obj)) (s : Shared) (σ : St) (H : Hp) (Q : Bool -> Hp -> Prop), Inv X pins σ H s -> t σ H Q -> wpAny (model X.prog X.w) X.A (isTrue e X.env (eval e X.env)) (TP X pins σ Q) X.xe s
def PW (X : Cx) (e : Expr) (t : TT) : Prop :=
  ∀ (whole : Sem Value) (pins : List (Addr × Obj)) (s : Shared) (σ : St) (H : Hp) (Q : Bool -> Hp -> Prop), Inv X pins σ H s -> t σ H Q -> wpAny (model X.prog X.w) X.A (isTrue e X.env whole) (TP X pins σ Q) X.xe s
theorem PW.pt {X : Cx} {e : Expr} {t : TT} (h : PW X e t) : PT X e t := h _
def PA (X : Cx) (es : List Expr) (t : TA) : Prop :=
  ∀ (pos : Pos) (pins : List (Addr × Obj)) (s : Shared) (σ : St) (H : Hp) (Q : List V -> Hp -> Prop), Inv X pins σ H s -> t σ H Q -> wpAny (model X.prog X.w) X.A (spliced (backTo pos (starEach es X.env))) (AP X pins σ Q) X.xe s
def PS (X : Cx) (st : Stmt) (t : TS) : Prop :=
  ∀ (pins : List (Addr × Obj)) (s : Shared) (σ : St) (H : Hp) (D : Ends), Inv X pins σ H s -> t D σ H -> wpAny (model X.prog X.w) X.A (exec st X.env) (SP X pins D) X.xe s
def PSs (X : Cx) (st : List Stmt) (t : TS) : Prop :=
  ∀ (pins : List (Addr × Obj)) (s : Shared) (σ : St) (H : Hp) (D : Ends), Inv X pins σ H s -> t D σ H -> wpAny (model X.prog X.w) X.A (execs st X.env) (SP X pins D) X.xe s
theorem thn {α : Type} {t : Sem α} {Q Q' : α -> Shared -> Prop} {M : Model} {A : Around} {E : Value -> Shared -> Prop} {s : Shared} (h : wpAny M A t Q E s) (hQ : ∀ a s, Q a s -> Q' a s) : wpAny M A t Q' E s := wpAny_mono h hQ fun _ _ x => x
end L2
namespace L2
open PySem PySem.Spec PyProof.Rows
section
variable {X : Cx}
def tVar (i : Nat) : TE := fun σ H Q => ∃ v, σ[i]? = some (some v) /\ Q v H
def tC (v : V) : TE := fun _ H Q => Q v H
theorem pe_var {i : Nat} {x : Str} {pos : Pos} (hN : X.N[i]? = some x) (hv : Vis X.env.scope x) (hd : (x == ("__debug__" : Str)) = false := by decide) (hcd : (x == ("__classdict__" : Str)) = false := by decide) : PE X (.Name x pos) (tVar i) := by
  intro pins s σ H Q I h
  obtain ⟨v, e, h⟩ := h
  obtain ⟨m, hn, hl⟩ := I.loc
  obtain ⟨u, r, l⟩ := hl i x v hN e hv
  have fin : EP X pins σ Q u s := ⟨v, H, I, r, h⟩
  rcases l with ⟨hk, hm⟩ | ⟨hk, c, hc, hcell⟩
  · exact wpAny_Name (wpAny_loadName_local I.ok.kind hk hn hm fin) hd
  · rcases hk with hk | hk
    · exact wpAny_Name (wpAny_loadName_cell I.ok.kind hk hc hcell fin) hd
    · exact wpAny_Name (wpAny_loadName_free I.ok.kind hk hc hcell fin hcd) hd
theorem pe_int {i j pos} : PE X (.Constant (.int i) j pos) (tC (.int i)) := fun _ _ _ H _ I h => wpAny_Constant_int ⟨.int i, H, I.tok _, ⟨_, rfl⟩, h⟩
theorem pe_bl {b j pos} : PE X (.Constant (.bool b) j pos) (tC (.bl b)) := fun _ _ _ H _ I h => Constant_bool ⟨.bl b, H, I, rfl, h⟩
theorem pe_str {x j pos} : PE X (.Constant (.str x) j pos) (tC (.str x)) := fun _ _ _ H _ I h => Calls.Constant_str ⟨.str x, H, I.tok _, ⟨_, rfl⟩, h⟩
def Gl (X : Cx) (x : Str) : Prop := X.env.kindOf x = some .globalImplicit
theorem ld_glob {E : Value -> Shared -> Prop} {pins : List (Addr × Obj)} {s : Shared} {σ : St} {H : Hp} {x : Str} {u : Value} {pos : Pos} {Q : Value -> Shared -> Prop} (I : Inv X pins σ H s) (hg : Gl X x) (hm : X.mg x = some u) (h : Q u s)
    (hd : (x == ("__debug__" : Str)) = false := by decide) : wpAny (model X.prog X.w) X.A (eval (.Name x pos) X.env) Q E s :=
  Calls.Name_function_global I.ok.kind hg (Calls.loadGlobal_global (by rw [I.ok.glob]; exact I.mod.glob.keeps I.bk) hm h) hd
theorem ld_blt {E : Value -> Shared -> Prop} {pins : List (Addr × Obj)} {s : Shared} {σ : St} {H : Hp} {x : Str} {u : Value} {pos : Pos} {Q : Value -> Shared -> Prop} (I : Inv X pins σ H s) (hg : Gl X x) (hm : X.mg x = none) (hv : bootBuiltins x = some u) (h : Q u s)
    (hn : x ≠ "__name__" := by decide) (hd : (x == ("__debug__" : Str)) = false := by decide) : wpAny (model X.prog X.w) X.A (eval (.Name x pos) X.env) Q E s := by
  obtain ⟨mb, h1, h2⟩ := I.mod.blt
  exact Calls.Name_function_global I.ok.kind hg (Calls.loadGlobal_builtin (by rw [I.ok.glob]; exact I.mod.glob.keeps I.bk) hm (by rw [I.ok.blt]; exact h1.keeps I.bk) ((h2 x hn).trans hv) h) hd
theorem pe_glob {x : Str} {v : V} {u : Value} {pos : Pos} (hg : Gl X x) (hm : X.mg x = some u) (r : RelV v u) (hd : (x == ("__debug__" : Str)) = false := by decide) : PE X (.Name x pos) (tC v) :=
  fun _ _ _ H _ I h => ld_glob I hg hm ⟨v, H, I, r, h⟩ hd
theorem pe_bltn {x : Str} {v : V} {u : Value} {pos : Pos} (hg : Gl X x) (hm : X.mg x = none) (hv : bootBuiltins x = some u) (r : RelV v u) (hn : x ≠ "__name__" := by decide) (hd : (x == ("__debug__" : Str)) = false := by decide) : PE X (.Name x pos) (tC v) :=
  fun _ _ _ H _ I h => ld_blt I hg hm hv ⟨v, H, I, r, h⟩ hn hd
variable {a b : Expr} {ta tb : TE} {pos : Pos}
def tB (t : TE) : TT := fun σ H Q => t σ H fun x H1 => ∃ c, x = .bl c /\ Q c H1
theorem pt_val {e : Expr} {t : TE} (h : PE X e t) (he : ∀ whole, isTrue e X.env whole = (do let v <- whole; standAt e.pos; holding [v] (truthy v)) := by intro _; rfl) : PT X e (tB t) := by
  intro pins s σ H Q I hw
  refine isTrue_plain (thn (h pins s σ H _ I hw) fun v s1 ⟨x, H1, I1, r1, q1⟩ => ?_) (he _)
  obtain ⟨d, rfl, q⟩ := q1
  cases r1
  exact wpAny_truthy_bool ⟨H1, I1, q⟩
variable {tA tB' : TT} {rest : List Expr}
def tAnd (t u : TT) : TT := fun σ H Q => t σ H fun c H1 => if c = true then u σ H1 Q else Q false H1
def tOr (t u : TT) : TT := fun σ H Q => t σ H fun c H1 => if c = true then Q true H1 else u σ H1 Q
def tNot (t : TT) : TT := fun σ H Q => t σ H fun c H1 => Q (!c) H1
theorem pw_and1 (ha : PT X a tA) : PW X (.BoolOp .And [a] pos) tA := by
  intro wh pins s σ H Q I h
  refine isTrue_and (thn (ha pins s σ H Q I h) fun c s1 e => ?_)
  cases c with
  | true => exact isTrue_and_nil e
  | false => exact e
theorem pw_or1 (ha : PT X a tA) : PW X (.BoolOp .Or [a] pos) tA := by
  intro wh pins s σ H Q I h
  refine isTrue_or (thn (ha pins s σ H Q I h) fun c s1 e => ?_)
  cases c with
  | false => exact isTrue_or_nil e
  | true => exact e
theorem pw_and (ha : PT X a tA) (hb : PW X (.BoolOp .And (b :: rest) pos) tB') : PW X (.BoolOp .And (a :: b :: rest) pos) (tAnd tA tB') := by
  intro wh pins s σ H Q I h
  refine isTrue_and (thn (ha pins s σ H _ I h) fun c s1 ⟨H1, I1, q1⟩ => ?_)
  cases c with
  | true => exact hb wh pins s1 σ H1 Q I1 q1
  | false => exact ⟨H1, I1, q1⟩
theorem pw_or (ha : PT X a tA) (hb : PW X (.BoolOp .Or (b :: rest) pos) tB') : PW X (.BoolOp .Or (a :: b :: rest) pos) (tOr tA tB') := by
  intro wh pins s σ H Q I h
  refine isTrue_or (thn (ha pins s σ H _ I h) fun c s1 ⟨H1, I1, q1⟩ => ?_)
  cases c with
  | true => exact ⟨H1, I1, q1⟩
  | false => exact hb wh pins s1 σ H1 Q I1 q1
theorem pt_not (ha : PT X a tA) : PT X (.UnaryOp .Not a pos) (tNot tA) := by
  intro pins s σ H Q I h
  exact isTrue_not (ha pins s σ H (fun c H1 => Q (!c) H1) I h)
def tAndV (ta tb : TE) : TE := fun σ H Q => ta σ H fun x H1 => ∃ c, x = .bl c /\ if c = true then tb σ H1 Q else Q (.bl false) H1
def tNotV (ta : TE) : TE := fun σ H Q => ta σ H fun x H1 => ∃ c, x = .bl c /\ Q (.bl (!c)) H1
theorem pe_one {op} {t : TE} (h : PE X a t) : PE X (.BoolOp op [a] pos) t := fun pins s σ H Q I hw => BoolOp_one (h pins s σ H Q I hw)
theorem pe_and (ha : PE X a ta) (hb : PE X (.BoolOp .And (b :: rest) pos) tb) : PE X (.BoolOp .And (a :: b :: rest) pos) (tAndV ta tb) := by
  intro pins s σ H Q I h
  refine BoolOp_and (thn (ha pins s σ H _ I h) fun v s1 ⟨x, H1, I1, r1, q1⟩ => ?_)
  obtain ⟨c, rfl, q1⟩ := q1
  cases r1
  refine wpAny_truthy_bool ?_
  cases c with
  | true => exact hb pins s1 σ H1 Q I1 q1
  | false => exact ⟨.bl false, H1, I1, rfl, q1⟩
theorem pe_not (ha : PE X a ta) : PE X (.UnaryOp .Not a pos) (tNotV ta) := by
  intro pins s σ H Q I h
  refine UnaryOp_ (thn (ha pins s σ H _ I h) fun v s1 ⟨x, H1, I1, r1, q1⟩ => ?_)
  obtain ⟨c, rfl, q1⟩ := q1
  cases r1
  exact not_of (wpAny_truthy_bool ⟨.bl (!c), H1, I1, rfl, q1⟩)
end
end L2
namespace L2
open PySem PySem.Spec PyProof.Rows
def SqL (K : PySem.W.Frag) (H : Hp) (a : Addr) (xs : List V) : Prop :=
  Rd H a (.lst xs) \/
    ∃ (o : Obj) (its : Array Value) (n : Nat), K.lookup a = some o /\ o.cls = .type "list" /\ o.dict = none /\ o.data = .seq its n /\ its.size <= sizeLine /\ Vals xs its.toList
def SqT (K : PySem.W.Frag) (H : Hp) (a : Addr) (xs : List V) : Prop :=
  Rd H a (.tup xs) \/
    ∃ (o : Obj) (its : Array Value) (n : Nat), K.lookup a = some o /\ o.cls = .type "tuple" /\ o.data = .seq its n /\ its.size <= sizeLine /\ Vals xs its.toList
def absV : Value -> Option V
  | .none => some .non
  | .bool b => some (.bl b)
  | .int i _ => some (.int i)
  | .str x _ => some (.str x)
  | .bytes b _ => some (.byt b)
  | .float b _ => some (.flt b)
  | .ref a => some (.ref a)
  | .type n => some (.ty n)
  | _ => none
theorem RelV.abs {x : V} {u : Value} (r : RelV x u) : absV u = some x := by
  cases x with
  | non => cases r; rfl
  | bl _ => cases r; rfl
  | int _ => obtain ⟨t, rfl⟩ := r; rfl
  | str _ => obtain ⟨t, rfl⟩ := r; rfl
  | byt _ => obtain ⟨t, rfl⟩ := r; rfl
  | flt _ => obtain ⟨t, rfl⟩ := r; rfl
  | ref _ => cases r; rfl
  | ty _ => cases r; rfl
theorem RelV.inj {x y : V} {u : Value} (r : RelV x u) (q : RelV y u) : x = y := Option.some.inj (r.abs.symm.trans q.abs)
theorem Vals.inj : ∀ {xs ys : List V} {us : List Value}, Vals xs us -> Vals ys us -> xs = ys
  | _, _, _, .nil, .nil => rfl
  | _, _, _, .cons r t, .cons r' t' => by rw [r.inj r', Vals.inj t t']
section
variable {X : Cx} {pins : List (Addr × Obj)} {σ : St} {H : Hp} {s : Shared} {a : Addr} {xs ys : List V}
theorem SqL.of {K : PySem.W.Frag} (h : H a = some (.lst xs)) : SqL K H a xs := .inl (.inl h)
theorem SqT.of {K : PySem.W.Frag} (h : H a = some (.tup xs)) : SqT K H a xs := .inl (.inl h)
theorem Inv.list (I : Inv X pins σ H s) (h : SqL X.K H a xs) : ∃ its : List Value, Vals xs its /\ PlainL s.heap a its.toArray /\ xs.length <= sizeLine := by
  rcases h with h | ⟨o, its, n, hk, hc, hd, hs, hz, r⟩
  · obtain ⟨z, its, n, r, e⟩ := h.ok I.hok
    exact ⟨its, r, ⟨_, n, e, rfl, rfl, rfl⟩, z⟩
  · refine ⟨its.toList, r, ⟨o, n, I.kIn a o hk, hc, hd, by simpa using hs⟩, ?_⟩
    have e := r.length
    simp only [Array.length_toList] at e
    omega
theorem Inv.tuple (I : Inv X pins σ H s) (h : SqT X.K H a xs) : ∃ its : List Value, Vals xs its /\ IsTup s.heap a its.toArray /\ xs.length <= sizeLine := by
  rcases h with h | ⟨o, its, n, hk, hc, hs, hz, r⟩
  · obtain ⟨z, its, r, p⟩ := h.ok I.hok
    exact ⟨its, r, p, z⟩
  · refine ⟨its.toList, r, ⟨o, I.kIn a o hk, hc, n, by simpa using hs⟩, ?_⟩
    have e := r.length
    simp only [Array.length_toList] at e
    omega
theorem Inv.list_inj (I : Inv X pins σ H s) (h : SqL X.K H a xs) (h' : SqL X.K H a ys) : xs = ys := by
  obtain ⟨its, r, ⟨o, n, e, _, _, d⟩, _⟩ := I.list h
  obtain ⟨its', r', ⟨o', n', e', _, _, d'⟩, _⟩ := I.list h'
  rw [e] at e'; cases e'
  rw [d] at d'
  injection d' with d1 _
  have : its = its' := by simpa using congrArg Array.toList d1
  subst this
  exact r.inj r'
theorem Inv.tuple_inj (I : Inv X pins σ H s) (h : SqT X.K H a xs) (h' : SqT X.K H a ys) : xs = ys := by
  obtain ⟨its, r, ⟨o, e, _, n, d⟩, _⟩ := I.tuple h
  obtain ⟨its', r', ⟨o', e', _, n', d'⟩, _⟩ := I.tuple h'
  rw [e] at e'; cases e'
  rw [d] at d'
  injection d' with d1 _
  have : its = its' := by simpa using congrArg Array.toList d1
  subst this
  exact r.inj r'
end
abbrev Cx.wish (X : Cx) (E : Value -> Shared -> Prop) : Cx := { X with xe := E }
abbrev Cx.nox (X : Cx) : Cx := X.wish fun _ _ => False
theorem Cx.Ok.wish {X : Cx} (ok : X.Ok) (E : Value -> Shared -> Prop) : (X.wish E).Ok :=
  ⟨ok.mod, ok.kind, ok.glob, ok.blt, ok.above, ok.inj, ok.has, ok.cab, ok.hd, ok.frames, ok.stk, ok.exf, ok.bs, ok.bsz, ok.noex, ok.exfs, ok.funs, ok.frf⟩
theorem Cx.Ok.unwish {X : Cx} {E : Value -> Shared -> Prop} (ok : (X.wish E).Ok) : X.Ok :=
  ⟨ok.mod, ok.kind, ok.glob, ok.blt, ok.above, ok.inj, ok.has, ok.cab, ok.hd, ok.frames, ok.stk, ok.exf, ok.bs, ok.bsz, ok.noex, ok.exfs, ok.funs, ok.frf⟩
section
variable {X : Cx} {pins : List (Addr × Obj)} {σ : St} {H : Hp} {s : Shared} {E : Value -> Shared -> Prop}
theorem Inv.wish (I : Inv X pins σ H s) (E : Value -> Shared -> Prop) : Inv (X.wish E) pins σ H s := ⟨I.ok.wish E, I.os, I.bare, I.base, I.loc, I.cell, I.free, I.freeC, I.pin, I.hok, I.len⟩
theorem Inv.unwish (I : Inv (X.wish E) pins σ H s) : Inv X pins σ H s := ⟨I.ok.unwish, I.os, I.bare, I.base, I.loc, I.cell, I.free, I.freeC, I.pin, I.hok, I.len⟩
theorem SP.unwish {D : Ends} {f : Flow} {s' : Shared} (h : SP (X.wish E) pins D f s') : SP X pins D f s' := by
  cases f with
  | next => obtain ⟨σ', H', I, q⟩ := h; exact ⟨σ', H', I.unwish, q⟩
  | brk => obtain ⟨σ', H', I, q⟩ := h; exact ⟨σ', H', I.unwish, q⟩
  | cont => obtain ⟨σ', H', I, q⟩ := h; exact ⟨σ', H', I.unwish, q⟩
  | ret u => obtain ⟨v, σ', H', I, r, q⟩ := h; exact ⟨v, σ', H', I.unwish, r, q⟩
theorem PSs.nox {st : List Stmt} {t : TS} (h : PSs X.nox st t) : PSs X st t := fun pins s σ H D I hw =>
  wpAny_mono (h pins s σ H D (I.wish _) hw) (fun _ _ q => q.unwish) fun _ _ z => False.elim z
end
section
variable {X : Cx} {st : Stmt} {rest : List Stmt} {t u : TS} {e : Expr} {te : TE} {pos : Pos}
def tNext : TS := fun D σ H => D.nx σ H
def tSeq (t u : TS) : TS := fun D σ H => t { D with nx := u D } σ H
theorem pss_nil : PSs X [] tNext := fun _ _ σ H _ I h => wpAny_execs_nil ⟨σ, H, I, h⟩
theorem pss_cons (h1 : PS X st t) (h2 : PSs X rest u) : PSs X (st :: rest) (tSeq t u) := by
  intro pins s σ H D I h
  refine wpAny_execs_cons (thn (h1 pins s σ H { D with nx := u D } I h) fun f s1 q => ?_)
  cases f with
  | next =>
    obtain ⟨σ', H', I', q⟩ := q
    exact h2 pins s1 σ' H' D I' q
  | ret v => exact q
  | brk => exact q
  | cont => exact q
theorem pss_one (h1 : PS X st t) : PSs X [st] t := by
  intro pins s σ H D I h
  refine wpAny_execs_cons (thn (h1 pins s σ H D I h) fun f s1 q => ?_)
  cases f with
  | next => exact wpAny_execs_nil q
  | ret v => exact q
  | brk => exact q
  | cont => exact q
theorem Inv.quiet {pins : List (Addr × Obj)} {σ : St} {H : Hp} {s : Shared} (I : Inv X pins σ H s) : interactive X.env = false := by simp [interactive, I.ok.kind]
def tDrop (te : TE) : TS := fun D σ H => te σ H fun _ H1 => D.nx σ H1
theorem ps_expr (he : PE X e te) (hs : swapsWith e none pos.line X.env = pure false := by rfl) : PS X (.Expr e pos) (tDrop te) := by
  intro pins s σ H D I h
  exact wpAny_Expr_any (thn (he pins s σ H _ I h) fun v s1 ⟨x, H1, I1, r1, q1⟩ => ⟨σ, H1, I1, q1⟩) I.quiet hs
def tRet (te : TE) : TS := fun D σ H => te σ H D.rt
theorem ps_ret (he : PE X e te) : PS X (.Return (some e) pos) (tRet te) := by
  intro pins s σ H D I h
  exact wpAny_Return_some (thn (he pins s σ H _ I h) fun v s1 ⟨x, H1, I1, r1, q1⟩ => ⟨x, σ, H1, I1, r1, q1⟩)
def tIfS (c : TT) (t u : TS) : TS := fun D σ H => c σ H fun b H1 => if b = true then t D σ H1 else u D σ H1
theorem ps_if {c : Expr} {a b : List Stmt} {tc : TT} (hc : PT X c tc) (ha : PSs X a t) (hb : PSs X b u) : PS X (.If c a b pos) (tIfS tc t u) := by
  intro pins s σ H D I h
  refine wpAny_If (thn (hc pins s σ H _ I h) fun d s1 ⟨H1, I1, q1⟩ => ?_)
  cases d with
  | true => exact ha pins s1 σ H1 D I1 q1
  | false => exact hb pins s1 σ H1 D I1 q1
end
abbrev TG := V -> St -> Hp -> (St -> Hp -> Prop) -> Prop
abbrev TGs := List V -> St -> Hp -> (St -> Hp -> Prop) -> Prop
def PG (X : Cx) (target : Expr) (t : TG) : Prop :=
  ∀ (pins : List (Addr × Obj)) (s : Shared) (σ : St) (H : Hp) (v : V) (u : Value) (Q : St -> Hp -> Prop), Inv X pins σ H s -> RelV v u -> t v σ H Q ->
    wpAny (model X.prog X.w) X.A (assign target X.env u) (fun _ s' => ∃ σ' H', Inv X pins σ' H' s' /\ Q σ' H') X.xe s
def PGs (X : Cx) (ts : List Expr) (t : TGs) : Prop :=
  ∀ (pins : List (Addr × Obj)) (s : Shared) (σ : St) (H : Hp) (vs : List V) (us : List Value) (Q : St -> Hp -> Prop), Inv X pins σ H s -> Vals vs us -> t vs σ H Q ->
    wpAny (model X.prog X.w) X.A (assignInOrder ((assignEach ts X.env).map (·.2)) us) (fun _ s' => ∃ σ' H', Inv X pins σ' H' s' /\ Q σ' H') X.xe s
abbrev TSet := V -> V -> V -> Hp -> (Hp -> Prop) -> Prop
def PSet (X : Cx) (t : TSet) : Prop :=
  ∀ (pins : List (Addr × Obj)) (s : Shared) (σ : St) (H : Hp) (o i v : V) (ov iv u : Value) (Q : Hp -> Prop), Inv X pins σ H s -> RelV o ov -> RelV i iv -> RelV v u -> t o i v H Q ->
    wpAny (model X.prog X.w) X.A (setItem ov iv u) (fun _ s' => ∃ H', Inv X pins σ H' s' /\ Q H') X.xe s
section
variable {X : Cx} {pos : Pos}
def gName (i : Nat) : TG := fun v σ H Q => Q (σ.set i (some v)) H
theorem pg_name {i : Nat} {x : Str} (hN : X.N.Nodup) (hi : X.N[i]? = some x) (hx : Loc X.env.scope x) (hf : X.fn x = true \/ X.env.scope.names.lookup x = some .local := by first | exact .inl rfl | exact .inr rfl | assumption) : PG X (.Name x pos) (gName i) := by
  intro pins s σ H v u Q I r h
  exact wpAny_assign_Name (store_ok I hN hi hx r (fun s' I' => ⟨_, H, I', h⟩) hf)
def gNil : TGs := fun vs σ H Q => vs = [] /\ Q σ H
def gCons (t : TG) (u : TGs) : TGs := fun vs σ H Q => ∃ v r, vs = v :: r /\ t v σ H fun σ' H' => u r σ' H' Q
theorem pgs_nil : PGs X [] gNil := by
  intro pins s σ H vs us Q I r h
  obtain ⟨e, h⟩ := h
  subst e
  cases r
  exact assignInOrder_nil ⟨σ, H, I, h⟩
theorem pgs_cons {e : Expr} {es : List Expr} {t : TG} {u : TGs} (h1 : PG X e t) (h2 : PGs X es u)
    (hs : (assignEach (e :: es) X.env).map (·.2) = assign e X.env :: (assignEach es X.env).map (·.2) := by rfl) : PGs X (e :: es) (gCons t u) := by
  intro pins s σ H vs us Q I r h
  obtain ⟨v, vr, e1, h⟩ := h
  subst e1
  cases r with
  | cons r rr =>
    rw [hs]
    refine assignInOrder_cons (thn (h1 pins s σ H _ _ _ I r h) fun _ s1 ⟨σ1, H1, I1, q1⟩ => ?_)
    exact h2 pins s1 σ1 H1 _ _ Q I1 rr q1
def gTup (K : PySem.W.Frag) (n : Nat) (t : TGs) : TG := fun v σ H Q => ∃ a xs, v = .ref a /\ SqT K H a xs /\ xs.length = n /\ t xs σ H Q
theorem pg_tup {es : List Expr} {k : Nat} {t : TGs} {n : Nat} (hc : X.calm = true) (h : PGs X es t)
    (hn : (assignEach es X.env).length = n := by rfl) (hst : (assignEach es X.env).findIdx? (·.1) = none := by rfl) : PG X (.Tuple es k pos) (gTup X.K n t) := by
  intro pins s σ H v u Q I r hw
  obtain ⟨a, xs, e1, hq, hl, hw⟩ := hw
  subst e1
  cases r
  obtain ⟨its, rv, ht, hz⟩ := I.tuple hq
  refine assign_Tuple_tuple (I.ok.hd hc) ht (by simp [hn, <- hl, rv.length]) hst fun h' hx => ?_
  have I1 : Inv X pins σ H { s with heap := h' } := I.kept (t' := s.toks) fun b o e => hx b o (Nat.ne_of_lt (Heap.lt_size e)) e
  exact h pins _ σ H xs _ Q I1 (by simpa using rv) hw
def gSub (to ti : TE) (t : TSet) : TG := fun v σ H Q => to σ H fun o H1 => ti σ H1 fun i H2 => t o i v H2 fun H3 => Q σ H3
theorem pg_sub {o i : Expr} {to ti : TE} {t : TSet} (ho : PE X o to) (hi : PE X i ti) (hs : PSet X t)
    (ha : ∀ v, assign (.Subscript o i pos) X.env v = (do
      let ov <- holding [v] (eval o X.env)
      let iv <- holding [v, ov] (eval i X.env)
      standAt pos
      holding [v, ov, iv] (setItem ov iv v)
      release [v, ov, iv] []) := by intro _; rfl) : PG X (.Subscript o i pos) (gSub to ti t) := by
  intro pins s σ H v u Q I r h
  rw [ha]
  refine wpAny_bind (wpAny_holding (thn (ho pins s σ H _ I h) fun ov s1 ⟨x, H1, I1, r1, q1⟩ => ?_))
  refine wpAny_bind (wpAny_holding (thn (hi pins s1 σ H1 _ I1 q1) fun iv s2 ⟨y, H2, I2, r2, q2⟩ => ?_))
  refine wpAny_bind (wpAny_standAt (wpAny_bind (wpAny_holding (thn (hs pins s2 σ H2 x y v ov iv u _ I2 r1 r2 r q2) fun _ s3 ⟨H3, I3, q3⟩ => ?_))))
  exact wpAny_release ⟨σ, H3, I3, q3⟩
def tAsg (te : TE) (g : TG) : TS := fun D σ H => te σ H fun x H1 => g x σ H1 D.nx
theorem ps_asg {tg e : Expr} {te : TE} {g : TG} (he : PE X e te) (hg : PG X tg g) (hs : swapsWithSole [tg] e pos.line X.env = pure false := by rfl) (hw : swappedStores [tg] e X.env = pure none := by rfl)
    (h1 : (assignEach [tg] X.env).map (·.2) = [assign tg X.env] := by rfl) : PS X (.Assign [tg] e pos) (tAsg te g) := by
  intro pins s σ H D I h
  refine wpAny_Assign_stores (thn (he pins s σ H _ I h) fun v s1 ⟨x, H1, I1, r1, q1⟩ => ?_) hs hw
  rw [h1]
  exact thn (hg pins s1 σ H1 x v _ I1 r1 q1) fun _ s2 q => q
theorem ps_set {i : Nat} {x : Str} {e : Expr} {te : TE} {pos' : Pos} (hN : X.N.Nodup) (hi : X.N[i]? = some x) (hx : Loc X.env.scope x) (he : PE X e te) (hs : swapsWith e (some (.Name x pos')) pos.line X.env = pure false := by rfl) (hf : X.fn x = true \/ X.env.scope.names.lookup x = some .local := by first | exact .inl rfl | exact .inr rfl | assumption) :
    PS X (.Assign [.Name x pos'] e pos) (tAsg te (gName i)) := by
  intro pins s σ H D I h
  refine wpAny_Assign_Name (thn (he pins s σ H _ I h) fun v s1 ⟨y, H1, I1, r1, q1⟩ => ?_) hs
  exact store_ok I1 hN hi hx r1 (fun s2 I2 => ⟨_, H1, I2, q1⟩) hf
end
section
variable {X : Cx} {pos : Pos}
def tWhile (c : TT) (tb : TS) : TS := fun D σ H => ∃ W : Nat -> St -> Hp -> Prop, (∃ m, W m σ H) /\ ∀ m σ H, W m σ H ->
  c σ H fun b H1 => if b = true then ∃ N : St -> Hp -> Prop, (∀ σ' H', N σ' H' -> ∃ m', m' < m /\ W m' σ' H') /\ tb { D with nx := N, ct := N, bk := D.nx } σ H1 else D.nx σ H1
theorem ps_while {c : Expr} {body : List Stmt} {tc : TT} {tb : TS} (hp : PassesOwn (model X.prog X.w) X.A X.env X.xe) (hc : PT X c tc) (hb : PSs X body tb) : PS X (.While c body [] pos) (tWhile tc tb) := by
  intro pins s σ H D I h
  obtain ⟨W, ⟨m0, w0⟩, turn⟩ := h
  refine wpAny_While (codeAny_whileLoop (fun n s' => ∃ σ' H', Inv X pins σ' H' s' /\ W n σ' H') ?_ m0 ⟨σ, H, I, w0⟩)
  rintro n s1 ⟨σ1, H1, I1, w1⟩
  refine wpAny_passesOwn hp (thn (hc pins s1 σ1 H1 _ I1 (turn n σ1 H1 w1)) fun b s2 ⟨H2, I2, q2⟩ => ?_)
  cases b with
  | true =>
    obtain ⟨N, hN, q2⟩ := q2
    rw [if_pos rfl]
    refine wpAny_passesOwn hp (thn (hb pins s2 σ1 H2 _ I2 q2) fun f s3 q3 => ?_)
    cases f with
    | next =>
      obtain ⟨σ3, H3, I3, n3⟩ := q3
      obtain ⟨m', hm, w3⟩ := hN σ3 H3 n3
      exact ⟨m', hm, σ3, H3, I3, w3⟩
    | cont =>
      obtain ⟨σ3, H3, I3, n3⟩ := q3
      obtain ⟨m', hm, w3⟩ := hN σ3 H3 n3
      exact ⟨m', hm, σ3, H3, I3, w3⟩
    | brk => exact q3
    | ret v => exact q3
  | false =>
    rw [if_neg Bool.false_ne_true]
    exact wpAny_execs_nil ⟨σ1, H2, I2, q2⟩
end
structure It where
  go : Nat -> Hp -> Prop
  yld : Nat -> Hp -> V -> Hp -> Prop
  stop : Nat -> Hp -> Prop
def FpOk (X : Cx) (pins : List (Addr × Obj)) (H : Hp) (b : Addr) : Prop :=
  H b = none /\ b ≠ X.env.locals /\ b ∉ X.fs /\ (b ∈ X.ex \/ X.s₀.heap.objs.size <= b) /\ (∀ x c, X.env.cells.lookup x = some c -> c ≠ b) /\ ∀ p ∈ X.pn ++ pins, p.1 ≠ b
theorem Inv.fpOk {X : Cx} {pins : List (Addr × Obj)} {σ : St} {H H' : Hp} {s : Shared} {b : Addr} (I : Inv X pins σ H s) (hb : s.heap.objs.size <= b) (hn : H' b = none) : FpOk X pins H' b := by
  refine ⟨hn, Nat.ne_of_gt (Nat.lt_of_lt_of_le I.lt hb), I.nofs hb, .inr (Nat.le_trans I.sz hb), fun x c e z => ?_, fun p hp z => ?_⟩
  · obtain ⟨v, q⟩ := I.cell x c e
    exact absurd (Nat.lt_of_lt_of_le q.lt (by rw [z]; exact hb)) (Nat.lt_irrefl _)
  · exact absurd (Nat.lt_of_lt_of_le (Heap.lt_size (I.pin p hp).1) (by rw [z]; exact hb)) (Nat.lt_irrefl _)
structure Turn (P : Program) (w : World) (K : PySem.W.Frag) (tg : Expr) (J : It) (fp : List Addr) (it : Addr) (tn : Nat -> Heap -> Prop) : Prop where
  mem : it ∈ fp
  obj : ∀ i h, tn i h -> ∀ b ∈ fp, ∃ o, h.get? b = some o /\ ∀ v, o.data ≠ .cell v
  keep : ∀ i h h', tn i h -> (∀ b ∈ fp, ∀ o, h.get? b = some o -> h'.get? b = some o) -> tn i h'
  item : ∀ (X : Cx), X.prog = P -> X.w = w -> X.K = K -> X.calm = true -> ∀ (i : Nat) (pins : List (Addr × Obj)) (s : Shared) (σ : St) (H : Hp) (E : Value -> Shared -> Prop), Inv X pins σ H s -> (∀ b ∈ fp, FpOk X pins H b) -> tn i s.heap -> J.go i H ->
    wpAny (model P w) X.A (pyNext (.ref it)) (fun r s1 => ∃ u, r = some u /\
      wpAny (model P w) X.A (letOwnedTupleGo tg (.ref it) u) (fun _ s2 => ∃ x H', Inv X pins σ H' s2 /\ RelV x u /\ J.yld i H x H' /\ tn (i + 1) s2.heap /\ ∀ b ∈ fp, H' b = none) E s1) E s
  done : ∀ (X : Cx), X.prog = P -> X.w = w -> X.K = K -> X.calm = true -> ∀ (i : Nat) (pins : List (Addr × Obj)) (s : Shared) (σ : St) (H : Hp) (E : Value -> Shared -> Prop), Inv X pins σ H s -> (∀ b ∈ fp, FpOk X pins H b) -> tn i s.heap -> J.stop i H ->
    wpAny (model P w) X.A (pyNext (.ref it)) (fun r s1 => r = none /\ Inv X pins σ H s1) E s
  self : ∀ (A : Around) (i : Nat) (s : Shared) (Q : Value -> Shared -> Prop) (E : Value -> Shared -> Prop), tn i s.heap -> Q (.ref it) s -> wpAny (model P w) A (pyIter (.ref it)) Q E s
abbrev TI := St -> Hp -> (It -> Hp -> Prop) -> Prop
def PIE (X : Cx) (pins : List (Addr × Obj)) (σ : St) (tg : Expr) (R : It -> Hp -> Prop) (itv : Value) (s2 : Shared) : Prop :=
  ∃ (it : Addr) (fp : List Addr) (tn : Nat -> Heap -> Prop) (J : It) (H' : Hp), itv = .ref it /\ Inv X pins σ H' s2 /\ Turn X.prog X.w X.K tg J fp it tn /\ tn 0 s2.heap /\ (∀ b ∈ fp, FpOk X pins H' b) /\ R J H'
def PI (X : Cx) (tg iter : Expr) (wi : TI) : Prop :=
  ∀ (pins : List (Addr × Obj)) (s : Shared) (σ : St) (H : Hp) (R : It -> Hp -> Prop), Inv X pins σ H s -> wi σ H R ->
    wpAny (model X.prog X.w) X.A (eval iter X.env) (fun v s1 => wpAny (model X.prog X.w) X.A (pyIter v) (PIE X pins σ tg R) X.xe s1) X.xe s
theorem go_of {M : Model} {A : Around} {E : Value -> Shared -> Prop} {s : Shared} {tg : Expr} {it : Addr} {u : Value} {o : Obj} {n : String} {vs : Array Value} {Q : Unit -> Shared -> Prop} (ho : s.heap.get? it = some o) (hc : o.cls = .type n) (hd : o.data = .fields vs)
    (hn : ["enumerate", "zip", "dict_itemiterator", "dict_reverseitemiterator", "odict_iterator", "itertools.zip_longest", "itertools.pairwise"].contains n = false) (hQ : Q () s) : wpAny M A (letOwnedTupleGo tg (.ref it) u) Q E s := by
  unfold letOwnedTupleGo
  cases tg <;> first
    | exact wpAny_pure hQ
    | (cases u <;> first
        | exact wpAny_pure hQ
        | (refine wpAny_bind (wpAny_load ho ?_)
           rw [hc, hd]
           show wpAny M A (if (["enumerate", "zip", "dict_itemiterator", "dict_reverseitemiterator", "odict_iterator", "itertools.zip_longest", "itertools.pairwise"].contains n && vs[0]? == some (rawInt _)) = true then _ else _) Q E s
           rw [if_neg (by intro h; rw [hn, Bool.false_and] at h; cases h)]
           exact wpAny_pure hQ))
def Itl (K : PySem.W.Frag) (a : Addr) : It :=
  ⟨fun i H => ∃ xs x, SqL K H a xs /\ xs[i]? = some x, fun i H x H' => H' = H /\ ∀ xs, SqL K H a xs -> xs[i]? = some x, fun i H => ∃ xs, SqL K H a xs /\ xs.length <= i⟩
def Itt (K : PySem.W.Frag) (a : Addr) : It :=
  ⟨fun i H => ∃ xs x, SqT K H a xs /\ xs[i]? = some x, fun i H x H' => H' = H /\ ∀ xs, SqT K H a xs -> xs[i]? = some x, fun i H => ∃ xs, SqT K H a xs /\ xs.length <= i⟩
def Itr (lo : Int) (n : Nat) : It := ⟨fun i _ => i < n, fun i H x H' => H' = H /\ x = .int (lo + i), fun i _ => n <= i⟩
theorem turn_list {P : Program} {w : World} {K : PySem.W.Frag} {tg : Expr} (a it : Addr) : Turn P w K tg (Itl K a) [it] it (fun i h => h.IsListIter it a i) where
  mem := by simp
  obj := fun i h st b hb => by
    have e : b = it := by simpa using hb
    subst e
    obtain ⟨o, e, c, d⟩ := st
    exact ⟨o, e, fun v z => by rw [d] at z; cases z⟩
  keep := fun i h h' st k => st.at fun o e => k it (by simp) o e
  item := by
    intro X hP hw hK hc i pins s σ H E I hf st hg
    subst hP hw hK
    obtain ⟨xs, x, hq, hx⟩ := hg
    obtain ⟨its, rv, p, hz⟩ := I.list hq
    obtain ⟨u, hu, ru⟩ := rv.get hx
    obtain ⟨f0, f1, f2, f3, f4, f5⟩ := hf it (by simp)
    refine wpAny_pyNext_list_item st p.isList (x := u) (by simpa using hu) fun h' st' sb => ?_
    have I1 : Inv X pins σ H { s with heap := h' } := I.turned (t' := s.toks) (fun b o hb e => (sb.2 b hb).trans e) f0 f1 f3 f4 f5
    obtain ⟨o, e, c, d⟩ := id st'
    exact ⟨u, rfl, go_of (s := { s with heap := h' }) e c d (by decide) ⟨x, H, I1, ru, ⟨rfl, fun ys hy => by rw [I.list_inj hy hq]; exact hx⟩, st', fun b hb => (hf b hb).1⟩⟩
  done := by
    intro X hP hw hK hc i pins s σ H E I hf st hg
    subst hP hw hK
    obtain ⟨xs, hq, hx⟩ := hg
    obtain ⟨its, rv, p, hz⟩ := I.list hq
    obtain ⟨f0, f1, f2, f3, f4, f5⟩ := hf it (by simp)
    have hl := rv.length
    exact wpAny_pyNext_list_end (I.ok.hd hc) st p.isList (by simp; omega) fun h' eb => ⟨rfl, I.turned (t' := s.toks) (fun b o hb e => eb b o hb e) f0 f1 f3 f4 f5⟩
  self := fun _ _ _ _ _ st h => wpAny_pyIter_listiter st h
theorem turn_tuple {P : Program} {w : World} {K : PySem.W.Frag} {tg : Expr} (a it : Addr) : Turn P w K tg (Itt K a) [it] it (fun i h => h.IsTupleIter it a i) where
  mem := by simp
  obj := fun i h st b hb => by
    have e : b = it := by simpa using hb
    subst e
    obtain ⟨o, e, c, d⟩ := st
    exact ⟨o, e, fun v z => by rw [d] at z; cases z⟩
  keep := fun i h h' st k => st.at fun o e => k it (by simp) o e
  item := by
    intro X hP hw hK hc i pins s σ H E I hf st hg
    subst hP hw hK
    obtain ⟨xs, x, hq, hx⟩ := hg
    obtain ⟨its, rv, p, hz⟩ := I.tuple hq
    obtain ⟨u, hu, ru⟩ := rv.get hx
    obtain ⟨f0, f1, f2, f3, f4, f5⟩ := hf it (by simp)
    refine wpAny_pyNext_tuple_item st (show s.heap.IsTuple a its.toArray from p) (x := u) (by simpa using hu) fun h' st' sb => ?_
    have I1 : Inv X pins σ H { s with heap := h' } := I.turned (t' := s.toks) (fun b o hb e => (sb.2 b hb).trans e) f0 f1 f3 f4 f5
    obtain ⟨o, e, c, d⟩ := id st'
    exact ⟨u, rfl, go_of (s := { s with heap := h' }) e c d (by decide) ⟨x, H, I1, ru, ⟨rfl, fun ys hy => by rw [I.tuple_inj hy hq]; exact hx⟩, st', fun b hb => (hf b hb).1⟩⟩
  done := by
    intro X hP hw hK hc i pins s σ H E I hf st hg
    subst hP hw hK
    obtain ⟨xs, hq, hx⟩ := hg
    obtain ⟨its, rv, p, hz⟩ := I.tuple hq
    obtain ⟨f0, f1, f2, f3, f4, f5⟩ := hf it (by simp)
    have hl := rv.length
    exact wpAny_pyNext_tuple_end (I.ok.hd hc) st (show s.heap.IsTuple a its.toArray from p) (by simp; omega) fun h' eb => ⟨rfl, I.turned (t' := s.toks) (fun b o hb e => eb b o hb e) f0 f1 f3 f4 f5⟩
  self := fun _ _ _ _ _ st h => wpAny_pyIter_tupleiter st h
theorem turn_range {P : Program} {w : World} {K : PySem.W.Frag} {tg : Expr} (it : Addr) (lo : Int) (n : Nat) : Turn P w K tg (Itr lo n) [it] it (fun i h => IsRangeIter h it (lo + (i : Nat) * 1) ((n : Int) - (i : Nat)) 1) where
  mem := by simp
  obj := fun i h st b hb => by
    have e : b = it := by simpa using hb
    subst e
    exact ⟨_, st, fun v z => by
      have z' : Data.fields _ = Data.cell v := z
      cases z'⟩
  keep := fun i h h' st k => k it (by simp) _ st
  item := by
    intro X hP hw hK hc i pins s σ H E I hf st hg
    subst hP hw hK
    obtain ⟨f0, f1, f2, f3, f4, f5⟩ := hf it (by simp)
    have W := Walks.range (prog := X.prog) (w := X.w) (I.ok.hd hc) it lo 1 n
    refine W.item i s _ _ hg st fun v h' tk hv st' kk => ?_
    obtain ⟨t, rfl⟩ := hv
    have I1 : Inv X pins σ H { s with heap := h', toks := tk } := I.turned (fun b o hb e => kk b o (by simpa using hb) e) f0 f1 f3 f4 f5
    refine ⟨_, rfl, go_of (s := { s with heap := h', toks := tk }) (n := "range_iterator") st' rfl rfl (by decide) ⟨.int (lo + i), H, I1, ⟨t, ?_⟩, ⟨rfl, rfl⟩, st', fun b hb => (hf b hb).1⟩⟩
    rw [Int.mul_one]
  done := by
    intro X hP hw hK hc i pins s σ H E I hf st hg
    subst hP hw hK
    obtain ⟨f0, f1, f2, f3, f4, f5⟩ := hf it (by simp)
    exact wpAny_pyNext_range_end (I.ok.hd hc) st (by have : n <= i := hg; omega) fun h' eb => ⟨rfl, I.turned (t' := s.toks) (fun b o hb e => eb b o hb e) f0 f1 f3 f4 f5⟩
  self := fun _ _ _ _ _ st h => wpAny_pyIter_rangeiter st h
end L2
namespace L2
open PySem PySem.Spec PyProof.Rows
section
variable {X : Cx} {tg : Expr}
def iList (K : PySem.W.Frag) (tl : TE) : TI := fun σ H R => tl σ H fun x H1 => ∃ a, x = .ref a /\ (∃ xs, SqL K H1 a xs) /\ R (Itl K a) H1
def iTup (K : PySem.W.Frag) (tl : TE) : TI := fun σ H R => tl σ H fun x H1 => ∃ a, x = .ref a /\ (∃ xs, SqT K H1 a xs) /\ R (Itt K a) H1
theorem pi_list {l : Expr} {tl : TE} (hl : PE X l tl) : PI X tg l (iList X.K tl) := by
  intro pins s σ H R I h
  refine thn (hl pins s σ H _ I h) fun v s1 ⟨x, H1, I1, r1, q1⟩ => ?_
  obtain ⟨a, e, ⟨xs, hq⟩, q⟩ := q1
  subst e
  cases r1
  obtain ⟨its, rv, p, hz⟩ := I1.list hq
  refine wpAny_pyIter_list p.isList ?_
  refine ⟨s1.heap.objs.size, [s1.heap.objs.size], _, _, H1, rfl, I1.kept (t' := s1.toks) fun b o e => Heap.get?_push_of_some _ e, turn_list a _, ⟨_, Heap.get?_push_size _ rfl, rfl, rfl⟩, fun b hb => ?_, q⟩
  have e : b = s1.heap.objs.size := by simpa using hb
  subst e
  exact I1.fpOk (Nat.le_refl _) (I1.hok.fresh (Nat.le_refl _))
theorem pi_tup {l : Expr} {tl : TE} (hl : PE X l tl) : PI X tg l (iTup X.K tl) := by
  intro pins s σ H R I h
  refine thn (hl pins s σ H _ I h) fun v s1 ⟨x, H1, I1, r1, q1⟩ => ?_
  obtain ⟨a, e, ⟨xs, hq⟩, q⟩ := q1
  subst e
  cases r1
  obtain ⟨its, rv, p, hz⟩ := I1.tuple hq
  refine wpAny_pyIter_tuple (show s1.heap.IsTuple a its.toArray from p) ?_
  refine ⟨s1.heap.objs.size, [s1.heap.objs.size], _, _, H1, rfl, I1.kept (t' := s1.toks) fun b o e => Heap.get?_push_of_some _ e, turn_tuple a _, ⟨_, Heap.get?_push_size _ rfl, rfl, rfl⟩, fun b hb => ?_, q⟩
  have e : b = s1.heap.objs.size := by simpa using hb
  subst e
  exact I1.fpOk (Nat.le_refl _) (I1.hok.fresh (Nat.le_refl _))
theorem range_it {pins : List (Addr × Obj)} {σ : St} {H : Hp} {s : Shared} {R : It -> Hp -> Prop} {E : Value -> Shared -> Prop} {lo hi : Int} {t u v : Tok} {tk : Nat} (I : Inv X pins σ H s) (h1 : -(2 ^ 62) <= lo) (h2 : lo < 2 ^ 62) (h3 : -(2 ^ 62) <= hi) (h4 : hi < 2 ^ 62)
    (q : R (Itr lo (hi - lo).toNat) H) : wpAny (model X.prog X.w) X.A (pyIter (.ref s.heap.objs.size)) (PIE X pins σ tg R) E { s with heap := s.heap.push { cls := .type "range", data := .fields #[.int lo t, .int hi u, .int 1 v] }, toks := tk } := by
  refine wpAny_pyIter_range (IsRange.new ..) (small_one h1 h2 h3 h4) ?_
  have I1 : Inv X pins σ H { s with heap := s.heap.push { cls := .type "range", data := .fields #[.int lo t, .int hi u, .int 1 v] }, toks := tk } := I.kept fun b o e => Heap.get?_push_of_some _ e
  refine ⟨(s.heap.push { cls := .type "range", data := .fields #[.int lo t, .int hi u, .int 1 v] }).objs.size, [(s.heap.push { cls := .type "range", data := .fields #[.int lo t, .int hi u, .int 1 v] }).objs.size], _, _, H, rfl,
    I1.kept (t' := tk) fun b o e => Heap.get?_push_of_some _ e, turn_range _ lo (hi - lo).toNat, ?_, fun b hb => ?_, q⟩
  · have e1 : lo + ((0 : Nat) : Int) * 1 = lo := by simp
    have e2 : (((hi - lo).toNat : Nat) : Int) - ((0 : Nat) : Int) = Builtin.Range.rangeSize lo hi 1 := by rw [rangeSize_one]; split <;> omega
    show IsRangeIter _ _ (lo + ((0 : Nat) : Int) * 1) ((((hi - lo).toNat : Nat) : Int) - ((0 : Nat) : Int)) 1
    rw [e1, e2]
    exact Heap.get?_push_size _ rfl
  · have e : b = (s.heap.push { cls := .type "range", data := .fields #[.int lo t, .int hi u, .int 1 v] }).objs.size := by simpa using hb
    subst e
    exact I1.fpOk (Nat.le_refl _) (I1.hok.fresh (Nat.le_refl _))
def iRng1 (ta : TA) : TI := fun σ H R => ta σ H fun vs H1 => ∃ j : Int, vs = [.int j] /\ -(2 ^ 62) <= j /\ j < 2 ^ 62 /\ R (Itr 0 j.toNat) H1
def iRng2 (ta : TA) : TI := fun σ H R => ta σ H fun vs H1 => ∃ i j : Int, vs = [.int i, .int j] /\ (-(2 ^ 62) <= i /\ i < 2 ^ 62 /\ -(2 ^ 62) <= j /\ j < 2 ^ 62) /\ R (Itr i (j - i).toNat) H1
theorem pi_range1 {a : Expr} {ta : TA} {p pos : Pos} (hg : Gl X "range") (hm : X.mg "range" = none) (ha : PA X [a] ta) (hs : starEach [a] X.env = [(false, eval a X.env)] := by rfl) : PI X tg (.Call (.Name "range" p) [a] [] pos) (iRng1 ta) := by
  intro pins s σ H R I h
  refine Call_ (ld_blt I hg hm boot_range (PyProof.Rows.callWith_type1 (thn (ha pos pins s σ H _ I h) fun us s1 ⟨vs, H1, I1, r1, q1⟩ => ?_) hs rfl))
  obtain ⟨j, e, q1, q2, q⟩ := q1
  subst e
  cases r1 with
  | cons r rr =>
    cases rr
    obtain ⟨t, rfl⟩ := r
    exact call_range_1 (range_it I1 (by omega) (by omega) q1 q2 (by simpa using q))
theorem pi_range2 {a b : Expr} {ta : TA} {p pos : Pos} (hg : Gl X "range") (hm : X.mg "range" = none) (ha : PA X [a, b] ta) (hs : starEach [a, b] X.env = [(false, eval a X.env), (false, eval b X.env)] := by rfl) (hs2 : starEach [b] X.env = [(false, eval b X.env)] := by rfl) :
    PI X tg (.Call (.Name "range" p) [a, b] [] pos) (iRng2 ta) := by
  intro pins s σ H R I h
  refine Call_ (ld_blt I hg hm boot_range (PyProof.Rows.callWith_type1 (thn (ha pos pins s σ H _ I h) fun us s1 ⟨vs, H1, I1, r1, q1⟩ => ?_) (by rw [hs, hs2]) (by rw [hs2]; rfl)))
  obtain ⟨i, j, e, ⟨q1, q2, q3, q4⟩, q⟩ := q1
  subst e
  cases r1 with
  | cons r rr =>
    cases rr with
    | cons r' rr =>
      cases rr
      obtain ⟨t, rfl⟩ := r
      obtain ⟨t', rfl⟩ := r'
      exact call_range_2 (range_it I1 q1 q2 q3 q4 q)
def tFor (wi : TI) (g : TG) (tb : TS) : TS := fun D σ H => wi σ H fun J H1 => ∃ W : Nat -> Nat -> St -> Hp -> Prop, (∃ m, W 0 m σ H1) /\ ∀ i m σ H, W i m σ H ->
  (J.stop i H /\ D.nx σ H) \/ (J.go i H /\ ∃ N : St -> Hp -> Prop, (∀ σ' H', N σ' H' -> ∃ m', m' < m /\ W (i + 1) m' σ' H') /\ ∀ x H', J.yld i H x H' -> g x σ H' fun σ2 H2 => tb { D with nx := N, ct := N, bk := D.nx } σ2 H2)
def pinsAt (fp : List Addr) (h : Heap) : List (Addr × Obj) := fp.filterMap fun b => (h.get? b).map fun o => (b, o)
theorem mem_pinsAt {fp : List Addr} {h : Heap} {b : Addr} {o : Obj} (hb : b ∈ fp) (e : h.get? b = some o) : (b, o) ∈ pinsAt fp h := List.mem_filterMap.mpr ⟨b, hb, by rw [e]; rfl⟩
theorem of_pinsAt {fp : List Addr} {h : Heap} {p : Addr × Obj} (hp : p ∈ pinsAt fp h) : p.1 ∈ fp /\ h.get? p.1 = some p.2 := by
  obtain ⟨b, hb, e⟩ := List.mem_filterMap.mp hp
  cases q : h.get? b with
  | none => rw [q] at e; cases e
  | some o =>
    rw [q] at e
    have e' : (b, o) = p := Option.some.inj e
    subst e'
    exact ⟨hb, q⟩
theorem Inv.pinned {pins : List (Addr × Obj)} {σ : St} {H : Hp} {s : Shared} {fp : List Addr} (I : Inv X pins σ H s) (hf : ∀ b ∈ fp, FpOk X pins H b) (ho : ∀ b ∈ fp, ∃ o, s.heap.get? b = some o /\ ∀ v, o.data ≠ .cell v) : Inv X (pins ++ pinsAt fp s.heap) σ H s :=
  I.pins_of fun p hp => (List.mem_append.mp hp).elim (fun z => I.pin p (List.mem_append_right _ z)) fun z => by
    obtain ⟨hb, e⟩ := of_pinsAt z
    obtain ⟨f0, f1, f2, _⟩ := hf p.1 hb
    obtain ⟨o, e', d⟩ := ho p.1 hb
    rw [e] at e'; cases e'
    exact ⟨e, f0, f1, f2, d⟩
theorem Inv.unpinned {pins pl : List (Addr × Obj)} {σ : St} {H : Hp} {s : Shared} (I : Inv X (pins ++ pl) σ H s) : Inv X pins σ H s := I.pins_of fun p hp => I.pin p (List.mem_append_right _ (List.mem_append_left _ hp))
theorem ps_for {iter : Expr} {body : List Stmt} {wi : TI} {g : TG} {tb : TS} {pos : Pos} (hp : PassesOwn (model X.prog X.w) X.A X.env X.xe) (hc : X.calm = true) (hi : PI X tg iter wi) (hg : PG X tg g) (hb : PSs X body tb)
    (hs : ∀ x, foldedSetIterable iter X.env x = pure x := by intro _; rfl) : PS X (.For tg iter body [] pos) (tFor wi g tb) := by
  intro pins s σ H D I h
  refine wpAny_For (thn (hi pins s σ H _ I h) fun v s1 h1 => thn h1 fun itv s2 h2 => ?_) hs
  obtain ⟨it, fp, tn, J, H2, e, I2, T, st2, f2, W, ⟨m0, w0⟩, turn⟩ := h2
  subst e
  have stat : ∀ {H' : Hp}, (∀ b ∈ fp, H' b = none) -> ∀ b ∈ fp, FpOk X pins H' b := fun hn b hb => ⟨hn b hb, (f2 b hb).2⟩
  refine codeAny_forLoop_any (fun n s' => ∃ i σ' H', Inv X pins σ' H' s' /\ tn i s'.heap /\ (∀ b ∈ fp, H' b = none) /\ W i n σ' H') ?_ m0 ⟨0, σ, H2, I2, st2, fun b hb => (f2 b hb).1, w0⟩
  rintro n s3 ⟨i, σ3, H3, I3, st3, fr3, w3⟩
  rcases turn i n σ3 H3 w3 with ⟨stop, qn⟩ | ⟨go, N, hN, step⟩
  · refine wpAny_passesOwn hp (thn (T.done X rfl rfl rfl hc i pins s3 σ3 H3 X.xe I3 (stat fr3) st3 stop) fun r s4 ⟨hr, I4⟩ => ?_)
    subst hr
    exact wpAny_execs_nil ⟨σ3, H3, I4, qn⟩
  · refine wpAny_passesOwn hp (thn (T.item X rfl rfl rfl hc i pins s3 σ3 H3 X.xe I3 (stat fr3) st3 go) fun r s4 ⟨u, hr, h4⟩ => ?_)
    subst hr
    refine wpAny_passesOwn hp (thn h4 fun _ s5 ⟨x, H5, I5, r5, y5, st5, fr5⟩ => ?_)
    have I5' := I5.pinned (stat fr5) (T.obj _ _ st5)
    refine wpAny_passesOwn hp (thn (hg _ s5 σ3 H5 x u _ I5' r5 (step x H5 y5)) fun _ s6 ⟨σ6, H6, I6, q6⟩ => ?_)
    refine wpAny_passesOwn hp (thn (hb _ s6 σ6 H6 _ I6 q6) fun f s7 q7 => ?_)
    have again : ∀ {σ7 : St} {H7 : Hp}, Inv X (pins ++ pinsAt fp s5.heap) σ7 H7 s7 -> N σ7 H7 -> ∃ m, m < n /\ ∃ i σ' H', Inv X pins σ' H' s7 /\ tn i s7.heap /\ (∀ b ∈ fp, H' b = none) /\ W i m σ' H' := fun {σ7 H7} I7 n7 => by
      obtain ⟨m', hm, w7⟩ := hN σ7 H7 n7
      refine ⟨m', hm, i + 1, σ7, H7, I7.unpinned, T.keep _ _ _ st5 fun b hb o e => (I7.pin (b, o) (List.mem_append_right _ (List.mem_append_right _ (mem_pinsAt hb e)))).1, fun b hb => ?_, w7⟩
      obtain ⟨o, e, d⟩ := T.obj _ _ st5 b hb
      exact (I7.pin (b, o) (List.mem_append_right _ (List.mem_append_right _ (mem_pinsAt hb e)))).2.1
    cases f with
    | next => obtain ⟨σ7, H7, I7, n7⟩ := q7; exact again I7 n7
    | cont => obtain ⟨σ7, H7, I7, n7⟩ := q7; exact again I7 n7
    | brk => obtain ⟨σ7, H7, I7, q7⟩ := q7; exact ⟨σ7, H7, I7.unpinned, q7⟩
    | ret v => obtain ⟨x7, σ7, H7, I7, r7, q7⟩ := q7; exact ⟨x7, σ7, H7, I7.unpinned, r7, q7⟩
end
theorem for_list {K : PySem.W.Frag} {a : Addr} {xs : List V} {g : TG} {tb : TS} {D : Ends} {σ : St} {H : Hp} (Pv : Nat -> St -> Hp -> Prop) (h0 : Pv 0 σ H) (hl : ∀ i σ H, i <= xs.length -> Pv i σ H -> SqL K H a xs)
    (hs : ∀ i x σ H, xs[i]? = some x -> Pv i σ H -> g x σ H fun σ2 H2 => tb { D with nx := Pv (i + 1), ct := Pv (i + 1), bk := D.nx } σ2 H2) (hd : ∀ σ H, Pv xs.length σ H -> D.nx σ H) :
    ∃ W : Nat -> Nat -> St -> Hp -> Prop, (∃ m, W 0 m σ H) /\ ∀ i m σ H, W i m σ H ->
      ((Itl K a).stop i H /\ D.nx σ H) \/ ((Itl K a).go i H /\ ∃ N : St -> Hp -> Prop, (∀ σ' H', N σ' H' -> ∃ m', m' < m /\ W (i + 1) m' σ' H') /\ ∀ x H', (Itl K a).yld i H x H' -> g x σ H' fun σ2 H2 => tb { D with nx := N, ct := N, bk := D.nx } σ2 H2) := by
  refine ⟨fun i m σ H => m = xs.length - i /\ i <= xs.length /\ Pv i σ H, ⟨xs.length, by simp, Nat.zero_le _, h0⟩, ?_⟩
  rintro i m σ H ⟨rfl, hi, p⟩
  have q := hl i σ H hi p
  by_cases hlt : i < xs.length
  · refine .inr ⟨⟨xs, xs[i], q, by simp [hlt]⟩, Pv (i + 1), fun σ' H' p' => ⟨xs.length - (i + 1), by omega, rfl, hlt, p'⟩, fun x H' y => ?_⟩
    obtain ⟨e, y⟩ := y
    subst e
    exact hs i x σ _ (y xs q) p
  · have e : i = xs.length := by omega
    subst e
    exact .inl ⟨⟨xs, q, Nat.le_refl _⟩, hd σ H p⟩
theorem for_tup {K : PySem.W.Frag} {a : Addr} {xs : List V} {g : TG} {tb : TS} {D : Ends} {σ : St} {H : Hp} (Pv : Nat -> St -> Hp -> Prop) (h0 : Pv 0 σ H) (hl : ∀ i σ H, i <= xs.length -> Pv i σ H -> SqT K H a xs)
    (hs : ∀ i x σ H, xs[i]? = some x -> Pv i σ H -> g x σ H fun σ2 H2 => tb { D with nx := Pv (i + 1), ct := Pv (i + 1), bk := D.nx } σ2 H2) (hd : ∀ σ H, Pv xs.length σ H -> D.nx σ H) :
    ∃ W : Nat -> Nat -> St -> Hp -> Prop, (∃ m, W 0 m σ H) /\ ∀ i m σ H, W i m σ H ->
      ((Itt K a).stop i H /\ D.nx σ H) \/ ((Itt K a).go i H /\ ∃ N : St -> Hp -> Prop, (∀ σ' H', N σ' H' -> ∃ m', m' < m /\ W (i + 1) m' σ' H') /\ ∀ x H', (Itt K a).yld i H x H' -> g x σ H' fun σ2 H2 => tb { D with nx := N, ct := N, bk := D.nx } σ2 H2) := by
  refine ⟨fun i m σ H => m = xs.length - i /\ i <= xs.length /\ Pv i σ H, ⟨xs.length, by simp, Nat.zero_le _, h0⟩, ?_⟩
  rintro i m σ H ⟨rfl, hi, p⟩
  have q := hl i σ H hi p
  by_cases hlt : i < xs.length
  · refine .inr ⟨⟨xs, xs[i], q, by simp [hlt]⟩, Pv (i + 1), fun σ' H' p' => ⟨xs.length - (i + 1), by omega, rfl, hlt, p'⟩, fun x H' y => ?_⟩
    obtain ⟨e, y⟩ := y
    subst e
    exact hs i x σ _ (y xs q) p
  · have e : i = xs.length := by omega
    subst e
    exact .inl ⟨⟨xs, q, Nat.le_refl _⟩, hd σ H p⟩
theorem for_range {lo : Int} {n : Nat} {g : TG} {tb : TS} {D : Ends} {σ : St} {H : Hp} (Pv : Nat -> St -> Hp -> Prop) (h0 : Pv 0 σ H)
    (hs : ∀ i σ H, i < n -> Pv i σ H -> g (.int (lo + i)) σ H fun σ2 H2 => tb { D with nx := Pv (i + 1), ct := Pv (i + 1), bk := D.nx } σ2 H2) (hd : ∀ σ H, Pv n σ H -> D.nx σ H) :
    ∃ W : Nat -> Nat -> St -> Hp -> Prop, (∃ m, W 0 m σ H) /\ ∀ i m σ H, W i m σ H ->
      ((Itr lo n).stop i H /\ D.nx σ H) \/ ((Itr lo n).go i H /\ ∃ N : St -> Hp -> Prop, (∀ σ' H', N σ' H' -> ∃ m', m' < m /\ W (i + 1) m' σ' H') /\ ∀ x H', (Itr lo n).yld i H x H' -> g x σ H' fun σ2 H2 => tb { D with nx := N, ct := N, bk := D.nx } σ2 H2) := by
  refine ⟨fun i m σ H => m = n - i /\ i <= n /\ Pv i σ H, ⟨n, by simp, Nat.zero_le _, h0⟩, ?_⟩
  rintro i m σ H ⟨rfl, hi, p⟩
  by_cases hlt : i < n
  · refine .inr ⟨hlt, Pv (i + 1), fun σ' H' p' => ⟨n - (i + 1), by omega, rfl, hlt, p'⟩, fun x H' y => ?_⟩
    obtain ⟨e, y⟩ := y
    subst e y
    exact hs i σ _ hlt p
  · have e : i = n := by omega
    subst e
    exact .inl ⟨Nat.le_refl _, hd σ H p⟩
end L2
namespace L2
open PySem PySem.Spec PyProof.Rows
abbrev R2 := V -> V -> Hp -> VK -> Prop
def OpR (X : Cx) (f : Value -> Value -> Sem Value) (r : R2) : Prop :=
  ∀ (pins : List (Addr × Obj)) (s : Shared) (σ : St) (H : Hp) (x y : V) (v u : Value) (Q : VK), Inv X pins σ H s -> RelV x v -> RelV y u -> r x y H Q ->
    wpAny (model X.prog X.w) X.A (f v u) (EP X pins σ Q) X.xe s
def UnR (X : Cx) (f : Value -> Sem Value) (r : V -> Hp -> VK -> Prop) : Prop :=
  ∀ (pins : List (Addr × Obj)) (s : Shared) (σ : St) (H : Hp) (x : V) (v : Value) (Q : VK), Inv X pins σ H s -> RelV x v -> r x H Q ->
    wpAny (model X.prog X.w) X.A (f v) (EP X pins σ Q) X.xe s
def CallR (X : Cx) (f : Value) (r : List V -> Hp -> VK -> Prop) : Prop :=
  ∀ (pins : List (Addr × Obj)) (s : Shared) (σ : St) (H : Hp) (xs : List V) (us : List Value) (Q : VK), Inv X pins σ H s -> Vals xs us -> r xs H Q ->
    wpAny (model X.prog X.w) X.A (call f us) (EP X pins σ Q) X.xe s
def tOp (r : R2) (ta tb : TE) : TE := fun σ H Q => ta σ H fun x H1 => tb σ H1 fun y H2 => r x y H2 Q
def tUn (r : V -> Hp -> VK -> Prop) (ta : TE) : TE := fun σ H Q => ta σ H fun x H1 => r x H1 Q
def rI (C : Int -> Int -> Prop) (g : Int -> Int -> V) : R2 := fun x y H Q => ∃ i j, x = .int i /\ y = .int j /\ C i j /\ Q (g i j) H
def rI0 (g : Int -> Int -> V) : R2 := fun x y H Q => ∃ i j, x = .int i /\ y = .int j /\ Q (g i j) H
def rU (g : Int -> V) : V -> Hp -> VK -> Prop := fun x H Q => ∃ i, x = .int i /\ Q (g i) H
section
variable {X : Cx} {a b c : Expr} {ta tb tc : TE} {pos : Pos}
theorem binT (ha : PE X a ta) (hb : PE X b tb) {pins : List (Addr × Obj)} {s : Shared} {σ : St} {H : Hp} {R : V -> V -> Hp -> Prop} (I : Inv X pins σ H s)
    (h : ta σ H fun x H1 => tb σ H1 fun y H2 => R x y H2) {Q : Value -> Shared -> Prop} {f : Value -> Value -> Sem Value}
    (hf : ∀ v u s2 x y H2, Inv X pins σ H2 s2 -> RelV x v -> RelV y u -> R x y H2 -> wpAny (model X.prog X.w) X.A (f v u) Q X.xe s2) :
    wpAny (model X.prog X.w) X.A (eval a X.env) (fun v s₁ => wpAny (model X.prog X.w) X.A (eval b X.env) (fun u s₂ => wpAny (model X.prog X.w) X.A (f v u) Q X.xe s₂) X.xe s₁) X.xe s := by
  refine thn (ha pins s σ H _ I h) fun v s1 ⟨x, H1, I1, r1, q1⟩ => ?_
  refine thn (hb pins s1 σ H1 _ I1 q1) fun u s2 ⟨y, H2, I2, r2, q2⟩ => ?_
  exact hf v u s2 x y H2 I2 r1 r2 q2
theorem pe_op {op : Operator} {r : R2} (ho : OpR X (binaryOp op) r) (ha : PE X a ta) (hb : PE X b tb) : PE X (.BinOp a op b pos) (tOp r ta tb) := by
  intro pins s σ H Q I h
  exact wpAny_BinOp (binT ha hb I h fun v u s2 x y H2 I2 rx ry q => ho pins s2 σ H2 x y v u Q I2 rx ry q)
theorem pe_un {op : UnaryOp} {r : V -> Hp -> VK -> Prop} (ho : UnR X (unaryOp op) r) (ha : PE X a ta) : PE X (.UnaryOp op a pos) (tUn r ta) := by
  intro pins s σ H Q I h
  exact UnaryOp_ (thn (ha pins s σ H _ I h) fun v s1 ⟨x, H1, I1, r1, q1⟩ => ho pins s1 σ H1 x v Q I1 r1 q1)
theorem opI {f : Value -> Value -> Sem Value} {C : Int -> Int -> Prop} {g : Int -> Int -> Int}
    (rule : ∀ (i j : Int) (t u : Tok) (s : Shared) (Q : Value -> Shared -> Prop) (E : Value -> Shared -> Prop), C i j -> Q (.int (g i j) s.toks) { s with toks := s.toks + 1 } -> wpAny (model X.prog X.w) X.A (f (.int i t) (.int j u)) Q E s) :
    OpR X f (rI C fun i j => .int (g i j)) := by
  intro pins s σ H x y v u Q I rx ry h
  obtain ⟨i, j, rfl, rfl, hc, q⟩ := h
  obtain ⟨t, rfl⟩ := rx
  obtain ⟨t', rfl⟩ := ry
  exact rule i j t t' s _ _ hc ⟨.int (g i j), H, I.tok _, ⟨_, rfl⟩, q⟩
theorem opI0 {f : Value -> Value -> Sem Value} {g : Int -> Int -> Int}
    (rule : ∀ (i j : Int) (t u : Tok) (s : Shared) (Q : Value -> Shared -> Prop) (E : Value -> Shared -> Prop), Q (.int (g i j) s.toks) { s with toks := s.toks + 1 } -> wpAny (model X.prog X.w) X.A (f (.int i t) (.int j u)) Q E s) :
    OpR X f (rI0 fun i j => .int (g i j)) := by
  intro pins s σ H x y v u Q I rx ry h
  obtain ⟨i, j, rfl, rfl, q⟩ := h
  obtain ⟨t, rfl⟩ := rx
  obtain ⟨t', rfl⟩ := ry
  exact rule i j t t' s _ _ ⟨.int (g i j), H, I.tok _, ⟨_, rfl⟩, q⟩
theorem opB0 {f : Value -> Value -> Sem Value} {g : Int -> Int -> Bool}
    (rule : ∀ (i j : Int) (t u : Tok) (s : Shared) (Q : Value -> Shared -> Prop) (E : Value -> Shared -> Prop), Q (.bool (g i j)) s -> wpAny (model X.prog X.w) X.A (f (.int i t) (.int j u)) Q E s) :
    OpR X f (rI0 fun i j => .bl (g i j)) := by
  intro pins s σ H x y v u Q I rx ry h
  obtain ⟨i, j, rfl, rfl, q⟩ := h
  obtain ⟨t, rfl⟩ := rx
  obtain ⟨t', rfl⟩ := ry
  exact rule i j t t' s _ _ ⟨.bl (g i j), H, I, rfl, q⟩
def CDiv (i j : Int) : Prop := 0 < j /\ j < 1073741824
def CPow (i j : Int) : Prop := 0 <= j /\ j <= 1000000 /\ i.natAbs < 2 ^ 64
def CMul (i j : Int) : Prop := (-(2 ^ 64) < i /\ i < 2 ^ 64) \/ (-(2 ^ 64) < j /\ j < 2 ^ 64)
theorem CMul.ok {i j : Int} (h : CMul i j) : IntMulOk i j := by
  rcases h with ⟨h1, h2⟩ | ⟨h1, h2⟩
  · exact .of_left (intBits_le_64 h1 h2)
  · exact .of_right (intBits_le_64 h1 h2)
theorem op_add : OpR X (binaryOp .Add) (rI0 fun i j => .int (i + j)) := opI0 fun _ _ _ _ _ _ _ q => add_int q
theorem op_sub : OpR X (binaryOp .Sub) (rI0 fun i j => .int (i - j)) := opI0 fun _ _ _ _ _ _ _ q => sub_int q
theorem op_mul : OpR X (binaryOp .Mult) (rI CMul fun i j => .int (i * j)) := opI fun _ _ _ _ _ _ _ hc q => mul_int q hc.ok
theorem op_fdiv : OpR X (binaryOp .FloorDiv) (rI CDiv fun i j => .int (i / j)) := opI fun i j _ _ _ _ _ hc q => by
  have h1 : (0 : Int) < j := hc.1
  have h2 : j < 1073741824 := hc.2
  exact floordiv_int (by omega) (by rw [Int.fdiv_eq_ediv_of_nonneg i (by omega)]; exact q) (.inl (PyProof.noPylong_small (by omega)))
theorem op_mod : OpR X (binaryOp .Mod) (rI (fun _ j => 0 < j) fun i j => .int (i % j)) := opI fun i j _ _ _ _ _ hc q => by
  have h1 : (0 : Int) < j := hc
  exact mod_int' (by omega) (by rw [Int.fmod_eq_emod_of_nonneg i (by omega)]; exact q)
theorem op_pow : OpR X (binaryOp .Pow) (rI CPow fun i j => .int (i ^ j.toNat)) := opI fun _ _ _ _ _ _ _ hc q => pow_int_small hc.1 hc.2.1 hc.2.2 q
theorem unI {f : Value -> Sem Value} {g : Int -> Int}
    (rule : ∀ (i : Int) (t : Tok) (s : Shared) (Q : Value -> Shared -> Prop) (E : Value -> Shared -> Prop), Q (.int (g i) s.toks) { s with toks := s.toks + 1 } -> wpAny (model X.prog X.w) X.A (f (.int i t)) Q E s) :
    UnR X f (rU fun i => .int (g i)) := by
  intro pins s σ H x v Q I rx h
  obtain ⟨i, rfl, q⟩ := h
  obtain ⟨t, rfl⟩ := rx
  exact rule i t s _ _ ⟨.int (g i), H, I.tok _, ⟨_, rfl⟩, q⟩
theorem un_neg : UnR X (unaryOp .USub) (rU fun i => .int (-i)) := unI fun _ _ _ _ _ q => neg_int q
end
def scal : V -> V -> Bool
  | .non, .non => true | .non, .int _ => true | .int _, .non => true | .non, .bl _ => true | .bl _, .non => true | .non, .str _ => true | .str _, .non => true
  | .int _, .int _ => true | .bl _, .bl _ => true | .str _, .str _ => true | .byt _, .byt _ => true
  | .int _, .str _ => true | .str _, .int _ => true | .bl _, .str _ => true | .str _, .bl _ => true
  | _, _ => false
def rEq : R2 := fun x y H Q => scal x y = true /\ Q (.bl (decide (x = y))) H
def rNe : R2 := fun x y H Q => scal x y = true /\ Q (.bl (!decide (x = y))) H
theorem dec_int {i j : Int} : decide (V.int i = V.int j) = (i == j) := by
  rw [Bool.eq_iff_iff]
  simp
theorem dec_bl {i j : Bool} : decide (V.bl i = V.bl j) = (i == j) := by
  rw [Bool.eq_iff_iff]
  simp
theorem dec_str {i j : Str} : decide (V.str i = V.str j) = (i == j) := by
  rw [Bool.eq_iff_iff]
  simp
theorem dec_byt {i j : Array UInt8} : decide (V.byt i = V.byt j) = (i.toList == j.toList) := by
  rw [Bool.eq_iff_iff]
  cases i
  cases j
  simp
section
variable {X : Cx} {a b c : Expr} {ta tb tc : TE} {pos : Pos}
theorem fin_bl {pins : List (Addr × Obj)} {σ : St} {H : Hp} {s : Shared} {Q : VK} {k k' : Bool} (I : Inv X pins σ H s) (q : Q (.bl k) H) (e : k = k') : EP X pins σ Q (.bool k') s := by
  subst e
  exact ⟨.bl k, H, I, rfl, q⟩
theorem op_eq : OpR X (compareOp .Eq) rEq := by
  intro pins s σ H x y v u Q I rx ry h
  obtain ⟨hs, q⟩ := h
  cases x with
  | non =>
    cases rx
    cases y with
    | non => cases ry; exact PySem.EqNone.eq_none_none (fin_bl I q (by simp))
    | bl j => cases ry; exact PySem.EqNone.eq_none_bool (fin_bl I q (by simp))
    | int j => obtain ⟨t', rfl⟩ := ry; exact PySem.EqNone.eq_none_int (fin_bl I q (by simp))
    | str j => obtain ⟨t', rfl⟩ := ry; exact PySem.EqNone.eq_none_str (fin_bl I q (by simp))
    | _ => exact absurd (show false = true from hs) Bool.false_ne_true
  | bl i =>
    cases rx
    cases y with
    | non => cases ry; exact PySem.EqNone.eq_bool_none (fin_bl I q (by simp))
    | bl j => cases ry; exact eq_bool (fin_bl I q dec_bl)
    | str j => obtain ⟨t', rfl⟩ := ry; exact PySem.EqMixed.eq_bool_str (fin_bl I q (by simp))
    | _ => exact absurd (show false = true from hs) Bool.false_ne_true
  | int i =>
    obtain ⟨t, rfl⟩ := rx
    cases y with
    | non => cases ry; exact PySem.EqNone.eq_int_none (fin_bl I q (by simp))
    | int j => obtain ⟨t', rfl⟩ := ry; exact eq_int (fin_bl I q dec_int)
    | str j => obtain ⟨t', rfl⟩ := ry; exact PySem.EqMixed.eq_int_str (fin_bl I q (by simp))
    | _ => exact absurd (show false = true from hs) Bool.false_ne_true
  | str i =>
    obtain ⟨t, rfl⟩ := rx
    cases y with
    | non => cases ry; exact PySem.EqNone.eq_str_none (fin_bl I q (by simp))
    | bl j => cases ry; exact PySem.EqMixed.eq_str_bool (fin_bl I q (by simp))
    | int j => obtain ⟨t', rfl⟩ := ry; exact PySem.EqMixed.eq_str_int (fin_bl I q (by simp))
    | str j => obtain ⟨t', rfl⟩ := ry; exact eq_str (fin_bl I q dec_str)
    | _ => exact absurd (show false = true from hs) Bool.false_ne_true
  | byt i =>
    obtain ⟨t, rfl⟩ := rx
    cases y with
    | byt j => obtain ⟨t', rfl⟩ := ry; exact PySem.W.eq_bytes (fin_bl I q dec_byt)
    | _ => exact absurd (show false = true from hs) Bool.false_ne_true
  | _ => cases y <;> exact absurd (show false = true from hs) Bool.false_ne_true
theorem op_ne : OpR X (compareOp .NotEq) rNe := by
  intro pins s σ H x y v u Q I rx ry h
  obtain ⟨hs, q⟩ := h
  cases x with
  | non =>
    cases rx
    cases y with
    | non => cases ry; exact PySem.EqNone.ne_none_none (fin_bl I q (by simp))
    | bl j => cases ry; exact PySem.EqNone.ne_none_bool (fin_bl I q (by simp))
    | int j => obtain ⟨t', rfl⟩ := ry; exact PySem.EqNone.ne_none_int (fin_bl I q (by simp))
    | str j => obtain ⟨t', rfl⟩ := ry; exact PySem.EqNone.ne_none_str (fin_bl I q (by simp))
    | _ => exact absurd (show false = true from hs) Bool.false_ne_true
  | bl i =>
    cases rx
    cases y with
    | non => cases ry; exact PySem.EqNone.ne_bool_none (fin_bl I q (by simp))
    | bl j => cases ry; exact ne_bool (fin_bl I q (congrArg not dec_bl))
    | str j => obtain ⟨t', rfl⟩ := ry; exact PySem.EqMixed.ne_bool_str (fin_bl I q (by simp))
    | _ => exact absurd (show false = true from hs) Bool.false_ne_true
  | int i =>
    obtain ⟨t, rfl⟩ := rx
    cases y with
    | non => cases ry; exact PySem.EqNone.ne_int_none (fin_bl I q (by simp))
    | int j => obtain ⟨t', rfl⟩ := ry; exact ne_int (fin_bl I q (congrArg not dec_int))
    | str j => obtain ⟨t', rfl⟩ := ry; exact PySem.EqMixed.ne_int_str (fin_bl I q (by simp))
    | _ => exact absurd (show false = true from hs) Bool.false_ne_true
  | str i =>
    obtain ⟨t, rfl⟩ := rx
    cases y with
    | non => cases ry; exact PySem.EqNone.ne_str_none (fin_bl I q (by simp))
    | bl j => cases ry; exact PySem.EqMixed.ne_str_bool (fin_bl I q (by simp))
    | int j => obtain ⟨t', rfl⟩ := ry; exact PySem.EqMixed.ne_str_int (fin_bl I q (by simp))
    | str j => obtain ⟨t', rfl⟩ := ry; exact ne_str (fin_bl I q (congrArg not dec_str))
    | _ => exact absurd (show false = true from hs) Bool.false_ne_true
  | byt i =>
    obtain ⟨t, rfl⟩ := rx
    cases y with
    | byt j => obtain ⟨t', rfl⟩ := ry; exact PySem.W.ne_bytes (fin_bl I q (congrArg not dec_byt))
    | _ => exact absurd (show false = true from hs) Bool.false_ne_true
  | _ => cases y <;> exact absurd (show false = true from hs) Bool.false_ne_true
theorem op_lt : OpR X (compareOp .Lt) (rI0 fun i j => .bl (decide (i < j))) := opB0 fun _ _ _ _ _ _ _ q => lt_int q
theorem op_gt : OpR X (compareOp .Gt) (rI0 fun i j => .bl (decide (j < i))) := opB0 fun _ _ _ _ _ _ _ q => gt_int q
theorem op_ge : OpR X (compareOp .GtE) (rI0 fun i j => .bl (decide (j <= i))) := opB0 fun _ _ _ _ _ _ _ q => ge_int q
theorem nomark (b : Expr) {op : CmpOp} (h : op ≠ .In := by decide) (h2 : op ≠ .NotIn := by decide) : behindInMarks op b = false := by
  have e1 : (op == CmpOp.In) = false := by cases op <;> first | rfl | exact absurd rfl h
  have e2 : (op == CmpOp.NotIn) = false := by cases op <;> first | rfl | exact absurd rfl h2
  cases b <;> simp [behindInMarks, e1, e2]
theorem pe_cmpR {op : CmpOp} {r : R2} (ho : OpR X (compareOp op) r) (ha : PE X a ta) (hb : PE X b tb) (hm : behindInMarks op b = false) : PE X (.Compare a [op] [b] pos) (tOp r ta tb) := by
  intro pins s σ H Q I h
  exact wpAny_Compare1 (binT ha hb I h fun v u s2 x y H2 I2 rx ry q => ho pins s2 σ H2 x y v u Q I2 rx ry q) hm
def tTest (t : TE) : TT := fun σ H Q => t σ H fun x H' => ∃ k, x = .bl k /\ Q k H'
theorem pt_cmpR {op : CmpOp} {r : R2} (ho : OpR X (compareOp op) r) (ha : PE X a ta) (hb : PE X b tb) (hm : behindInMarks op b = false) : PT X (.Compare a [op] [b] pos) (tTest (tOp r ta tb)) := by
  intro pins s σ H Q I h
  refine wpAny_isTrue_Compare1 (thn (ha pins s σ H _ I h) fun v s1 ⟨x, H1, I1, r1, q1⟩ => thn (hb pins s1 σ H1 _ I1 q1) fun u s2 ⟨y, H2, I2, r2, q2⟩ =>
    thn (ho pins s2 σ H2 x y v u _ I2 r1 r2 q2) fun c s3 ⟨z, H3, I3, r3, k, e, q3⟩ => ?_) hm
  subst e
  cases r3
  exact wpAny_truthy_bool ⟨H3, I3, q3⟩
theorem line63 : (sizeLine : Nat) < 2 ^ 63 := by rw [sizeLine_eq]; decide
theorem op_add_str : OpR X (binaryOp .Add) (fun x y H Q => ∃ i j, x = .str i /\ y = .str j /\ i.length + j.length <= sizeLine /\ Q (.str (i ++ j)) H) := by
  intro pins s σ H x y v u Q I rx ry h
  obtain ⟨i, j, rfl, rfl, hz, q⟩ := h
  obtain ⟨t, rfl⟩ := rx
  obtain ⟨t', rfl⟩ := ry
  exact add_str (fun t' tk => ⟨.str (i ++ j), H, I.tok _, ⟨_, rfl⟩, q⟩) hz
theorem vals1 {x : V} {us : List Value} (r : Vals [x] us) : ∃ u, us = [u] /\ RelV x u := by
  cases r with
  | cons r1 r2 => cases r2; exact ⟨_, rfl, r1⟩
theorem vals2 {x y : V} {us : List Value} (r : Vals [x, y] us) : ∃ u w', us = [u, w'] /\ RelV x u /\ RelV y w' := by
  cases r with
  | cons r1 r2 =>
    cases r2 with
    | cons r3 r4 => cases r4; exact ⟨_, _, rfl, r1, r3⟩
end
end L2
namespace L2
open PySem PySem.Spec PyProof.Rows
structure ObjM (h : Heap) (x dx C : Addr) (mA : Str -> Option Value) : Prop where
  obj : h.get? x = some (PySem.W.instObj C dx)
  ns : h.Ns1 dx mA
  ne : dx ≠ x
theorem lookIn_ns {h : Heap} {dx : Addr} {mA : Str -> Option Value} (n : h.Ns1 dx mA) : ∃ od, h.get? dx = some od /\ ∀ name, PySem.W.lookIn name od = some (mA name) := by
  obtain ⟨o, es, ep, ho, hd, hk, _, hm⟩ := n
  refine ⟨o, ho, fun name => ?_⟩
  have e := hm name
  unfold nsFind findBy at e
  rw [<- Array.find?_toList] at e
  unfold PySem.W.lookIn
  rw [hd]
  dsimp only
  split
  · rename_i y q
    rw [q] at e
    exact congrArg some e
  · rename_i q
    rw [q] at e
    have a : es.toList.any (·.refKey) = false := by
      rw [List.any_eq_false]
      intro y hy
      obtain ⟨z, t, hkey⟩ := hk y (Array.mem_toList_iff.mp hy)
      simp [DictEntry.refKey, hkey]
    have a' : ¬ es.toList.any (·.refKey) = true := by rw [a]; exact Bool.false_ne_true
    rw [if_neg a']
    exact congrArg some e
theorem ObjM.look {h : Heap} {x dx C : Addr} {mA : Str -> Option Value} (I : ObjM h x dx C mA) : ∃ od, PySem.W.InstAt h x (PySem.W.instObj C dx) C (some od) /\ ∀ name, PySem.W.lookIn name od = some (mA name) :=
  let ⟨od, ho, hl⟩ := lookIn_ns I.ns
  ⟨od, ⟨I.obj, rfl, rfl, ho⟩, hl⟩
section
variable {prog : Program} {w : World} {A : Around} {E : Value -> Shared -> Prop} {s : Shared} {K : PySem.W.Frag} {x dx C f : Addr} {mA : Str -> Option Value} {name : Str} {v : Value}
end
theorem RelO.some_of {v : V} {o : Option Value} (r : RelO (some v) o) : ∃ u, o = some u /\ RelV v u := by
  cases o with
  | none => exact (show False from r).elim
  | some u => exact ⟨u, rfl, r⟩
section
variable {P : Program} {w : World} {H H' : Hp} {h h' : Heap} {a C dx : Addr} {fs fs' : List (Str × V)}
theorem ins_get (hok : HOk P w H h) (e : H a = some (.ins C dx fs)) : ∃ mA, ObjM h a dx C mA /\ (∀ f, RelO (fs.lookup f) (mA f)) /\ PySem.Within mA (fs.map (·.1)) /\ fs.length <= 1000 /\ H dx = some (.own a) := by
  obtain ⟨d, z, ne, ob, mA, n, r, q⟩ := (show ObjOk P w H h a (.ins C dx fs) from hok a _ e)
  exact ⟨mA, ⟨ob, n, ne⟩, r, q, z, d⟩
end
structure Cls (K : PySem.W.Frag) (C : Addr) : Prop where
  pg : PySem.W.plainGet K C Str.empty = true
  hd : PySem.W.hasDictIn K C = true
  po : PySem.W.plainOver K C = true
  sa : PySem.W.findIn K (.ref C) "__setattr__" = some (some (.builtin "object.__setattr__"))
theorem Cls.get {K : PySem.W.Frag} {C : Addr} (c : Cls K C) (f : Str) : PySem.W.plainGet K C f = true := c.pg
section
variable {X : Cx} {pins : List (Addr × Obj)} {σ : St} {H : Hp} {s : Shared} {a C dx : Addr} {fs : List (Str × V)} {f : Str} {v : V} {A : Around} {E : Value -> Shared -> Prop}
end
section
variable {X : Cx} {o e value : Expr} {f : Str} {pos pos' tpos : Pos} {ta tv : TE}
end
section
variable {X : Cx} {pins : List (Addr × Obj)} {σ : St} {H : Hp} {s : Shared} {A : Around} {E : Value -> Shared -> Prop} {Q : Value -> Shared -> Prop} {c : Value} {b : Bool}
inductive TyOf (K : PySem.W.Frag) (H : Hp) : V -> Value -> Prop where
  | non : TyOf K H .non (.type "NoneType")
  | bl (x : Bool) : TyOf K H (.bl x) (.type "bool")
  | int (i : Int) : TyOf K H (.int i) (.type "int")
  | str (x : Str) : TyOf K H (.str x) (.type "str")
  | flt (x : UInt64) : TyOf K H (.flt x) (.type "float")
  | lst {a : Addr} {xs : List V} (e : H a = some (.lst xs)) : TyOf K H (.ref a) (.type "list")
  | frz {a : Addr} {o : Obj} {xs : List V} (e : H a = some (.frz o (.lst xs))) : TyOf K H (.ref a) (.type "list")
  | tup {a : Addr} {xs : List V} (e : H a = some (.tup xs)) : TyOf K H (.ref a) (.type "tuple")
  | dK {a : Addr} {kvs : List (Key × V)} (e : H a = some (.dK kvs)) : TyOf K H (.ref a) (.type "dict")
  | dT {a : Addr} {kvs : List (List Key × V)} (e : H a = some (.dT kvs)) : TyOf K H (.ref a) (.type "dict")
  | ins {a C dx : Addr} {fs : List (Str × V)} (e : H a = some (.ins C dx fs)) (cl : Cls K C) (ha : PySem.W.findIn K (.ref C) "__class__" = some (some (.builtin "object.__class__")))
      (hn : PySem.W.specialIn K (.builtin "object.__class__") "__get__" = some (some (.builtin "getset_descriptor.__get__"))) (htk : PySem.W.takesIn K (.builtin "object.__class__") = some true)
      (hm : PySem.W.mroIn K C (.type "object") = some true) : TyOf K H (.ref a) (.ref C)
theorem isinst_ok {x : V} {u t : Value} (I : Inv X pins σ H s) (rx : RelV x u) (ty : TyOf X.K H x t) (e : PySem.W.kitOne X.K t c = some b) (h : ∀ tk, Q (.bool b) { s with toks := tk }) :
    wpAny (model X.prog X.w) A (call (.builtin "isinstance") [u, c]) Q E s := by
  cases ty with
  | non => cases (show u = Value.none from rx); exact PySem.W.kia_one PySem.W.kitx_none I.kIn True.intro e (fun z => nomatch z) h
  | bl y => cases (show u = Value.bool y from rx); exact PySem.W.kia_one PySem.W.kitx_bool I.kIn True.intro e (fun z => nomatch z) h
  | int i => obtain ⟨t, q⟩ := (show ∃ t, u = Value.int i t from rx); cases q; exact PySem.W.kia_one PySem.W.kitx_int I.kIn True.intro e (fun z => nomatch z) h
  | str y => obtain ⟨t, q⟩ := (show ∃ t, u = Value.str y t from rx); cases q; exact PySem.W.kia_one PySem.W.kitx_str I.kIn True.intro e (fun z => nomatch z) h
  | flt y => obtain ⟨t, q⟩ := (show ∃ t, u = Value.float y t from rx); cases q; exact PySem.W.kia_one PySem.W.kitx_float I.kIn True.intro e (fun z => nomatch z) h
  | @lst a xs ea =>
    cases (show u = Value.ref a from rx)
    obtain ⟨_, _, n, _, h1⟩ := (show ObjOk X.prog X.w H s.heap a (.lst xs) from I.hok a _ ea)
    exact PySem.W.kia_one PySem.W.kitx_list I.kIn ⟨_, h1, rfl⟩ e (fun z => nomatch z) h
  | @frz a ob xs ea =>
    cases (show u = Value.ref a from rx)
    obtain ⟨_, _, _, n, _, h1⟩ := (show ObjOk X.prog X.w H s.heap a (.frz ob (.lst xs)) from I.hok a _ ea)
    exact PySem.W.kia_one PySem.W.kitx_list I.kIn ⟨_, h1, rfl⟩ e (fun z => nomatch z) h
  | @tup a xs ea =>
    cases (show u = Value.ref a from rx)
    obtain ⟨_, _, _, p⟩ := (show ObjOk X.prog X.w H s.heap a (.tup xs) from I.hok a _ ea)
    obtain ⟨o, h1, h2, _⟩ := p
    exact PySem.W.kia_one PySem.W.kitx_tuple I.kIn ⟨o, h1, h2⟩ e (fun z => nomatch z) h
  | @dK a kvs ea =>
    cases (show u = Value.ref a from rx)
    obtain ⟨_, _, vs, _, p⟩ := (show ObjOk X.prog X.w H s.heap a (.dK kvs) from I.hok a _ ea)
    obtain ⟨o, es, ep, h1, h2, _⟩ := p
    exact PySem.W.kia_one PySem.W.kitx_dict I.kIn ⟨o, h1, h2.1⟩ e (fun z => nomatch z) h
  | @dT a kvs ea =>
    cases (show u = Value.ref a from rx)
    obtain ⟨_, _, xs, _, o, es, ep, h1, h2, _⟩ := (show ObjOk X.prog X.w H s.heap a (.dT kvs) from I.hok a _ ea)
    exact PySem.W.kia_one PySem.W.kitx_dict I.kIn ⟨o, h1, h2.1⟩ e (fun z => nomatch z) h
  | @ins a C dx fs ea cl ha hn htk hm =>
    cases (show u = Value.ref a from rx)
    obtain ⟨mA, O, _⟩ := ins_get I.hok ea
    obtain ⟨od, J, _⟩ := O.look
    exact PySem.W.kia_one (PySem.W.kitx_own (cl.get _) cl.hd ha hn htk hm) I.kIn J e (fun z => nomatch z) h
end
end L2
namespace L2
open PySem PySem.Spec PyProof.Rows
structure Room (k : Nat) (A : Around) : Prop where
  hd : A.handled = none
  dp : A.depth + 3 * k + 5 < recursionLimit
  un : A.units + 16 * k + 200 < cLine
  gd : A.guards = some []
theorem Room.mono {j k : Nat} {A : Around} (r : Room k A) (h : j <= k) : Room j A := ⟨r.hd, by have := r.dp; omega, by have := r.un; omega, r.gd⟩
theorem Room.deeper {k : Nat} {A : Around} (r : Room (k + 1) A) (env : Env) : Room k (A.deeper env) :=
  ⟨r.hd, by have := r.dp; show A.depth + 1 + 3 * k + 5 < _; omega, by have := r.un; show A.units + 3 + 16 * k + 200 < _; omega, by first | exact r.gd | (show pushGuards _ A.guards = _; rw [r.gd]; rfl)⟩
theorem Room.depth {k : Nat} {A : Around} (r : Room k A) : A.depth < recursionLimit := by have := r.dp; omega
theorem Room.units {k : Nat} {A : Around} (r : Room k A) : A.units + 64 < cLine := by have := r.un; omega
def tNil : TA := fun _ H Q => Q [] H
def tCons (ta : TE) (tr : TA) : TA := fun σ H Q => ta σ H fun x H1 => tr σ H1 fun xs H2 => Q (x :: xs) H2
section
variable {X : Cx} {e : Expr} {es : List Expr} {te : TE} {t : TA} {pos : Pos}
theorem pa_nil : PA X [] tNil := fun _ _ _ _ H Q I h => Calls.spliced_nil ⟨[], H, I, .nil, h⟩
theorem pa_cons (ha : PE X e te) (hr : PA X es t) (hs : starEach (e :: es) X.env = (false, eval e X.env) :: starEach es X.env := by rfl) : PA X (e :: es) (tCons te t) := by
  intro pos pins s σ H Q I h
  rw [hs]
  show wpAny _ _ (spliced ((false, eval e X.env) :: backTo pos (starEach es X.env))) _ _ s
  refine Calls.spliced_cons (thn (ha pins s σ H _ I h) fun u s1 ⟨x, H1, I1, r1, q1⟩ => ?_)
  exact thn (hr pos pins s1 σ H1 _ I1 q1) fun us s2 ⟨xs, H2, I2, r2, q2⟩ => ⟨x :: xs, H2, I2, .cons r1 r2, q2⟩
def tTup (t : TA) : TE := fun σ H Q => t σ H fun xs H1 => xs.length <= sizeLine /\ ∀ p, H1 p = none -> Q (.ref p) (upd H1 p (.tup xs))
def tLst (t : TA) : TE := fun σ H Q => t σ H fun xs H1 => xs.length <= sizeLine /\ ∀ p, H1 p = none -> Q (.ref p) (upd H1 p (.lst xs))
theorem pe_tup {x1} (h : PA X es t) : PE X (.Tuple es x1 pos) (tTup t) := by
  intro pins s σ H Q I hq
  refine wpAny_Tuple_spliced (thn (h pos pins s σ H _ I hq) fun us s1 ⟨xs, H1, I1, r, z, q⟩ => ⟨by rw [<- r.length]; exact z, ?_⟩)
  have hf : H1 s1.heap.objs.size = none := I1.hok.fresh (Nat.le_refl _)
  refine ⟨.ref s1.heap.objs.size, upd H1 s1.heap.objs.size (.tup xs), I1.laid (t' := s1.toks) (fun b u e => Heap.get?_push_of_some _ e) (Nat.le_refl _) ?_, rfl, q _ hf⟩
  exact ⟨z, us, r, ⟨_, Heap.get?_push_size _ rfl, rfl, _, rfl⟩⟩
theorem pe_lst (h : PA X es t) : PE X (.List es pos) (tLst t) := by
  intro pins s σ H Q I hq
  refine wpAny_List_spliced (thn (h pos pins s σ H _ I hq) fun us s1 ⟨xs, H1, I1, r, z, q⟩ => ⟨by rw [<- r.length]; exact z, ?_⟩)
  have hf : H1 s1.heap.objs.size = none := I1.hok.fresh (Nat.le_refl _)
  refine ⟨.ref s1.heap.objs.size, upd H1 s1.heap.objs.size (.lst xs), I1.laid (t' := s1.toks) (fun b u e => Heap.get?_push_of_some _ e) (Nat.le_refl _) ?_, rfl, q _ hf⟩
  exact ⟨z, us, 0, r, Heap.get?_push_size _ rfl⟩
end
abbrev Sp := List V -> Hp -> VK -> XK -> Prop
abbrev CXT := List Env -> Hp -> Shared -> XK -> Value -> Shared -> Prop
structure Env0 (P : Program) (w : World) (K : PySem.W.Frag) (mg : Str -> Option Value) (base : Heap) (A : Around) (outer : List Env) (s : Shared) (H : Hp) : Prop where
  frames : A.frames = some outer
  mod : Mod K mg base
  bs : ∀ b o, base.get? b = some o -> s.heap.get? b = some o /\ H b = none
  bsz : base.objs.size <= s.heap.objs.size
  funs : s.heap.FunFrames base outer
  frf : ∀ b ∈ frs outer, H b = none
  hok : HOk P w H s.heap
  bare : AllBare s.gens
def CE (outer : List Env) (P : Program) (w : World) (H : Hp) (s : Shared) (Q : VK) (u : Value) (s' : Shared) : Prop :=
  ∃ v H', s'.os = s.os /\ AllBare s'.gens /\ Un (frs outer) [] H H' s.heap s'.heap /\ HOk P w H' s'.heap /\ RelV v u /\ Q v H'
def CR (CX : CXT) (outer : List Env) (P : Program) (w : World) (H : Hp) (s : Shared) (Q : VK) (E : XK) (r : Result) (s' : Shared) : Prop :=
  match r with
  | .ok (.ret u) => CE outer P w H s Q u s'
  | .ok _ => False
  | .error e => CX outer H s E e s'
structure FnOk (P : Program) (w : World) (K : PySem.W.Frag) (mg : Str -> Option Value) (base : Heap) (CX : CXT) (k : Nat) (f : Addr) (fd : FuncData) (ps : List Str) (sp : Sp) : Prop where
  len : ∀ vs H Q E, sp vs H Q E -> vs.length = ps.length
  run : ∀ (A : Around) (outer : List Env) (s : Shared) (H : Hp) (args : Args) (us : List Value) (vs : List V) (Q : VK) (E : XK), Room k A -> Env0 P w K mg base A outer s H -> BindsTo s fd args (ps.zip us) -> Vals vs us -> sp vs H Q E ->
    codeAny (model P w) A (.call (.ref f) args) (CR CX outer P w H s Q E) s
theorem FnOk.mono {P : Program} {w : World} {K : PySem.W.Frag} {mg : Str -> Option Value} {base : Heap} {CX : CXT} {j k : Nat} {f : Addr} {fd : FuncData} {ps : List Str} {sp : Sp} (F : FnOk P w K mg base CX j f fd ps sp) (h : j <= k) :
    FnOk P w K mg base CX k f fd ps sp := ⟨F.len, fun A outer s H args us vs Q E hr => F.run A outer s H args us vs Q E (hr.mono h)⟩
section
variable {X : Cx} {pins : List (Addr × Obj)} {σ : St} {H : Hp} {s s' : Shared}
theorem Inv.env0 (I : Inv X pins σ H s) : Env0 X.prog X.w X.K X.mg X.base X.A X.stack s H :=
  ⟨I.ok.frames, I.ok.mod, I.bs, Nat.le_trans I.ok.bsz I.sz, I.stack, I.stkFree, I.hok, I.bare⟩
theorem Inv.after {Q : VK} {u : Value} (I : Inv X pins σ H s) (h : CE X.stack X.prog X.w H s Q u s') : EP X pins σ Q u s' := by
  obtain ⟨v, H', os, bare, un, hok, r, q⟩ := h
  obtain ⟨hh, g, d, t, os'⟩ := s'
  obtain rfl : os' = s.os := os
  exact ⟨v, H', I.call (h' := hh) (g' := g) (d' := d) (t' := t) (ch := []) un hok bare (fun b z => absurd z (by simp)), r, q⟩
end
def tCall (sp : Sp) (dvs : List V) (E : XK) (t : TA) : TE := fun σ H Q => t σ H fun vs H1 => sp (vs ++ dvs) H1 Q E
def Binds (K : PySem.W.Frag) (fd : FuncData) (ps : List Str) (ds : List Value) : Prop :=
  ∀ (s : Shared) (us : List Value), K.In s.heap -> (us ++ ds).length = ps.length -> BindsTo s fd ⟨us, []⟩ (ps.zip (us ++ ds))
theorem Binds.all {K : PySem.W.Frag} {fd : FuncData} {ps : List Str} (h : ∀ us : List Value, us.length = ps.length -> bindArgs fd ⟨us, []⟩ = pure (ps.zip us)) : Binds K fd ps [] := fun s us _ hl => by
  rw [List.append_nil] at hl ⊢
  exact .of_eq (h us hl)
def Passes (CX : CXT) (X : Cx) (E : XK) : Prop := ∀ (pins : List (Addr × Obj)) (σ : St) (H : Hp) (s : Shared) (e : Value) (s' : Shared), Inv X pins σ H s -> CX X.stack H s E e s' -> X.xe e s'
section
variable {X : Cx} {CX : CXT} {k : Nat} {f C : Addr} {fd : FuncData} {ps : List Str} {sp : Sp} {dvs : List V} {ds : List Value} {E : XK} {x m : Str} {p pos apos : Pos} {e o : Expr} {es : List Expr} {ta : TE} {t : TA}
theorem run_fn {pins : List (Addr × Obj)} {σ : St} {H : Hp} {s : Shared} {Q : VK} {us : List Value} {vs : List V} (F : FnOk X.prog X.w X.K X.mg X.base CX k f fd ps sp) (hr : Room k X.A) (hb : Binds X.K fd ps ds) (hd : Vals dvs ds) (hx : Passes CX X E)
    (I : Inv X pins σ H s) (r : Vals vs us) (h : sp (vs ++ dvs) H Q E) : wpAny (model X.prog X.w) X.A (call (.ref f) us) (EP X pins σ Q) X.xe s := by
  have r2 : Vals (vs ++ dvs) (us ++ ds) := r.append hd
  have hl : (us ++ ds).length = ps.length := by rw [<- r2.length]; exact F.len _ _ _ _ h
  refine wpAny_call (codeAny_mono (F.run X.A X.stack s H ⟨us, []⟩ (us ++ ds) (vs ++ dvs) Q E hr I.env0 (hb s us I.kIn hl) r2 h) fun r s' hq => ?_)
  cases r with
  | error e => exact hx pins σ H s e s' I hq
  | ok fl =>
    cases fl with
    | ret u => exact I.after hq
    | next => exact False.elim hq
    | brk => exact False.elim hq
    | cont => exact False.elim hq
theorem pe_call (F : FnOk X.prog X.w X.K X.mg X.base CX k f fd ps sp) (hr : Room k X.A) (hg : Gl X x) (hm : X.mg x = some (.ref f)) (hk : PySem.W.keepIn X.K (.ref f) = true) (hb : Binds X.K fd ps ds) (hd : Vals dvs ds) (hx : Passes CX X E)
    (ha : PA X (e :: es) t) (hdb : (x == ("__debug__" : Str)) = false := by decide) (he : starEach (e :: es) X.env = (false, eval e X.env) :: starEach es X.env := by rfl) (hpl : (backTo pos (starEach es X.env)).any (·.1) = false := by rfl) :
    PE X (.Call (.Name x p) (e :: es) [] pos) (tCall sp dvs E t) := by
  intro pins s σ H Q I h
  refine wpAny_Call_Name_kw (ld_glob I hg hm ?_ hdb)
  refine PySem.W.callWith_K (h₀ := X.base) I.ok.mod.kin hk (thn (ha pos pins s σ H _ I h) fun us s1 ⟨vs, H1, I1, r, q⟩ => ⟨I1.kIn, ?_⟩) he hpl
  exact run_fn F hr hb hd hx I1 r q
end
section
variable {X : Cx} {CX : CXT} {k : Nat} {f C : Addr} {fd : FuncData} {ps ks : List Str} {sp : Sp} {E : XK} {x m : Str} {p pos apos kpos : Pos} {e o : Expr} {es : List Expr} {kws : List Keyword} {te ta : TE} {t tk : TA} {nm : Option Str}
variable {g : List Value -> List Value -> List Value} {gV : List V -> List V -> List V}
end
structure FnScope (N P : List Str) (sc : Scope) : Prop where
  kind : sc.kind = .function
  co : sc.isCoroutine = false
  gen : sc.isGenerator = false
  nd : N.Nodup
  pre : N.take P.length = P
  par : ∀ x ∈ P, sc.names.lookup x = some .local \/ sc.names.lookup x = some .cell
  nofree : ∀ y ∈ sc.names, y.2 ≠ .free
theorem bindL_out {kindOf : Str -> Option NameKind} {x : Str} : ∀ {binds : List (Str × Value)} {m : Str -> Option Value}, (∀ v, (x, v) ∉ binds) -> bindL kindOf binds m x = m x
  | [], _, _ => rfl
  | (n, v) :: r, m, h => by
    unfold bindL
    rw [bindL_out fun w hw => h w (List.mem_cons_of_mem _ hw)]
    split
    · have : x ≠ n := by rintro rfl; exact h v List.mem_cons_self
      simp [this]
    · rfl
theorem bindC_out {kindOf : Str -> Option NameKind} {x : Str} : ∀ {binds : List (Str × Value)} {m : Str -> Option Value}, (∀ v, (x, v) ∉ binds) -> bindC kindOf binds m x = m x
  | [], _, _ => rfl
  | (n, v) :: r, m, h => by
    unfold bindC
    rw [bindC_out fun w hw => h w (List.mem_cons_of_mem _ hw)]
    split
    · rfl
    · have : x ≠ n := by rintro rfl; exact h v List.mem_cons_self
      simp [this]
theorem bindL_get {kindOf : Str -> Option NameKind} {x : Str} {v : Value} : ∀ {P : List Str} {vs : List Value} {i : Nat} {m : Str -> Option Value}, P.Nodup -> P[i]? = some x -> vs[i]? = some v -> kindOf x = some .local ->
    bindL kindOf (P.zip vs) m x = some v
  | [], _, _, _, _, h, _, _ => by simp at h
  | _ :: _, [], _, _, _, _, h, _ => by simp at h
  | p :: P, w :: vs, 0, m, nd, h1, h2, hk => by
    simp at h1 h2; subst h1; subst h2
    show bindL kindOf ((p, w) :: P.zip vs) m p = _
    unfold bindL
    rw [bindL_out fun v hv => (List.nodup_cons.mp nd).1 (List.of_mem_zip hv).1, if_pos hk]
    simp
  | p :: P, w :: vs, i + 1, m, nd, h1, h2, hk => by
    show bindL kindOf ((p, w) :: P.zip vs) m x = _
    unfold bindL
    exact bindL_get (i := i) (List.nodup_cons.mp nd).2 (by simpa using h1) (by simpa using h2) hk
theorem bindC_get {kindOf : Str -> Option NameKind} {x : Str} {v : Value} : ∀ {P : List Str} {vs : List Value} {i : Nat} {m : Str -> Option Value}, P.Nodup -> P[i]? = some x -> vs[i]? = some v -> kindOf x ≠ some .local ->
    bindC kindOf (P.zip vs) m x = some v
  | [], _, _, _, _, h, _, _ => by simp at h
  | _ :: _, [], _, _, _, _, h, _ => by simp at h
  | p :: P, w :: vs, 0, m, nd, h1, h2, hk => by
    simp at h1 h2; subst h1; subst h2
    show bindC kindOf ((p, w) :: P.zip vs) m p = _
    unfold bindC
    rw [bindC_out fun v hv => (List.nodup_cons.mp nd).1 (List.of_mem_zip hv).1, if_neg hk]
    simp
  | p :: P, w :: vs, i + 1, m, nd, h1, h2, hk => by
    show bindC kindOf ((p, w) :: P.zip vs) m x = _
    unfold bindC
    exact bindC_get (i := i) (List.nodup_cons.mp nd).2 (by simpa using h1) (by simpa using h2) hk
def start (N : List Str) (vs : List V) : St := vs.map some ++ List.replicate (N.length - vs.length) none
def cxOf (CX : CXT) (P : Program) (w : World) (K : PySem.W.Frag) (mg : Str -> Option Value) (base : Heap) (N : List Str) (qual : Str) (scope : Scope) (f : Addr) (cd : Value) (A : Around) (outer : List Env) (s : Shared) (H : Hp) (E : XK) : Cx where
  prog := P
  w := w
  K := K
  mg := mg
  base := base
  A := A.deeper (envOfC qual scope s.heap.objs.size f cd)
  N := N
  s₀ := s
  H₀ := H
  env := envOfC qual scope s.heap.objs.size f cd
  outer := outer
  stack := envOfC qual scope s.heap.objs.size f cd :: outer
  ex := []
  calm := true
  fn := fun _ => true
  pn := []
  xe := fun e s' => wpAny (model P w) (A.deeper (envOfC qual scope s.heap.objs.size f cd)) (leaving (envOfC qual scope s.heap.objs.size f cd) e) (fun _ s'' => CX outer H s E e s'') (fun e' s'' => CX outer H s E e' s'') s'
theorem cell_has {sc : Scope} {n : Nat} {x : Str} (h : sc.names.lookup x = some .cell) : ∃ c, (cellsFrom n sc.names []).lookup x = some c := by
  have q := PySem.W.cellsFrom_some sc.names n [] (.inl h)
  exact Option.isSome_iff_exists.mp q
theorem inv_start {CX : CXT} {P : Program} {w : World} {K : PySem.W.Frag} {mg : Str -> Option Value} {base : Heap} {N ps : List Str} {qual : Str} {scope : Scope} {f : Addr} {cd : Value} {A : Around} {outer : List Env} {s s1 : Shared} {H : Hp} {E : XK} {us : List Value} {vs : List V}
    (S : FnScope N ps scope) (hd : A.handled = none) (e0 : Env0 P w K mg base A outer s H) (hl : vs.length = ps.length) (r : Vals vs us)
    (x : InCallC s s.heap.objs.size (bindL (envOfC qual scope s.heap.objs.size f cd).kindOf (ps.zip us) fun _ => none) (cellsFrom (s.heap.objs.size + 1) scope.names []) (bindC (envOfC qual scope s.heap.objs.size f cd).kindOf (ps.zip us) fun _ => none) s1) :
    Inv (cxOf CX P w K mg base N qual scope f cd A outer s H E) [] (start N vs) H s1 := by
  have hpl : ps.length <= N.length := by have := congrArg List.length S.pre; rw [List.length_take] at this; omega
  obtain ⟨h1, tk, rfl, hk⟩ := x.done
  have noA : ∀ b : Addr, b ∉ (cxOf CX P w K mg base N qual scope f cd A outer s H E).ex := fun b z => absurd (show b ∈ ([] : List Addr) from z) (by simp)
  refine ⟨⟨e0.mod, S.kind, rfl, rfl, Nat.le_refl _, fun y z c h1 h2 => ?_, fun y hy => ?_, fun y c _ h => ?_, fun _ => hd, Around.frames_deeper e0.frames, .inr ⟨rfl, rfl⟩, fun b z => absurd z (noA b), e0.bs, e0.bsz, fun b _ _ => noA b, fun b z => absurd z (noA b), e0.funs, e0.frf⟩,
    rfl, e0.bare, Un.kept hk, ⟨_, x.toInCall.ns, fun i y v h1 h2 h3 => ?_⟩, fun y c h => ⟨_, x.cell y c h⟩, e0.hok.fresh (Nat.le_refl _), fun y c h => ?_, fun p hp => absurd (show p ∈ ([] : List (Addr × Obj)) from hp) (by simp), e0.hok.kept hk, ?_⟩
  · exact name_of_addr x.apart (PySem.mem_of_lookup h1) (PySem.mem_of_lookup h2)
  · have hy : scope.names.lookup y = some .cell \/ scope.names.lookup y = some .free := hy
    rcases hy with hy | hy
    · exact cell_has hy
    · exact absurd rfl (S.nofree _ (PySem.mem_of_lookup hy))
  · exact Nat.le_of_lt (x.above y c (PySem.mem_of_lookup h))
  · have hi : i < vs.length := by
      unfold start at h2
      by_cases hi : i < vs.length
      · exact hi
      · rw [List.getElem?_append_right (by simpa using hi)] at h2
        rw [List.getElem?_replicate] at h2
        split at h2 <;> cases h2
    have ha : vs[i]? = some v := by
      unfold start at h2
      rw [List.getElem?_append_left (by simpa using hi), List.getElem?_map] at h2
      cases e : vs[i]? with
      | none => rw [e] at h2; cases h2
      | some a => rw [e] at h2; cases h2; rfl
    obtain ⟨u, hu, rv⟩ := r.get ha
    have hp : ps[i]? = some y := by
      rw [<- S.pre, List.getElem?_take_of_lt (by omega)]; exact h1
    have ndP : ps.Nodup := by rw [<- S.pre]; exact S.nd.sublist (List.take_sublist _ _)
    refine ⟨u, rv, ?_⟩
    rcases S.par y (List.mem_of_getElem? hp) with k | k
    · exact .inl ⟨k, bindL_get ndP hp hu k⟩
    · obtain ⟨c, e⟩ := cell_has (n := s.heap.objs.size + 1) k
      refine .inr ⟨.inl k, c, e, ?_⟩
      have q := x.cell y c e
      rw [bindC_get ndP hp hu (by show scope.names.lookup y ≠ _; rw [k]; decide)] at q
      exact q
  · exact e0.hok.fresh (Nat.le_of_lt (x.above y c (PySem.mem_of_lookup h)))
  · unfold start
    show _ = N.length
    rw [List.length_append, List.length_map, List.length_replicate]
    omega
theorem fn_of {CX : CXT} {P : Program} {w : World} {K : PySem.W.Frag} {mg : Str -> Option Value} {base : Heap} {k : Nat} {f : Addr} {name qual : Str} {params : Arguments} {body : List Stmt} {scope : Scope} {dV kV doc pm cdv ct oc : Value} {an od : Option Addr}
    {osl : Array (Option Value)} {N ps : List Str} {sp : Sp} (lk : K.lookup f = some ⟨oc, od, .func (PySem.W.fnOf name qual params body scope dV kV doc pm an cdv ct), osl⟩) (hcd : PySem.W.codeIn K cdv qual = true) (S : FnScope N ps scope)
    (len : ∀ vs H Q E, sp vs H Q E -> vs.length = ps.length)
    (hbody : ∀ (A : Around) (outer : List Env) (s : Shared) (H : Hp) (vs : List V) (Q : VK) (E : XK), Room k (A.deeper (envOfC qual scope s.heap.objs.size f cdv)) -> sp vs H Q E ->
      ∃ t, PSs (cxOf CX P w K mg base N qual scope f cdv A outer s H E) body t /\ t { nx := fun _ H' => Q .non H', rt := Q } (start N vs) H) :
    FnOk P w K mg base CX (k + 1) f (PySem.W.fnOf name qual params body scope dV kV doc pm an cdv ct) ps sp := by
  refine ⟨len, fun A outer s H args us vs Q E hr e0 hb r hsp => ?_⟩
  have hl := len _ _ _ _ hsp
  have KX : K.In s.heap := e0.mod.kin.keeps fun b o e => (e0.bs b o e).1
  have lim : s.heap.NoLimit := e0.mod.nolimit.keeps fun b o e => (e0.bs b o e).1
  have hkind : ∀ y ∈ ps.zip us, scope.names.lookup y.1 = some .local \/ (scope.names.lookup y.1 = some .cell /\ ((cellsFrom (s.heap.objs.size + 1) scope.names []).lookup y.1).isSome = true) := fun ⟨n, v⟩ hy => by
    rcases S.par n (List.of_mem_zip hy).1 with q | q
    · exact .inl q
    · exact .inr ⟨q, PySem.W.cellsFrom_some _ _ _ (.inl q)⟩
  refine codeAny_call_function hr.depth (KX _ _ lk) rfl S.co S.gen rfl (PySem.W.codeRec_of KX hcd) (hb _ _ _ _ ?_)
  refine wpAny_newFunctionEnv_cells S.kind hkind fun env he s1 x => ?_
  subst he
  refine ⟨lim.keeps x.toInCall.keep, codeAny_func ?_⟩
  obtain ⟨t, ht, hq⟩ := hbody A outer s H vs Q E (hr.deeper _) hsp
  have I : Inv (cxOf CX P w K mg base N qual scope f cdv A outer s H E) [] (start N vs) H s1 := inv_start S hr.hd e0 hl r x
  refine wpAny_mono (ht [] s1 (start N vs) H _ I hq) (fun fl s' hs => ?_) fun e s' hs => hs
  have fin : ∀ {σ' : St} {H' : Hp} {v : V} {u : Value}, Inv (cxOf CX P w K mg base N qual scope f cdv A outer s H E) [] σ' H' s' -> RelV v u -> Q v H' -> CE outer P w H s Q u s' :=
    fun {σ' H' v u} J rv q => ⟨v, H', J.os, J.bare, J.base, J.hok, rv, q⟩
  cases fl with
  | ret u =>
    obtain ⟨v, σ', H', J, rv, q⟩ := hs
    exact fin J rv q
  | next =>
    obtain ⟨σ', H', J, q⟩ := hs
    exact fin (v := V.non) (u := Value.none) J rfl q
  | brk =>
    obtain ⟨_, _, _, q⟩ := hs
    exact False.elim q
  | cont =>
    obtain ⟨_, _, _, q⟩ := hs
    exact False.elim q
end L2
namespace L2
open PySem PySem.Spec PyProof.Rows
section
variable {X : Cx} {x : Str} {p pos : Pos} {e : Expr} {es : List Expr} {t : TA} {id T : String} {r : List V -> Hp -> VK -> Prop}
def tCB (r : List V -> Hp -> VK -> Prop) (t : TA) : TE := fun σ H Q => t σ H fun vs H1 => r vs H1 Q
theorem pe_callB (hc : CallR X (.builtin id) r) (hg : Gl X x) (hm : X.mg x = none) (hv : bootBuiltins x = some (.builtin id)) (ha : PA X (e :: es) t) (hn : x ≠ "__name__" := by decide) (hdb : (x == ("__debug__" : Str)) = false := by decide)
    (he : starEach (e :: es) X.env = (false, eval e X.env) :: starEach es X.env := by rfl) (hpl : (backTo pos (starEach es X.env)).any (·.1) = false := by rfl) : PE X (.Call (.Name x p) (e :: es) [] pos) (tCB r t) := by
  intro pins s σ H Q I h
  refine wpAny_Call_Name_kw (ld_blt I hg hm hv ?_ hn hdb)
  exact PyProof.Rows.callWith_builtin1 (thn (ha pos pins s σ H _ I h) fun us s1 ⟨vs, H1, I1, r1, q1⟩ => hc pins s1 σ H1 vs us Q I1 r1 q1) he hpl
theorem pe_callTy (hc : CallR X (.type T) r) (hg : Gl X x) (hm : X.mg x = none) (hv : bootBuiltins x = some (.type T)) (ha : PA X (e :: es) t) (hn : x ≠ "__name__" := by decide) (hdb : (x == ("__debug__" : Str)) = false := by decide)
    (he : starEach (e :: es) X.env = (false, eval e X.env) :: starEach es X.env := by rfl) (hpl : (backTo pos (starEach es X.env)).any (·.1) = false := by rfl) : PE X (.Call (.Name x p) (e :: es) [] pos) (tCB r t) := by
  intro pins s σ H Q I h
  refine wpAny_Call_Name_kw (ld_blt I hg hm hv ?_ hn hdb)
  exact PyProof.Rows.callWith_type1 (thn (ha pos pins s σ H _ I h) fun us s1 ⟨vs, H1, I1, r1, q1⟩ => hc pins s1 σ H1 vs us Q I1 r1 q1) he hpl
end
end L2
namespace HT
open PySem PyProof.Rows
section
open PySem.SeqAt
open PySem.AutoSeq1 (wpAny_loadPart')
open PySem.MeetsSeq PySem.MeetsSeq2 PySem.MeetsSeq3
end
section
variable {prog : Program} {w : World} {A : Around} {E : Value -> Shared -> Prop} {s : Shared}
theorem cat_tup {t b : Addr} {vs ws : List Value} {Q : Value -> Shared -> Prop} (ht : IsTup s.heap t vs.toArray) (hb : IsTup s.heap b ws.toArray) (hv : vs ≠ [])
    (h1 : ws = [] -> Q (.ref t) s) (h2 : ws ≠ [] -> Q (.ref s.heap.objs.size) { s with heap := s.heap.push { cls := .type "tuple", data := .seq (vs ++ ws).toArray } })
    (hsz : vs.length + ws.length <= sizeLine) : wpAny (model prog w) A (binaryOp .Add (.ref t) (.ref b)) Q E s := by
  obtain ⟨⟨cls, dd, data, sl⟩, ho, hc, n, hd⟩ := id ht
  obtain ⟨⟨cls2, dd2, data2, sl2⟩, ho2, hc2, n2, hd2⟩ := id hb
  simp only at hc hd hc2 hd2
  subst hc hd hc2 hd2
  have e : vs.toArray ++ ws.toArray = (vs ++ ws).toArray := by simp
  by_cases hw : ws = []
  · exact concat_meets ⟨_, ho, rfl⟩ ⟨_, ho2, rfl⟩ noFill_tuple_add seq_tuple_add PySem.F.slot_tuple_add PySem.F.entry_tuple_add (PySem.F.args_tuple_add_2 _ _)
      (tuple_addW1 t b vs.toArray ws.toArray n n2 dd dd2 sl sl2 (by simpa using hv) (by simp [hw])) ⟨ho, ho2, h1 hw⟩
  · refine concat_meets ⟨_, ho, rfl⟩ ⟨_, ho2, rfl⟩ noFill_tuple_add seq_tuple_add PySem.F.slot_tuple_add PySem.F.entry_tuple_add (PySem.F.args_tuple_add_2 _ _)
      (tuple_addW2 t b vs.toArray ws.toArray n n2 dd dd2 sl sl2 (by simpa using hv) (by simpa using hw) (by rw [List.size_toArray, List.size_toArray]; exact hsz)) ⟨ho, ho2, ?_⟩
    rw [e]
    exact h2 hw
def sIx (n d : Nat) : Option Int -> Nat
  | none => d
  | some v => if v < 0 then (v + (n : Int)).toNat else min v.toNat n
theorem sIx_none (n d : Nat) : sIx n d none = d := rfl
theorem sIx_nat (n d k : Nat) : sIx n d (some (k : Int)) = min k n := by
  show (if (k : Int) < 0 then ((k : Int) + (n : Int)).toNat else min (k : Int).toNat n) = min k n
  rw [if_neg (by omega), Int.toNat_natCast]
theorem sIx_le (n d : Nat) (hd : d <= n) (o : Option Int) : sIx n d o <= n := by
  cases o with
  | none => exact hd
  | some v =>
    show (if v < 0 then (v + (n : Int)).toNat else min v.toNat n) <= n
    by_cases hv : v < 0
    · rw [if_pos hv]; omega
    · rw [if_neg hv]; exact Nat.min_le_right _ _
theorem clip_eq (v : Int) (n d : Nat) : (if v < 0 then max (v + (n : Int)) 0 else min v (n : Int)) = ((sIx n d (some v) : Nat) : Int) := by
  show (if v < 0 then max (v + (n : Int)) 0 else min v (n : Int)) = (((if v < 0 then (v + (n : Int)).toNat else min v.toNat n) : Nat) : Int)
  by_cases hv : v < 0
  · simp only [if_pos hv]; omega
  · simp only [if_neg hv]; omega
theorem adjust_gen (lo hi : Option Int) (n : Nat) : Builtin.Slice.sliceAdjust lo hi 1 (n : Int) = (((sIx n 0 lo : Nat) : Int), ((sIx n n hi : Nat) : Int)) := by
  have h1 : ¬ ((1 : Int) < 0) := by omega
  unfold Builtin.Slice.sliceAdjust
  simp only [h1, if_false]
  refine Prod.ext ?_ ?_
  · cases lo with
    | none => rfl
    | some v => exact clip_eq v n 0
  · cases hi with
    | none => rfl
    | some v => exact clip_eq v n n
theorem places_gen (i j : Nat) : Builtin.Slice.slicePlaces (i : Int) (j : Int) 1 = j - i := by
  unfold Builtin.Slice.slicePlaces
  have h1 : (1 : Int) > 0 := by omega
  simp only [h1, if_true, Int.ediv_one]
  split <;> omega
theorem slicePart_ {v : Value} {o : Option Int} {Q : Option Int -> Shared -> Prop} (p : IsPart v o) (h : Q o s) : wpAny (model prog w) A (Builtin.Slice.slicePartIndex v) Q E s := by
  cases p with
  | none => exact slicePart_none h
  | int i t => exact slicePart_int h
theorem sliceApplied_gen {sl : Addr} {vl vu : Value} {lo hi : Option Int} {n : Nat} {Q : Int × Int × Nat -> Shared -> Prop} (hs : s.heap.IsSliceOf sl vl vu .none) (pl : IsPart vl lo) (pu : IsPart vu hi)
    (h : Q (((sIx n 0 lo : Nat) : Int), 1, sIx n n hi - sIx n 0 lo) s) : wpAny (model prog w) A (Builtin.Slice.sliceApplied (.ref sl) (pure (n : Int))) Q E s := by
  obtain ⟨os, hos, hcs, hds⟩ := id hs
  unfold Builtin.Slice.sliceApplied Builtin.Slice.sliceFields
  refine wpAny_bind (wpAny_bind (wpAny_field hos hds (x := vl) rfl (wpAny_bind (wpAny_field hos hds (x := vu) rfl (wpAny_bind (wpAny_field hos hds (x := .none) rfl (wpAny_pure ?_)))))))
  refine wpAny_bind (slicePart_none ?_)
  show wpAny _ _ (if ((1 : Int) == 0) = true then _ else _) _ _ s
  rw [if_neg (by decide)]
  refine wpAny_bind (slicePart_ pl (wpAny_bind (slicePart_ pu (wpAny_bind (wpAny_pure ?_)))))
  show wpAny _ _ (match Builtin.Slice.sliceAdjust lo hi 1 (n : Int) with | (lo, hi) => pure (lo, (1 : Int), Builtin.Slice.slicePlaces lo hi 1)) _ _ s
  rw [adjust_gen lo hi n]
  show wpAny _ _ (pure (((sIx n 0 lo : Nat) : Int), (1 : Int), Builtin.Slice.slicePlaces ((sIx n 0 lo : Nat) : Int) ((sIx n n hi : Nat) : Int) 1)) _ _ s
  rw [places_gen]
  exact wpAny_pure h
theorem pick_gen (xs : Array Value) (i k : Nat) : ((List.range k).filterMap fun (m : Nat) => xs[((i : Int) + (m : Int) * 1).toNat]?).toArray = ((xs.toList.drop i).take k).toArray := by
  have e : (fun (m : Nat) => xs[((i : Int) + (m : Int) * 1).toNat]?) = fun m => xs[i + m]? := by
    funext m
    have : ((i : Int) + (m : Int) * 1).toNat = i + m := by omega
    rw [this]
  rw [e]
  have := pick_run xs i k
  rw [List.filterMap_map] at this
  have e2 : ((fun x => xs[x]?) ∘ fun x => i + x) = fun m => xs[i + m]? := rfl
  rw [e2] at this
  rw [this]
theorem getItem_tuple_cut {t sl : Addr} {items : Array Value} {vl vu : Value} {lo hi : Option Int} {Q : Value -> Shared -> Prop} (ht : IsTup s.heap t items) (hs : s.heap.IsSliceOf sl vl vu .none) (pl : IsPart vl lo) (pu : IsPart vu hi)
    (hw : ¬ (sIx items.size 0 lo = 0 /\ sIx items.size items.size hi = items.size))
    (h : Q (.ref s.heap.objs.size) { s with heap := s.heap.push { cls := .type "tuple", data := .seq ((items.toList.drop (sIx items.size 0 lo)).take (sIx items.size items.size hi - sIx items.size 0 lo)).toArray } })
    (hsz : items.size <= sizeLine) : wpAny (model prog w) A (getItem (.ref t) (.ref sl)) Q E s := by
  have htake : sizeOk (.seq ((items.toList.drop (sIx items.size 0 lo)).take (sIx items.size items.size hi - sIx items.size 0 lo)).toArray) := by
    show ((items.toList.drop (sIx items.size 0 lo)).take (sIx items.size items.size hi - sIx items.size 0 lo)).toArray.size <= sizeLine
    rw [List.size_toArray, List.length_take, List.length_drop, Array.length_toList]
    omega
  have hj : sIx items.size items.size hi <= items.size := sIx_le _ _ (Nat.le_refl _) hi
  obtain ⟨os, hos, hcs, hds⟩ := id hs
  have hTs : s.TypeIs (.ref sl) "slice" := ⟨os, hos, hcs⟩
  unfold getItem
  try with_reducible refine wpAny_holding ?_
  first | refine wpAny_bind (wpAny_pure ?_) | skip
  refine wpAny_bind (wpAny_sequenceKey ht.typeIs (by decide) ?_)
  refine wpAny_bind (wpAny_callSpecial?_slot (name := Str.ofString "__getitem__") ht.typeIs PyProof.Rows.slot_tuple_getitem
    (wpAny_call_entry PyProof.Rows.slot_tuple_getitem ht.typeIs entry_tuple_getitem ?_ (args_tuple_getitem _ _)))
  show wpAny _ _ (Builtin.Tuple.tupleItemsOf (.ref t) >>= _) _ _ s
  refine wpAny_bind (tupleItemsOf_ ht ?_)
  refine wpAny_bind (wpAny_typeOf hTs ?_)
  rw [if_pos (by decide)]
  refine wpAny_bind (sliceApplied_gen hs pl pu ?_)
  have hno : ¬ ((((sIx items.size 0 lo : Nat) : Int) == 0 && (1 : Int) == 1 && (sIx items.size items.size hi - sIx items.size 0 lo) == items.size) = true) := by
    intro q
    rw [Bool.and_eq_true, Bool.and_eq_true] at q
    have q1 : ((sIx items.size 0 lo : Nat) : Int) = 0 := eq_of_beq q.1.1
    have q2 : sIx items.size items.size hi - sIx items.size 0 lo = items.size := eq_of_beq q.2
    exact hw ⟨by omega, by omega⟩
  show wpAny _ _ (if (((sIx items.size 0 lo : Nat) : Int) == 0 && (1 : Int) == 1 && (sIx items.size items.size hi - sIx items.size 0 lo) == items.size) = true then _ else _) _ _ s
  rw [if_neg hno, pick_gen]
  first
    | exact wpAny_bind (m := Builtin.Tuple.tupleExact _) (wpAny_newObj_type (wpAny_pure ⟨_, rfl, wpAny_pure h⟩) htake)
    | exact wpAny_bind (m := Builtin.Tuple.tupleExact _) (wpAny_newObj_type (wpAny_bind (wpAny_pure (wpAny_pure ⟨_, rfl, wpAny_pure h⟩))) htake)
    | exact wpAny_bind (wpAny_bind (m := Builtin.Tuple.tupleExact _) (wpAny_newObj_type (wpAny_pure (wpAny_pure ⟨_, rfl, wpAny_pure h⟩)) htake))
    | exact wpAny_bind (wpAny_bind (m := Builtin.Tuple.tupleExact _) (wpAny_newObj_type (wpAny_pure ⟨_, rfl, wpAny_pure h⟩) htake))
end
end HT
namespace L2
open PySem PySem.Spec PyProof.Rows
abbrev TO := St -> Hp -> (Option Int -> Hp -> Prop) -> Prop
def PO (X : Cx) (e : Option Expr) (t : TO) : Prop :=
  ∀ (pins : List (Addr × Obj)) (s : Shared) (σ : St) (H : Hp) (Q : Option Int -> Hp -> Prop), Inv X pins σ H s -> t σ H Q ->
    wpAny (model X.prog X.w) X.A (evalPart e X.env) (fun u s' => ∃ o H', Inv X pins σ H' s' /\ IsPart u o /\ Q o H') X.xe s
def tNoPart : TO := fun _ H Q => Q none H
def tPart (t : TE) : TO := fun σ H Q => t σ H fun x H1 => ∃ i, x = .int i /\ Q (some i) H1
theorem intsAre_of {ns : List Int} : ∀ {us : List Value}, Vals (ns.map V.int) us -> IntsAre us ns := by
  induction ns with
  | nil => intro us r; rw [List.map_nil] at r; cases r; exact .nil
  | cons n ns ih =>
    intro us r
    rw [List.map_cons] at r
    cases r with
    | cons r1 r2 =>
      obtain ⟨t, e⟩ := r1
      subst e
      exact .cons n t (ih r2)
section
variable {X : Cx} {e : Expr} {te : TE} {lo hi : Option Expr} {tl th : TO} {pos p2 : Pos}
theorem po_none : PO X none tNoPart := by
  intro pins s σ H Q I h
  rw [evalPart_none]
  exact wpAny_pure ⟨none, H, I, .none, h⟩
theorem po_some (h : PE X e te) : PO X (some e) (tPart te) := by
  intro pins s σ H Q I hw
  rw [evalPart_some]
  refine thn (h pins s σ H _ I hw) fun u s1 ⟨x, H1, I1, r1, q1⟩ => ?_
  obtain ⟨i, rfl, q⟩ := q1
  obtain ⟨t, rfl⟩ := r1
  exact ⟨some i, H1, I1, .int i t, q⟩
def SlR (X : Cx) (r : V -> Option Int -> Option Int -> Hp -> VK -> Prop) : Prop :=
  ∀ (pins : List (Addr × Obj)) (s : Shared) (σ : St) (H : Hp) (x : V) (v vl vu : Value) (lo hi : Option Int) (sl : Addr) (Q : VK), Inv X pins σ H s -> RelV x v -> s.heap.IsSliceOf sl vl vu .none -> IsPart vl lo -> IsPart vu hi -> r x lo hi H Q ->
    ∃ T id, typeLookup (.type T) "__getitem__" = pure (some (.builtin id)) /\ s.TypeIs v T /\ wpAny (model X.prog X.w) X.A (getItem v (.ref sl)) (EP X pins σ Q) X.xe s
def tSl (r : V -> Option Int -> Option Int -> Hp -> VK -> Prop) (te : TE) (tl th : TO) : TE := fun σ H Q => te σ H fun x H1 => tl σ H1 fun l H2 => th σ H2 fun u H3 => r x l u H3 Q
theorem pe_slice {r : V -> Option Int -> Option Int -> Hp -> VK -> Prop} (hr : SlR X r) (he : PE X e te) (hl : PO X lo tl) (hu : PO X hi th) : PE X (.Subscript e (.Slice lo hi none p2) pos) (tSl r te tl th) := by
  intro pins s σ H Q I h
  refine Subscript_ (thn (he pins s σ H _ I h) fun v s1 ⟨x, H1, I1, r1, q1⟩ => ?_)
  refine wpAny_Slice (thn (hl pins s1 σ H1 _ I1 q1) fun vl s2 ⟨l, H2, I2, pl, q2⟩ => thn (hu pins s2 σ H2 _ I2 q2) fun vu s3 ⟨u, H3, I3, pu, q3⟩ => ?_)
  rw [evalPart_none]
  refine wpAny_pure ?_
  have I4 : Inv X pins σ H3 { s3 with heap := s3.heap.push { cls := .type "slice", data := .fields #[vl, vu, .none] } } := I3.kept (t' := s3.toks) fun b ob q => Heap.get?_push_of_some _ q
  obtain ⟨T, id, hT, ht, hg⟩ := hr pins { s3 with heap := s3.heap.push { cls := .type "slice", data := .fields #[vl, vu, .none] } } σ H3 x v vl vu l u s3.heap.objs.size Q I4 r1 (Heap.IsSliceOf.new ..) pl pu q3
  show wpAny (model X.prog X.w) X.A (subscriptTail e (.Slice lo hi none p2) v (.ref s3.heap.objs.size)) (EP X pins σ Q) X.xe { s3 with heap := s3.heap.push { cls := .type "slice", data := .fields #[vl, vu, .none] } }
  exact tail_any (ops := [.ref s3.heap.objs.size, v]) ht hT hg (by with_unfolding_all rfl)
def cutV (xs : List V) (lo hi : Option Int) : List V := (xs.drop (HT.sIx xs.length 0 lo)).take (HT.sIx xs.length xs.length hi - HT.sIx xs.length 0 lo)
theorem cutV_length (xs : List V) (lo hi : Option Int) : (cutV xs lo hi).length <= xs.length := by
  unfold cutV
  rw [List.length_take, List.length_drop]
  omega
def rSlT (K : PySem.W.Frag) : V -> Option Int -> Option Int -> Hp -> VK -> Prop := fun x lo hi H Q => ∃ a xs, x = .ref a /\ SqT K H a xs /\
  ¬ (HT.sIx xs.length 0 lo = 0 /\ HT.sIx xs.length xs.length hi = xs.length) /\ ∀ p, H p = none -> Q (.ref p) (upd H p (.tup (cutV xs lo hi)))
theorem sl_tup : SlR X (rSlT X.K) := by
  intro pins s σ H x v vl vu lo hi sl Q I rx hs pl pu h
  obtain ⟨a, xs, rfl, hx, hw, q⟩ := h
  cases rx
  obtain ⟨its, r, ht, hz⟩ := I.tuple hx
  have hlen : its.toArray.size = xs.length := by rw [List.size_toArray]; exact r.length.symm
  refine ⟨"tuple", _, PyProof.Rows.slot_tuple_getitem.lookup, ht.typeIs, ?_⟩
  refine HT.getItem_tuple_cut ht hs pl pu (by rw [hlen]; exact hw) ?_ (by rw [hlen]; exact hz)
  rw [hlen]
  refine ⟨.ref s.heap.objs.size, _, I.laid (t' := s.toks) (o := .tup (cutV xs lo hi)) (fun b ob q => Heap.get?_push_of_some _ q) (Nat.le_refl _) ?_, rfl, q _ (I.hok.fresh (Nat.le_refl _))⟩
  exact ⟨Nat.le_trans (cutV_length xs lo hi) hz, _, (r.drop (HT.sIx xs.length 0 lo)).take (HT.sIx xs.length xs.length hi - HT.sIx xs.length 0 lo), IsTup.new _ _⟩
def rCatT (K : PySem.W.Frag) : R2 := fun x y H Q => ∃ a b xs ys, x = .ref a /\ y = .ref b /\ SqT K H a xs /\ SqT K H b ys /\ xs ≠ [] /\ xs.length + ys.length <= sizeLine /\
  (ys = [] -> Q (.ref a) H) /\ (ys ≠ [] -> ∀ p, H p = none -> Q (.ref p) (upd H p (.tup (xs ++ ys))))
theorem Vals.nil_iff {xs : List V} {us : List Value} (r : Vals xs us) : us = [] ↔ xs = [] := by
  cases r with
  | nil => simp
  | cons _ _ => simp
theorem op_catT : OpR X (binaryOp .Add) (rCatT X.K) := by
  intro pins s σ H x y v u Q I rx ry h
  obtain ⟨a, b, xs, ys, rfl, rfl, ha, hb, hx, hz, q1, q2⟩ := h
  cases rx
  cases ry
  obtain ⟨its, r1, p1, _⟩ := I.tuple ha
  obtain ⟨its2, r2, p2, _⟩ := I.tuple hb
  refine HT.cat_tup p1 p2 (fun z => hx (r1.nil_iff.mp z)) (fun z => ⟨.ref a, H, I, rfl, q1 (r2.nil_iff.mp z)⟩) (fun z => ?_) (by rw [<- r1.length, <- r2.length]; exact hz)
  refine ⟨.ref s.heap.objs.size, _, I.laid (t' := s.toks) (o := .tup (xs ++ ys)) (fun b ob q => Heap.get?_push_of_some _ q) (Nat.le_refl _) ?_, rfl, q2 (fun w => z (r2.nil_iff.mpr w)) _ (I.hok.fresh (Nat.le_refl _))⟩
  exact ⟨by rw [List.length_append]; exact hz, _, r1.append r2, IsTup.new _ _⟩
end
end L2
namespace L2
open PySem PySem.Spec PyProof.Rows
def ixN (n : Nat) (i : Int) : Option Nat := if 0 <= i then (if i < n then some i.toNat else none) else if -(n : Int) <= i then some (i + n).toNat else none
def atI {α : Type} (xs : List α) (i : Int) : Option α := (ixN xs.length i).bind fun j => xs[j]?
theorem ixN_seq {n : Nat} {i : Int} {j : Nat} (h : ixN n i = some j) : seqIndex? i n = some j /\ j < n /\ -(n : Int) <= i /\ i < n := by
  unfold ixN at h
  by_cases h0 : 0 <= i
  · rw [if_pos h0] at h
    by_cases h1 : i < n
    · rw [if_pos h1] at h
      have e : i.toNat = j := Option.some.inj h
      exact ⟨by rw [seqIndex_of h0 h1, e], by omega, by omega, h1⟩
    · rw [if_neg h1] at h; cases h
  · rw [if_neg h0] at h
    by_cases h1 : -(n : Int) <= i
    · rw [if_pos h1] at h
      have e : (i + n).toNat = j := Option.some.inj h
      exact ⟨by rw [seqIndex_neg (by omega) h1, e], by omega, h1, by omega⟩
    · rw [if_neg h1] at h; cases h
theorem atI_get {α : Type} {xs : List α} {i : Int} {v : α} (h : atI xs i = some v) : ∃ j, seqIndex? i xs.length = some j /\ xs[j]? = some v /\ j < xs.length /\ -(xs.length : Int) <= i /\ i < xs.length := by
  unfold atI at h
  cases e : ixN xs.length i with
  | none => rw [e] at h; cases h
  | some j =>
    rw [e] at h
    obtain ⟨h1, h2, h3, h4⟩ := ixN_seq e
    exact ⟨j, h1, h, h2, h3, h4⟩
theorem atI_nat {α : Type} {xs : List α} {j : Nat} {v : α} (h : xs[j]? = some v) : atI xs (j : Int) = some v := by
  have hj : j < xs.length := (List.getElem?_eq_some_iff.mp h).1
  have e : ixN xs.length (j : Int) = some j := by
    unfold ixN
    rw [if_pos (by omega), if_pos (by omega)]; simp
  unfold atI; rw [e]; exact h
def PlainIx (b : Expr) : Prop := ∀ o i, subscripted b false o i = operate [o, i] (getItem o i)
def IxR (X : Cx) (r : R2) : Prop :=
  ∀ (value slice : Expr) (pins : List (Addr × Obj)) (s : Shared) (σ : St) (H : Hp) (x y : V) (v u : Value) (Q : VK), Inv X pins σ H s -> RelV x v -> RelV y u -> r x y H Q ->
    subscripted slice false v u = operate [v, u] (getItem v u) -> wpAny (model X.prog X.w) X.A (subscriptTail value slice v u) (EP X pins σ Q) X.xe s
def MtR (X : Cx) (id : String) (r : V -> List V -> Hp -> VK -> Prop) : Prop :=
  ∀ (pins : List (Addr × Obj)) (s : Shared) (σ : St) (H : Hp) (x : V) (xs : List V) (v : Value) (us : List Value) (Q : VK), Inv X pins σ H s -> RelV x v -> Vals xs us -> r x xs H Q ->
    wpAny (model X.prog X.w) X.A (call (.builtin id) (v :: us)) (EP X pins σ Q) X.xe s
section
variable {X : Cx} {a b : Expr} {ta tb : TE} {pos : Pos}
theorem pe_ix {r : R2} (hr : IxR X r) (ha : PE X a ta) (hb : PE X b tb) (hs : PlainIx b) : PE X (.Subscript a b pos) (tOp r ta tb) := by
  intro pins s σ H Q I h
  exact Subscript_ (binT ha hb I h fun v u s2 x y H2 I2 rx ry q => hr a b pins s2 σ H2 x y v u Q I2 rx ry q (hs _ _))
def rIxL (K : PySem.W.Frag) : R2 := fun x y H Q => ∃ p xs i v, x = .ref p /\ y = .int i /\ SqL K H p xs /\ atI xs i = some v /\ Q v H
def rIxT (K : PySem.W.Frag) : R2 := fun x y H Q => ∃ p xs i v, x = .ref p /\ y = .int i /\ SqT K H p xs /\ atI xs i = some v /\ Q v H
def rIxS : R2 := fun x y H Q => ∃ z i c, x = .str z /\ y = .int i /\ z.length <= sizeLine /\ atI z.cps.toList i = some c /\ Q (.str ⟨#[c]⟩) H
theorem ix_list : IxR X (rIxL X.K) := by
  intro value slice pins s σ H x y v u Q I rx ry h hs
  obtain ⟨p, xs, i, z, rfl, rfl, hq, he, q⟩ := h
  cases rx
  obtain ⟨t, rfl⟩ := ry
  obtain ⟨its, r, pl, hz⟩ := I.list hq
  obtain ⟨j, h1, h2, h3, h4, h5⟩ := atI_get he
  obtain ⟨w, ew, rw'⟩ := r.get h2
  have hl := r.length
  have hn := line63
  have fin : EP X pins σ Q w s := ⟨z, H, I, rw', q⟩
  by_cases h0 : 0 <= i
  · have hj : i.toNat = j := by
      rw [seqIndex_of h0 h5] at h1
      exact Option.some.inj h1
    exact item_listR pl.isList h0 (by omega) (by rw [hj]; simpa using ew) fin hs
  · have hj : (i + (its.toArray.size : Int)).toNat = j := by
      rw [seqIndex_neg (by omega) h4] at h1
      rw [List.size_toArray, <- hl]
      exact Option.some.inj h1
    exact subscriptTail_builtinR (x := w) pl.isList.typeIs slot_list_getitem.lookup
      (wpAny_getItem_list_neg (Q := fun r s' => r = w /\ EP X pins σ Q r s') pl.isList (by omega) (by rw [List.size_toArray] <;> omega) (by omega) (by rw [hj]; simpa using ew) ⟨rfl, fin⟩) hs
theorem ix_tup : IxR X (rIxT X.K) := by
  intro value slice pins s σ H x y v u Q I rx ry h hs
  obtain ⟨p, xs, i, z, rfl, rfl, hq, he, q⟩ := h
  cases rx
  obtain ⟨t, rfl⟩ := ry
  obtain ⟨its, r, pl, hz⟩ := I.tuple hq
  obtain ⟨j, h1, h2, h3, h4, h5⟩ := atI_get he
  obtain ⟨w, ew, rw'⟩ := r.get h2
  have hl := r.length
  have hn := line63
  have fin : EP X pins σ Q w s := ⟨z, H, I, rw', q⟩
  exact subscriptTail_builtinR (x := w) pl.typeIs slot_tuple_getitem.lookup
    (getItem_tuple (j := j) (Q := fun r s' => r = w /\ EP X pins σ Q r s') pl (by omega) (by omega) (by rw [List.size_toArray, <- hl]; exact h1) (by simpa using ew) ⟨rfl, fin⟩) hs
theorem ix_str : IxR X rIxS := by
  intro value slice pins s σ H x y v u Q I rx ry h hs
  obtain ⟨z, i, c, rfl, rfl, hz, he, q⟩ := h
  obtain ⟨t, rfl⟩ := rx
  obtain ⟨t', rfl⟩ := ry
  obtain ⟨j, h1, h2, h3, h4, h5⟩ := atI_get he
  have hl : z.cps.toList.length = z.length := by simp [Str.length]
  rw [hl] at h1 h4 h5
  have hn := line63
  exact tail_any (typeIs_str s z t) slot_str_getitem.lookup (getItem_str (c := c) (by
    have e1 : decide (i < -(2 ^ 63 : Int)) = false := decide_eq_false (by omega)
    have e2 : decide (i >= 2 ^ 63) = false := decide_eq_false (by omega)
    rw [e1, e2, Bool.or_false]) (by rw [h1]; simpa using h2) ⟨.str ⟨#[c]⟩, H, I.tok _, ⟨_, rfl⟩, q⟩) hs
theorem mapSeq_set (its : List Value) (n j : Nat) (u : Value) : Obj.mapSeq (·.setIfInBounds j u) { cls := .type "list", data := .seq its.toArray n } = { cls := .type "list", data := .seq (its.set j u).toArray n } := by
  simp [Obj.mapSeq]
theorem Inv.lst {pins : List (Addr × Obj)} {σ : St} {H : Hp} {s : Shared} {p : Addr} {xs : List V} (I : Inv X pins σ H s) (h : H p = some (.lst xs)) :
    ∃ (its : List Value) (n : Nat), Vals xs its /\ s.heap.get? p = some { cls := .type "list", data := .seq its.toArray n } /\ xs.length <= sizeLine := by
  obtain ⟨z, its, n, r, e⟩ := I.hok p _ h
  exact ⟨its, n, r, e, z⟩
theorem Inv.lstUpd {pins : List (Addr × Obj)} {σ : St} {H : Hp} {s : Shared} {p : Addr} {xs ys : List V} {its its' : List Value} {n n' : Nat} {f : Obj -> Obj} (I : Inv X pins σ H s) (h : H p = some (.lst xs))
    (ho : s.heap.get? p = some { cls := .type "list", data := .seq its.toArray n }) (hf : f { cls := .type "list", data := .seq its.toArray n } = { cls := .type "list", data := .seq its'.toArray n' }) (r : Vals ys its') (hz : ys.length <= sizeLine) (t : Nat) :
    Inv X pins σ (upd H p (.lst ys)) { s with heap := s.heap.update p f, toks := t } := by
  have e : (s.heap.update p f).get? p = some { cls := .type "list", data := .seq its'.toArray n' } := by
    rw [Heap.get?_update_self f ho (by rw [hf] <;> rfl), hf]
  refine I.write (x := p) (e := p) (by rw [h]; trivial) (.inl rfl) (fun b u hb q => (Heap.get?_update_other _ _ (Ne.symm hb)).trans q) ⟨_, e⟩ ?_
  exact ⟨hz, its', n', r, e⟩
def rSetL : V -> V -> V -> Hp -> (Hp -> Prop) -> Prop := fun o i v H Q => ∃ p xs k j, o = .ref p /\ i = .int k /\ H p = some (.lst xs) /\ ixN xs.length k = some j /\ Q (upd H p (.lst (xs.set j v)))
theorem set_list : PSet X rSetL := by
  intro pins s σ H o i v ov iv u Q I ro ri rv h
  obtain ⟨p, xs, k, j, rfl, rfl, hp, hj, q⟩ := h
  cases ro
  obtain ⟨t, rfl⟩ := ri
  obtain ⟨its, n, r, ho, hz⟩ := I.lst hp
  obtain ⟨h1, h2, h3, h4⟩ := ixN_seq hj
  have hl := r.length
  have hn := line63
  have I' : Inv X pins σ (upd H p (.lst (xs.set j v))) { s with heap := s.heap.update p (Obj.mapSeq (·.setIfInBounds j u)) } :=
    I.lstUpd hp ho (mapSeq_set its n j u) (r.set rv j) (by rw [List.length_set]; exact hz) s.toks
  by_cases h0 : 0 <= k
  · have hk : k.toNat = j := by
      rw [seqIndex_of h0 h4] at h1
      exact Option.some.inj h1
    exact PySem.W.ki_setAt ho h0 (by omega) (by rw [List.size_toArray, <- hl]; exact h4) (by rw [hk]; exact ⟨_, I', q⟩)
  · have hk : (k + (its.toArray.size : Int)).toNat = j := by
      rw [seqIndex_neg (by omega) h3] at h1
      rw [List.size_toArray, <- hl]
      exact Option.some.inj h1
    exact PySem.W.ki_setBack ho (by omega) (by rw [List.size_toArray, <- hl]; exact h3) (by omega) (by rw [hk]; exact ⟨_, I', q⟩)
theorem slice_bounds (lo hi : Option Int) (n : Nat) : (sliceBounds lo hi none n).1 = ((HT.sIx n 0 lo : Nat) : Int) /\ (sliceBounds lo hi none n).2.1 = ((HT.sIx n n hi : Nat) : Int) /\ (sliceBounds lo hi none n).2.2 = 1 := by
  refine ⟨?_, ?_, rfl⟩
  · cases lo with
    | none => simp [sliceBounds, HT.sIx]
    | some i =>
      simp only [sliceBounds, HT.sIx, Option.getD_none, show (1 : Int) > 0 by decide, if_true]
      by_cases h : i < 0
      · simp only [h, if_true] <;> omega
      · simp only [h, if_false] <;> omega
  · cases hi with
    | none => simp [sliceBounds, HT.sIx]
    | some i =>
      simp only [sliceBounds, HT.sIx, Option.getD_none, show (1 : Int) > 0 by decide, if_true]
      by_cases h : i < 0
      · simp only [h, if_true] <;> omega
      · simp only [h, if_false] <;> omega
theorem slicePick_cut (its : List Value) (lo hi : Option Int) : slicePick its.toArray lo hi none = ((its.drop (HT.sIx its.length 0 lo)).take (HT.sIx its.length its.length hi - HT.sIx its.length 0 lo)).toArray := by
  obtain ⟨h1, h2, h3⟩ := slice_bounds lo hi its.toArray.size
  unfold slicePick
  rw [h1, h2, h3]
  simp only [sliceRange_one, pick_run, List.size_toArray] <;> rfl
def rSlL (K : PySem.W.Frag) : V -> Option Int -> Option Int -> Hp -> VK -> Prop := fun x lo hi H Q => ∃ a xs, x = .ref a /\ SqL K H a xs /\ ∀ p, H p = none -> Q (.ref p) (upd H p (.lst (cutV xs lo hi)))
theorem sl_list : SlR X (rSlL X.K) := by
  intro pins s σ H x v vl vu lo hi sl Q I rx hs pl pu h
  obtain ⟨a, xs, rfl, hx, q⟩ := h
  cases rx
  obtain ⟨its, r, ht, hz⟩ := I.list hx
  have hlen := r.length
  refine ⟨"list", _, slot_list_getitem.lookup, ht.isList.typeIs, ?_⟩
  refine wpAny_getItem_list_slice ht.isList hs pl pu .none (by simp) ?_ (by rw [List.size_toArray] <;> omega)
  rw [slicePick_cut, <- hlen]
  refine ⟨.ref s.heap.objs.size, _, I.laid (t' := s.toks) (o := .lst (cutV xs lo hi)) (fun b ob q => Heap.get?_push_of_some _ q) (Nat.le_refl _) ?_, rfl, q _ (I.hok.fresh (Nat.le_refl _))⟩
  exact ⟨Nat.le_trans (cutV_length xs lo hi) hz, _, 0, (r.drop (HT.sIx xs.length 0 lo)).take (HT.sIx xs.length xs.length hi - HT.sIx xs.length 0 lo), Heap.get?_push_size _ rfl⟩
def flatV : V -> Bool
  | .non => true
  | .bl _ => true
  | .int _ => true
  | .str _ => true
  | _ => false
def eqV : V -> V -> Bool
  | .non, .non => true
  | .bl a, .bl b => a == b
  | .bl a, .int b => (if a then 1 else 0) == b
  | .int a, .bl b => a == (if b then 1 else 0)
  | .int a, .int b => a == b
  | .str a, .str b => a == b
  | _, _ => false
theorem eqAt_V {A : Around} {s : Shared} {y x : V} {u v : Value} (ry : RelV y u) (rx : RelV x v) (fy : flatV y = true) (fx : flatV x = true) : SeqAt.EqAt A s u v (eqV y x) := by
  cases y with
  | non =>
    cases ry
    cases x with
    | non => cases rx; exact SeqAt.EqAt.same _
    | bl b => cases rx; exact SeqAt.EqAt.none_bool b
    | int b => obtain ⟨t, rfl⟩ := rx; exact SeqAt.EqAt.none_int b t
    | str b => obtain ⟨t, rfl⟩ := rx; exact SeqAt.EqAt.none_str b t
    | _ => exact absurd (show false = true from fx) Bool.false_ne_true
  | bl a =>
    cases ry
    cases x with
    | non => cases rx; exact SeqAt.EqAt.bool_none a
    | bl b => cases rx; exact SeqAt.EqAt.bool_bool a b
    | int b => obtain ⟨t, rfl⟩ := rx; exact SeqAt.EqAt.bool_int a b t
    | str b => obtain ⟨t, rfl⟩ := rx; exact SeqAt.EqAt.bool_str a b t
    | _ => exact absurd (show false = true from fx) Bool.false_ne_true
  | int a =>
    obtain ⟨t', rfl⟩ := ry
    cases x with
    | non => cases rx; exact SeqAt.EqAt.int_none a t'
    | bl b => cases rx; exact SeqAt.EqAt.int_bool a t' b
    | int b => obtain ⟨t, rfl⟩ := rx; exact SeqAt.EqAt.int_int a t' b t
    | str b => obtain ⟨t, rfl⟩ := rx; exact SeqAt.EqAt.int_str a t' b t
    | _ => exact absurd (show false = true from fx) Bool.false_ne_true
  | str a =>
    obtain ⟨t', rfl⟩ := ry
    cases x with
    | non => cases rx; exact SeqAt.EqAt.str_none a t'
    | bl b => cases rx; exact SeqAt.EqAt.str_bool a t' b
    | int b => obtain ⟨t, rfl⟩ := rx; exact SeqAt.EqAt.str_int a t' b t
    | str b => obtain ⟨t, rfl⟩ := rx; exact SeqAt.EqAt.str_str a t' b t
    | _ => exact absurd (show false = true from fx) Bool.false_ne_true
  | _ => exact absurd (show false = true from fy) Bool.false_ne_true
def eqU (x : V) (u : Value) : Bool := match u with
  | .none => eqV .non x
  | .bool b => eqV (.bl b) x
  | .int i _ => eqV (.int i) x
  | .str z _ => eqV (.str z) x
  | _ => false
theorem eqU_of {x y : V} {u : Value} (r : RelV y u) (f : flatV y = true) : eqU x u = eqV y x := by
  cases y with
  | non => cases r; rfl
  | bl b => cases r; rfl
  | int i => obtain ⟨t, rfl⟩ := r; rfl
  | str z => obtain ⟨t, rfl⟩ := r; rfl
  | _ => exact absurd (show false = true from f) Bool.false_ne_true
theorem any_eqU {x : V} : ∀ {xs : List V} {us : List Value}, Vals xs us -> xs.all flatV = true -> us.any (eqU x) = xs.any fun y => eqV y x
  | _, _, .nil, _ => rfl
  | y :: xs, u :: us, .cons r t, f => by
    rw [List.all_cons, Bool.and_eq_true] at f
    rw [List.any_cons, List.any_cons, eqU_of r f.1, any_eqU t f.2]
theorem mem_eqAt {A : Around} {s : Shared} {x : V} {v : Value} (rx : RelV x v) (fx : flatV x = true) : ∀ {xs : List V} {us : List Value}, Vals xs us -> xs.all flatV = true -> ∀ u ∈ us, SeqAt.EqAt A s u v (eqU x u)
  | _, _, .nil, _ => fun u hu => by cases hu
  | y :: xs, u :: us, .cons r t, f => fun u' hu => by
    rw [List.all_cons, Bool.and_eq_true] at f
    rcases List.mem_cons.mp hu with rfl | hu
    · rw [eqU_of r f.1]; exact eqAt_V r rx f.1 fx
    · exact mem_eqAt rx fx t f.2 u' hu
def inV (x : V) (xs : List V) : Bool := xs.any fun y => eqV y x
def rIn (K : PySem.W.Frag) (neg : Bool) : R2 := fun x y H Q => ∃ p xs, y = .ref p /\ (SqL K H p xs \/ SqT K H p xs) /\ flatV x = true /\ xs.all flatV = true /\ Q (.bl (if neg then !inV x xs else inV x xs)) H
theorem op_notIn_seq : OpR X (compareOp .NotIn) (rIn X.K true) := by
  intro pins s σ H x y v u Q I rx ry h
  obtain ⟨p, xs, rfl, hq, fx, fs, q⟩ := h
  cases ry
  rcases hq with hq | hq
  · obtain ⟨its, r, pl, hz⟩ := I.list hq
    refine SeqAt.notIn_listAt (eqU x) pl.isList (fun w hw => mem_eqAt rx fx r fs w (by simpa using hw)) ⟨.bl _, H, I, rfl, ?_⟩
    rw [show its.toArray.any (eqU x) = its.any (eqU x) by simp, any_eqU r fs]
    exact q
  · obtain ⟨its, r, pl, hz⟩ := I.tuple hq
    refine SeqAt.notIn_tupleAt (eqU x) pl (fun w hw => mem_eqAt rx fx r fs w (by simpa using hw)) ⟨.bl _, H, I, rfl, ?_⟩
    rw [show its.toArray.any (eqU x) = its.any (eqU x) by simp, any_eqU r fs]
    exact q
theorem call_len_seq : CallR X (.builtin "len") (fun xs H Q => ∃ p ys, xs = [.ref p] /\ (SqL X.K H p ys \/ SqT X.K H p ys) /\ Q (.int ys.length) H) := by
  intro pins s σ H xs us Q I r h
  obtain ⟨p, ys, rfl, hq, q⟩ := h
  obtain ⟨u, rfl, rx⟩ := vals1 r
  cases rx
  have hn := line63
  rcases hq with hq | hq
  · obtain ⟨its, r', pl, hz⟩ := I.list hq
    have hlen := r'.length
    exact Calls.call_len_list pl.isList (by simp only [List.size_toArray] <;> omega) ⟨.int ys.length, H, I.tok _, ⟨s.toks + 1, by rw [List.size_toArray, hlen]⟩, q⟩
  · obtain ⟨its, r', pl, hz⟩ := I.tuple hq
    have hlen := r'.length
    exact len_tuple pl (by simp only [List.size_toArray] <;> omega) ⟨.int ys.length, H, I.tok _, ⟨s.toks + 1, by rw [List.size_toArray, hlen]⟩, q⟩
theorem call_len_str : CallR X (.builtin "len") (fun xs H Q => ∃ z, xs = [.str z] /\ z.length <= sizeLine /\ Q (.int z.length) H) := by
  intro pins s σ H xs us Q I r h
  obtain ⟨z, rfl, hz, q⟩ := h
  obtain ⟨u, rfl, t, rfl⟩ := vals1 r
  have hn := line63
  exact len_str (by omega) ⟨.int z.length, H, I.tok _, ⟨_, rfl⟩, q⟩
theorem call_list_of : CallR X (.type "list") (fun xs H Q => ∃ p ys, xs = [.ref p] /\ (SqL X.K H p ys \/ SqT X.K H p ys) /\ ∀ l, H l = none -> Q (.ref l) (upd H l (.lst ys))) := by
  intro pins s σ H xs us Q I r h
  obtain ⟨p, ys, rfl, hq, q⟩ := h
  obtain ⟨u, rfl, rx⟩ := vals1 r
  cases rx
  have fin : ∀ (its : List Value), Vals ys its -> ys.length <= sizeLine -> ∀ (h' : Heap) (c' : Nat), (∀ b o', s.heap.get? b = some o' -> h'.get? b = some o') ->
      h'.get? s.heap.objs.size = some { cls := .type "list", dict := none, data := .seq its.toArray c', slots := #[] } -> EP X pins σ Q (.ref s.heap.objs.size) { s with heap := h' } := fun its r' hz h' c' kp e =>
    ⟨.ref s.heap.objs.size, _, I.laid (t' := s.toks) kp (Nat.le_refl _) (show ObjOk X.prog X.w _ h' _ (.lst ys) from ⟨hz, its, c', r', e⟩), rfl, q _ (I.hok.fresh (Nat.le_refl _))⟩
  rcases hq with hq | hq
  · obtain ⟨its, r', pl, hz⟩ := I.list hq
    have hlen := r'.length
    obtain ⟨o, ho, hc, n, hd⟩ := pl.isList
    exact call_list_seq p (.inl rfl) ho hc hd (fun h' c' kp e => fin its r' hz h' c' kp e) (by simp only [List.size_toArray] <;> omega)
  · obtain ⟨its, r', pl, hz⟩ := I.tuple hq
    have hlen := r'.length
    obtain ⟨o, ho, hc, n, hd⟩ := pl
    exact call_list_seq p (.inr rfl) ho hc hd (fun h' c' kp e => fin its r' hz h' c' kp e) (by simp only [List.size_toArray] <;> omega)
theorem call_tuple_of : CallR X (.type "tuple") (fun xs H Q => ∃ p ys, xs = [.ref p] /\ ((SqL X.K H p ys /\ ∀ l, H l = none -> Q (.ref l) (upd H l (.tup ys))) \/ (SqT X.K H p ys /\ Q (.ref p) H))) := by
  intro pins s σ H xs us Q I r h
  obtain ⟨p, ys, rfl, h⟩ := h
  obtain ⟨u, rfl, rx⟩ := vals1 r
  cases rx
  rcases h with ⟨hq, q⟩ | ⟨hq, q⟩
  · obtain ⟨its, r', pl, hz⟩ := I.list hq
    have hlen := r'.length
    refine call_tuple_list pl.isList (fun h' kp => ?_) (by simp only [List.size_toArray] <;> omega)
    have I1 : Inv X pins σ H { s with heap := h' } := I.kept (t' := s.toks) kp
    have I2 : Inv X pins σ (upd H h'.objs.size (.tup ys)) { s with heap := h'.push { cls := .type "tuple", data := .seq its.toArray } } :=
      I1.laid (t' := s.toks) (fun b o e => Heap.get?_push_of_some _ e) (Nat.le_refl _) (show ObjOk X.prog X.w _ _ _ (.tup ys) from ⟨hz, its, r', IsTup.new _ _⟩)
    exact ⟨.ref h'.objs.size, _, I2, rfl, q _ (I1.hok.fresh (Nat.le_refl _))⟩
  · obtain ⟨its, r', pl, hz⟩ := I.tuple hq
    exact call_tuple_same pl ⟨.ref p, H, I, rfl, q⟩
def tyV (K : PySem.W.Frag) (T : String) (x : V) (H : Hp) : Prop := match x with
  | .str _ => T = "str"
  | .int _ => T = "int"
  | .ref p => (T = "list" /\ ∃ xs, SqL K H p xs) \/ (T = "tuple" /\ ∃ o, K.lookup p = some o /\ o.cls = .type "tuple" /\ o.dict = none) \/
      (T = "dict" /\ ((∃ kvs, H p = some (.dK kvs)) \/ ∃ kvs, H p = some (.dT kvs))) \/ (T = "set" /\ ∃ S n, H p = some (.set S n))
  | _ => False
theorem tyV_is {pins : List (Addr × Obj)} {σ : St} {H : Hp} {s : Shared} {T : String} {x : V} {v : Value} (I : Inv X pins σ H s) (r : RelV x v) (ty : tyV X.K T x H) :
    s.TypeIs v T /\ ∀ a, v = .ref a -> ∃ ob, s.heap.get? a = some ob /\ ob.dict = none := by
  cases x with
  | str z =>
    obtain ⟨t, rfl⟩ := r
    cases (show T = "str" from ty)
    exact ⟨typeIs_str s z t, fun _ e => nomatch e⟩
  | int i =>
    obtain ⟨t, rfl⟩ := r
    cases (show T = "int" from ty)
    exact ⟨typeIs_int s i t, fun _ e => nomatch e⟩
  | ref p =>
    cases r
    rcases ty with ⟨rfl, xs, hq⟩ | ⟨rfl, o, hk, hc, hd⟩ | ⟨rfl, hk⟩ | ⟨rfl, S, n, hk⟩
    · obtain ⟨its, _, pl, _⟩ := I.list hq
      refine ⟨pl.isList.typeIs, fun a e => ?_⟩
      cases e
      obtain ⟨o, n, e, c, hd, _⟩ := pl
      exact ⟨o, e, hd⟩
    · refine ⟨⟨o, I.kIn p o hk, hc⟩, fun a e => ?_⟩
      cases e
      exact ⟨o, I.kIn _ o hk, hd⟩
    · have z : ∃ o, s.heap.get? p = some o /\ o.ExactDict := by
        rcases hk with ⟨kvs, hk⟩ | ⟨kvs, hk⟩
        · obtain ⟨_, _, _, _, o, _, _, e, ex, _⟩ := I.hok p _ hk
          exact ⟨o, e, ex⟩
        · obtain ⟨_, _, _, _, o, _, _, e, ex, _⟩ := I.hok p _ hk
          exact ⟨o, e, ex⟩
      obtain ⟨o, e, ex⟩ := z
      refine ⟨⟨o, e, ex.1⟩, fun a e2 => ?_⟩
      cases e2
      exact ⟨o, e, ex.2.1⟩
    · obtain ⟨o, _, _, _, e, ex, _⟩ := I.hok p _ hk
      refine ⟨⟨o, e, ex.1⟩, fun a e2 => ?_⟩
      cases e2
      exact ⟨o, e, ex.2.1⟩
  | _ => exact False.elim ty
def tBM0 (K : PySem.W.Frag) (T : String) (r : V -> List V -> Hp -> VK -> Prop) (to : TE) : TE := fun σ H Q => to σ H fun x H1 => tyV K T x H1 /\ r x [] H1 Q
def tBM (K : PySem.W.Frag) (T : String) (r : V -> List V -> Hp -> VK -> Prop) (to : TE) (t : TA) : TE := fun σ H Q => to σ H fun x H1 => tyV K T x H1 /\ t σ H1 fun xs H2 => r x xs H2 Q
variable {o e : Expr} {es : List Expr} {to : TE} {t : TA} {name : Str} {apos cpos : Pos} {T id : String} {r : V -> List V -> Hp -> VK -> Prop}
theorem pe_bm0 (pa : PlainAttrs T) (slot : Slot T name id) (hty : typeOf (.builtin id) = pure (.type "method_descriptor")) (hm : MtR X id r) (ho : PE X o to)
    (hbase : attributeBase o name X.env (eval o X.env) = eval o X.env := by rfl) (hline : (apos.endLine == cpos.line) = true := by rfl) : PE X (.Call (.Attribute o name apos) [] [] cpos) (tBM0 X.K T r to) := by
  intro pins s σ H Q I h
  refine wpAny_Call_method0_late hbase hline (thn (ho pins s σ H _ I h) fun v s1 ⟨x, H1, I1, r1, ty, q1⟩ => ?_)
  obtain ⟨h1, h2⟩ := tyV_is I1 r1 ty
  exact ⟨T, id, pa, slot, hty, h1, h2, Calls.callWith_builtin rfl (PySem.evalArgs_none (hm pins s1 σ H1 x [] v [] Q I1 r1 .nil q1))⟩
theorem pe_bm (pa : PlainAttrs T) (slot : Slot T name id) (hty : typeOf (.builtin id) = pure (.type "method_descriptor")) (hm : MtR X id r) (ho : PE X o to) (ha : PA X (e :: es) t)
    (hbase : attributeBase o name X.env (eval o X.env) = eval o X.env := by rfl)
    (hfew : ((backTo cpos (starEach (e :: es) X.env)).all (fun x => !x.1) && (backToKw cpos (keywordEach [] X.env)).all (fun x => x.1.isSome)
      && decide ((e :: es).length + ([] : List Keyword).length + (if ([] : List Keyword).isEmpty then 0 else 1) < 30)) = true := by rfl)
    (hline : (apos.endLine == cpos.line) = true := by rfl) (hs : starEach (e :: es) X.env = (false, eval e X.env) :: starEach es X.env := by rfl) (hplain : (backTo cpos (starEach es X.env)).any (·.1) = false := by rfl) :
    PE X (.Call (.Attribute o name apos) (e :: es) [] cpos) (tBM X.K T r to t) := by
  intro pins s σ H Q I h
  refine wpAny_Call_method_late hbase hfew hline rfl (thn (ho pins s σ H _ I h) fun v s1 ⟨x, H1, I1, r1, ty, q1⟩ => ?_)
  obtain ⟨h1, h2⟩ := tyV_is I1 r1 ty
  refine ⟨T, id, pa, slot, hty, h1, h2, ?_⟩
  have hA := ha cpos pins s1 σ H1 _ I1 q1
  rw [hs] at hA ⊢
  refine Calls.callWith_builtin (by show (false || (backTo cpos (starEach es X.env)).any (·.1)) = false; rw [hplain] <;> rfl) (Calls.evalArgs_plain ?_)
  exact thn hA fun us s2 ⟨vs, H2, I2, r2, q2⟩ => hm pins s2 σ H2 x vs v us Q I2 r1 r2 q2
end
end L2
namespace L2
open PySem PySem.Spec PyProof.Rows
def MtM (X : Cx) (id : String) (r : V -> List V -> Hp -> VK -> Prop) : Prop :=
  ∀ (pins : List (Addr × Obj)) (s : Shared) (σ : St) (H : Hp) (x : V) (xs : List V) (v : Value) (us : List Value) (Q : VK), Inv X pins σ H s -> RelV x v -> Vals xs us -> r x xs H Q ->
    wpAny (model X.prog X.w) X.A (call (.builtin id) (v :: us)) (EP X pins σ Q) X.xe s
theorem Vals.one : ∀ {x : V} {us : List Value}, Vals [x] us -> ∃ u, us = [u] /\ RelV x u
  | _, _, .cons r .nil => ⟨_, rfl, r⟩
theorem Vals.zero : ∀ {us : List Value}, Vals [] us -> us = []
  | _, .nil => rfl
theorem Vals.dropLast {xs : List V} {us : List Value} (h : Vals xs us) : Vals xs.dropLast us.dropLast := by
  induction h with
  | nil => exact .nil
  | cons r t ih =>
    cases t with
    | nil => exact .nil
    | cons q t' => exact .cons r ih
theorem Vals.reverse {xs : List V} {us : List Value} (h : Vals xs us) : Vals xs.reverse us.reverse := by
  induction h with
  | nil => exact .nil
  | cons r t ih => rw [List.reverse_cons, List.reverse_cons]; exact Vals.append ih (.cons r .nil)
theorem erase_last {α : Type} (l : List α) : l.eraseIdx (l.length - 1) = l.dropLast := by
  induction l with
  | nil => rfl
  | cons a r ih =>
    cases r with
    | nil => rfl
    | cons b r =>
      have e : (a :: b :: r).length - 1 = ((b :: r).length - 1) + 1 := by
        have h1 : (a :: b :: r).length = r.length + 2 := rfl
        have h2 : (b :: r).length = r.length + 1 := rfl
        omega
      rw [e, List.eraseIdx_cons_succ, ih]
      all_goals rfl
section
variable {X : Cx} {pins : List (Addr × Obj)} {σ : St} {H : Hp} {s : Shared} {l b : Addr} {xs ys zs : List V}
theorem Inv.lset {its its' : List Value} {n : Nat} {f : Array Value -> Array Value} {t' : Nat} (I : Inv X pins σ H s) (hH : H l = some (.lst xs))
    (e : s.heap.get? l = some { cls := .type "list", data := .seq its.toArray n }) (hf : f its.toArray = its'.toArray) (hv : Vals ys its') (hz : ys.length <= sizeLine) :
    Inv X pins σ (upd H l (.lst ys)) { s with heap := s.heap.update l (Obj.mapSeq f), toks := t' } := by
  have q := PySem.IsL.update e f
  rw [hf] at q
  refine I.write (x := l) (e := l) (by rw [hH]; exact trivial) (.inl rfl) (fun b' u hb hu => (Heap.get?_update_other s.heap (Obj.mapSeq f) (Ne.symm hb)).trans hu) ⟨_, q⟩ ?_
  exact ⟨hz, its', _, hv, q⟩
theorem Inv.lnew {its : List Value} {t' : Nat} (I : Inv X pins σ H s) (hv : Vals ys its) (hz : ys.length <= sizeLine) :
    Inv X pins σ (upd H s.heap.objs.size (.lst ys)) { s with heap := s.heap.push { cls := .type "list", data := .seq its.toArray }, toks := t' } :=
  I.laid (fun _ _ q => Heap.get?_push_of_some _ q) (Nat.le_refl _) ⟨hz, its, 0, hv, Heap.get?_push_size _ rfl⟩
theorem Inv.fresh (I : Inv X pins σ H s) : H s.heap.objs.size = none := I.hok.fresh (Nat.le_refl _)
theorem Inv.lstM (I : Inv X pins σ H s) (hH : H l = some (.lst xs)) : xs.length <= sizeLine /\ ∃ (its : List Value) (n : Nat), Vals xs its /\ xs.length = its.length /\ s.heap.get? l = some { cls := .type "list", data := .seq its.toArray n } := by
  obtain ⟨z, its, n, r, e⟩ := I.hok l _ hH
  exact ⟨z, its, n, r, r.length, e⟩
theorem notLongL {n : Nat} (h : n <= sizeLine) : Builtin.List.listTooLong n = false := by
  unfold Builtin.List.listTooLong
  exact decide_eq_false (by omega)
end
section
variable {X : Cx}
def rAppend : V -> List V -> Hp -> VK -> Prop := fun x vs H Q => ∃ l xs y, x = .ref l /\ vs = [y] /\ H l = some (.lst xs) /\ xs.length < sizeLine /\ Q .non (upd H l (.lst (xs ++ [y])))
theorem mt_append : MtM X "list.append" rAppend := by
  intro pins s σ H x vs v us Q I rx rv h
  obtain ⟨l, xs, y, rfl, rfl, hH, hz, q⟩ := h
  cases rx
  obtain ⟨u, rfl, ru⟩ := rv.one
  obtain ⟨z, its, n, r, hl, e⟩ := I.lstM hH
  refine call_meets F.slot_list_append ⟨_, e, rfl⟩ F.entry_list_append (F.args_list_append_2 _ _) (PySem.list_append l its.toArray n u (by rw [List.size_toArray]; omega)) ⟨e, ?_⟩
  refine ⟨.non, _, I.lset (its' := its ++ [u]) hH e (by simp) (r.append (.cons ru .nil)) ?_, rfl, q⟩
  rw [List.length_append, List.length_singleton]
  omega
def rExtend : V -> List V -> Hp -> VK -> Prop := fun x vs H Q => ∃ l b xs zs, x = .ref l /\ vs = [.ref b] /\ H l = some (.lst xs) /\ H b = some (.lst zs) /\ xs.length + zs.length <= sizeLine /\ Q .non (upd H l (.lst (xs ++ zs)))
theorem mt_extend : MtM X "list.extend" rExtend := by
  intro pins s σ H x vs v us Q I rx rv h
  obtain ⟨l, b, xs, zs, rfl, rfl, hH, hB, hz, q⟩ := h
  cases rx
  obtain ⟨u, rfl, ru⟩ := rv.one
  cases ru
  obtain ⟨z, its, n, r, hl, e⟩ := I.lstM hH
  obtain ⟨z2, its2, n2, r2, hl2, e2⟩ := I.lstM hB
  have hsz : its.toArray.size + its2.toArray.size <= sizeLine := by rw [List.size_toArray, List.size_toArray]; omega
  have hlong : ¬ (!its.toArray.isEmpty && Builtin.List.listTooLong (its.toArray.size + its2.toArray.size)) = true := by
    rw [notLongL hsz, Bool.and_false]
    exact Bool.false_ne_true
  refine call_meets F.slot_list_extend ⟨_, e, rfl⟩ F.entry_list_extend (F.args_list_extend_2 _ _)
    (AutoSeq1.list_extend_list_list_0 l its.toArray n b its2.toArray n2 hlong (by rw [List.size_toArray]; omega) (by omega)) ⟨e, e2, ?_⟩
  refine ⟨.non, _, I.lset (its' := its ++ its2) hH e (by simp) (r.append r2) ?_, rfl, q⟩
  rw [List.length_append]
  omega
def rPop : V -> List V -> Hp -> VK -> Prop := fun x vs H Q => ∃ l xs y, x = .ref l /\ vs = [] /\ H l = some (.lst xs) /\ xs[xs.length - 1]? = some y /\ Q y (upd H l (.lst xs.dropLast))
theorem mt_pop : MtM X "list.pop" rPop := by
  intro pins s σ H x vs v us Q I rx rv h
  obtain ⟨l, xs, y, rfl, rfl, hH, hy, q⟩ := h
  cases rx
  have hus := rv.zero
  subst hus
  obtain ⟨z, its, n, r, hl, e⟩ := I.lstM hH
  obtain ⟨u, hu, ru⟩ := r.get hy
  have hy' : its.toArray[its.toArray.size - 1]? = some u := by
    show its.toArray[its.length - 1]? = some u
    rw [<- Array.getElem?_toList, <- hl]
    exact hu
  refine call_meets F.slot_list_pop ⟨_, e, rfl⟩ F.entry_list_pop (F.args_list_pop_1 _) (MeetsSeq.list_pop_last l its.toArray n u hy' (by rw [List.size_toArray]; omega)) ⟨e, ?_⟩
  refine ⟨y, _, I.lset (its' := its.dropLast) hH e ?_ r.dropLast ?_, ru, q⟩
  · show its.toArray.eraseIdxIfInBounds (its.toArray.size - 1) = its.dropLast.toArray
    rw [List.size_toArray, List.eraseIdxIfInBounds_toArray, erase_last]
  · rw [List.length_dropLast]
    omega
def rCat : R2 := fun x y H Q => ∃ l b xs zs, x = .ref l /\ y = .ref b /\ H l = some (.lst xs) /\ H b = some (.lst zs) /\ xs.length + zs.length <= sizeLine /\ ∀ p, H p = none -> Q (.ref p) (upd H p (.lst (xs ++ zs)))
theorem op_cat : OpR X (binaryOp .Add) rCat := by
  intro pins s σ H x y v u Q I rx ry h
  obtain ⟨l, b, xs, zs, rfl, rfl, hH, hB, hz, q⟩ := h
  cases rx
  cases ry
  obtain ⟨z, its, n, r, hl, e⟩ := I.lstM hH
  obtain ⟨z2, its2, n2, r2, hl2, e2⟩ := I.lstM hB
  refine PySem.P.add_list e e2 ?_ (by rw [List.size_toArray, List.size_toArray]; omega)
  have ea : its.toArray ++ its2.toArray = (its ++ its2).toArray := by simp
  rw [ea]
  exact ⟨.ref _, _, I.lnew (t' := s.toks) (r.append r2) (by rw [List.length_append]; omega), rfl, q _ I.fresh⟩
end
section
variable {prog : Program} {w : World} {A : Around} {E : Value -> Shared -> Prop} {s : Shared}
end
section
variable {X : Cx}
end
end L2
namespace Att
open PySem PySem.W PySem.Calls PyProof.Rows
theorem ints_of_wellAll {P : Params} {h : Heap} : ∀ (ns : List Int) (vs : List Value), WellAll P h vs (ns.map WData.int) -> IntsAre vs ns := by
  intro ns
  induction ns with
  | nil =>
    intro vs w
    rw [List.map_nil] at w
    cases w
    exact .nil
  | cons n ns ih =>
    intro vs w
    rw [List.map_cons] at w
    cases w with
    | cons a b =>
      cases a
      exact .cons _ _ (ih _ b)
theorem script_of {l : OpenLaw} {n : Nat} (hn : l.most = some n) {P : Params} {h : Heap} {args : List WData} {vals : List Value}
    (hpre : l.row.toRowW.claim.pre args = true) (hwl : WellAll P h vals args) :
    ∃ a vs ns, vals = [Value.ref a] /\ args = [WData.list (ns.map WData.int)] /\ h.get? a = some { cls := .type "list", data := .seq vs.toArray } /\ IntsAre vs ns /\ ns.length <= n := by
  have hsh : WShape.hasAll [] args [.list .int] = true := (pre_splitW hpre).1
  have hc : l.pre.holds [] { args := args } = true := (pre_splitW hpre).2
  obtain ⟨d, r, rfl, h1, h2⟩ := hasAllW_cons hsh
  obtain rfl := hasAllW_nil h2
  obtain ⟨xs, rfl, h3⟩ := hasW_list h1
  obtain ⟨ns, rfl⟩ := items_int h3
  have hlen : ns.length <= n := by
    unfold OpenLaw.pre at hc
    have h4 : (WTm.not (.lt (.lit (.int (n : Int))) (.len (.arg 0)))).holds [] { args := [.list (ns.map .int)] } = true := by
      have h4 := (holds_andW hc).1
      rw [hn] at h4
      exact h4
    have h5 := condW_of h4 (w_not (w_lt w_lit (w_len_list (w_arg rfl))))
    rw [List.length_map] at h5
    refine Nat.le_of_not_lt fun q => ?_
    have q' : (n : Int) < ((ns.length : Nat) : Int) := by omega
    first
      | (rw [decide_eq_true q'] at h5; exact absurd h5 (by decide))
      | (simp at h5; omega)
  cases hwl with
  | cons w1 w2 =>
    cases w2
    cases w1 with
    | list ho hall => exact ⟨_, _, ns, rfl, rfl, ho, ints_of_wellAll ns _ hall, hlen⟩
theorem post_true (l : OpenLaw) (args : List WData) : l.row.toRowW.claim.post args (.bool true) args = true :=
  postW_of (r := l.row.toRowW) (X := (true == true))
    (show WShape.has [] (.bool true) .bool = true by first | rfl | decide | simp [WShape.has, WShape.arms, WShape.armsAll])
    (show (WTm.eq .res (.lit (.bool true))).value [] { args := args, res := some (.bool true), after := args } = some (.bool (true == true)) from w_eq_bool (w_res rfl) w_lit) rfl
theorem attach_call {l : OpenLaw} {n : Nat} {q : Program} {loose : List Str} {XP : (Str -> Option Value) -> Heap -> Prop} {YP : World -> Heap -> Prop} {d : DefRec}
    (hn : l.most = some n) (hdf : d.params.defaults = [])
    (call : ∀ (w : World) (s₀ s₁ : Shared) (mg mb : Str -> Option Value) (fa : Addr) (o : Obj) (pm cd doc : Value) (a : Addr) (vs : List Value) (ns : List Int),
      Ground q loose [] XP w s₀ mg mb s₁.heap -> YP w s₁.heap ->
      s₁.heap.get? fa = some o -> o.data = .func (docDef d.name d.params d.body d.scope pm cd doc) -> s₁.heap.CodeRec cd d.name -> mg d.name = some (.ref fa) ->
      s₁.heap.get? a = some { cls := .type "list", data := .seq vs.toArray } -> IntsAre vs ns -> ns.length <= n -> s₁.gens = #[] ->
      codeAny (model l.prog w) callerA (.call (.ref fa) ⟨[.ref a], []⟩) (fun r s' => r = .ok (.ret (.bool true)) /\ OldK s₁.heap s'.heap /\ s'.os = s₁.os /\ AllBare s'.gens) s₁) :
    WalkO q loose XP YP l.row.toRowW d [] (fun f vs => PySem.call f vs) := by
  intro w s₀ s₁ mg mb G Y fa o pm cd doc dV kV ho hd hcd hD hmg hg args vals as hpre hlay hrd hwl hlo
  obtain rfl : dV = .none := Dflts.none hD hdf
  obtain rfl : kV = .none := Dflts.noKw hD
  obtain ⟨a, vs, ns, rfl, rfl, hobj, hints, hlen⟩ := script_of hn hpre hwl
  refine enter_call (codeAny_mono (call w s₀ s₁ mg mb fa o pm cd doc a vs ns G Y ho (fd_plain hd) hcd hmg hobj hints hlen hg) fun r s' hq => ?_)
  obtain ⟨rfl, h2, h3, h4⟩ := hq
  exact ⟨.inl ⟨.bool true, .bool true, [], rfl, fun _ => rfl, .bool true, post_true l _, fun _ => ⟨List.Pairwise.nil, fun _ hm => (nomatch hm)⟩⟩, h2, h3, h4⟩
section
variable {prog : Program} {w : World} {A : Around} {E : Value -> Shared -> Prop} {s : Shared} {K : Frag}
end
end Att
namespace L2
open PySem PySem.Spec PyProof.Rows
theorem vals_ints : ∀ {vs : List Value} {ns : List Int}, IntsAre vs ns -> Vals (ns.map V.int) vs
  | _, _, .nil => .nil
  | _, _, .cons n t h => .cons ⟨t, rfl⟩ (vals_ints h)
def Only (H : Hp) : Prop := ∀ b, H b = none \/ ∃ o xs, H b = some (.frz o (.lst xs))
theorem law_call {P : Program} {w : World} {K : PySem.W.Frag} {mg mb : Str -> Option Value} {CX : CXT} {k : Nat} {fa a : Addr} {fd : FuncData} {x : Str} {sp : Sp} {s₁ : Shared} {vs : List Value} {ns : List Int}
    (KX : K.In s₁.heap) (hns : s₁.heap.Ns mainGlobals mg) (hb : s₁.heap.Ns builtinsNs mb) (hbb : ∀ x : Str, x ≠ "__name__" -> mb x = bootBuiltins x) (hlim : s₁.heap.NoLimit) (hg : s₁.gens = #[])
    (ha : s₁.heap.get? a = some { cls := .type "list", data := .seq vs.toArray }) (hi : IntsAre vs ns) (hl : ns.length <= sizeLine) (hr : Room k callerA)
    (F : ∀ base : Heap, K.In base -> base.Ns mainGlobals mg -> FnOk P w K mg base CX k fa fd [x] sp) (hbind : ∀ (s : Shared) (u : Value), BindsTo s fd ⟨[u], []⟩ [(x, u)])
    (hsp : ∀ H : Hp, Only H -> SqL K H a (ns.map V.int) -> sp [.ref a] H (fun v _ => v = .bl true) fun _ _ _ => False)
    (hCX : ∀ H e s', CX [] H s₁ (fun _ _ _ => False) e s' -> False) :
    codeAny (model P w) callerA (.call (.ref fa) ⟨[.ref a], []⟩) (fun r s' => r = .ok (.ret (.bool true)) /\ OldK s₁.heap s'.heap /\ s'.os = s₁.os /\ AllBare s'.gens) s₁ := by
  have rv := vals_ints hi
  have lenV := hi.length
  have core : ∀ H : Hp, Only H -> SqL K H a (ns.map V.int) -> HOk P w H s₁.heap -> (∀ b, H b ≠ none -> b = a) -> (H a ≠ none -> K.lookup a = none) ->
      codeAny (model P w) callerA (.call (.ref fa) ⟨[.ref a], []⟩) (fun r s' => r = .ok (.ret (.bool true)) /\ OldK s₁.heap s'.heap /\ s'.os = s₁.os /\ AllBare s'.gens) s₁ := by
    intro H hO hS hok hA hK
    have base_of : ∀ {b : Addr} {o : Obj}, s₁.heap.get? b = some o -> H b = none -> (hidT s₁.heap H).get? b = some o := fun e n => hidT_get e n
    have noA : ∀ {b : Addr} {o : Obj} {es : Array DictEntry} {ep : Nat}, s₁.heap.get? b = some o -> o.data = .dict es ep -> H b = none := fun {b o es ep} e d => by
      cases q : H b with
      | none => rfl
      | some u =>
        have e' : b = a := hA b (by rw [q]; simp)
        subst e'
        rw [ha] at e; cases e
        have d' : Data.seq vs.toArray _ = Data.dict es ep := d
        cases d'
    have nsK : ∀ {b : Addr} {m : Str -> Option Value}, s₁.heap.Ns b m -> (hidT s₁.heap H).Ns b m := fun {b m} ⟨o, es, ep, e, d, r⟩ => ⟨o, es, ep, base_of e (noA e d), d, r⟩
    have hKb : K.In (hidT s₁.heap H) := fun b o e => base_of (KX b o e) (by
      cases q : H b with
      | none => rfl
      | some u =>
        have e' : b = a := hA b (by rw [q]; simp)
        subst e'
        rw [hK (by rw [q]; simp)] at e; cases e)
    have hM : Mod K mg (hidT s₁.heap H) := ⟨hKb, nsK hns, ⟨mb, nsK hb, hbb⟩, let ⟨mc, h1, h2⟩ := hlim; ⟨mc, nsK h1, h2⟩⟩
    have e0 : Env0 P w K mg (hidT s₁.heap H) callerA [] s₁ H := ⟨rfl, hM, fun b o e => of_hidT e, Nat.le_of_eq (hidT_size _ _), trivial, fun b hb => absurd (show b ∈ ([] : List Addr) from hb) (by simp), hok, .of_eq hg⟩
    refine codeAny_mono ((F _ hKb (nsK hns)).run callerA [] s₁ H ⟨[.ref a], []⟩ [.ref a] [.ref a] _ _ hr e0 (hbind s₁ (.ref a)) (.cons rfl .nil) (hsp H hO hS)) fun r s' h => ?_
    cases r with
    | error e => exact (hCX H e s' h).elim
    | ok fl =>
      cases fl with
      | next => exact False.elim h
      | brk => exact False.elim h
      | cont => exact False.elim h
      | ret u =>
        obtain ⟨v, H', os, bare, un, hok', r', q⟩ := h
        have q' : v = .bl true := q
        subst q'
        obtain rfl : u = Value.bool true := r'
        refine ⟨rfl, OldK.of_keep fun b o e => ?_, os, bare⟩
        cases q : H b with
        | none => exact un.keep b o e q (by intro z; exact absurd (show b ∈ ([] : List Addr) from z) (by simp)) (by simp)
        | some u =>
          rcases hO b with z | ⟨ob, xs, z⟩
          · rw [q] at z; cases z
          · have z2 := un.frzs b ob _ z
            obtain ⟨e1, _⟩ := hok b _ z
            obtain ⟨e2, _⟩ := hok' b _ z2
            rw [e] at e1; cases e1
            exact e2
  cases hk : K.lookup a with
  | some o =>
    have e := KX a o hk
    rw [ha] at e
    cases e
    refine core (fun _ => none) (fun _ => .inl rfl) (.inr ⟨_, vs.toArray, _, hk, rfl, rfl, rfl, by rw [List.size_toArray, lenV]; exact hl, by simpa using rv⟩) (fun b u z => by have z' : (none : Option HO) = some u := z; cases z') (fun b z => absurd rfl z) fun z => absurd rfl z
  | none =>
    refine core (fun b => if b = a then some (.frz { cls := .type "list", data := .seq vs.toArray } (.lst (ns.map V.int))) else none) (fun b => ?_) (.inl (.inr ⟨{ cls := .type "list", data := .seq vs.toArray }, if_pos rfl⟩)) (fun b u z => ?_) (fun b z => ?_) fun _ => hk
    · by_cases hb : b = a
      · exact .inr ⟨_, _, if_pos hb⟩
      · exact .inl (if_neg hb)
    · by_cases hb : b = a
      · have z' := (if_pos hb).symm.trans z
        cases z'
        subst hb
        exact ⟨ha, by rw [List.length_map]; exact hl, vs, _, rv, ha⟩
      · have z' := (if_neg hb).symm.trans z
        cases z'
    · by_cases hb : b = a
      · exact hb
      · exact absurd (if_neg hb) z
end L2
namespace L2
open PySem PySem.Spec PyProof.Rows
abbrev KOf {K : PySem.W.Frag} {h : Heap} (_ : K.In h) : PySem.W.Frag := K
theorem walk_of {l : PySem.W.OpenLaw} {n k : Nat} {q : Program} {loose : List Str} {XP : (Str -> Option Value) -> Heap -> Prop} {YP : World -> Heap -> Prop} {d : DefRec} {K : Params -> PySem.W.Frag} {CX : World -> CXT} {sp : World -> Sp} {x : Str}
    (hn : l.most = some n) (hn2 : n <= sizeLine) (hdf : d.params.defaults = []) (hr : Room k callerA)
    (hY : ∀ (w : World) (h : Heap), YP w h -> (K w.params).In h)
    (F : ∀ (w : World) (mg : Str -> Option Value) (fa : Addr) (h : Heap), (K w.params).In h -> h.Ns mainGlobals mg -> mg d.name = some (.ref fa) ->
      ∃ fd : FuncData, (∀ (s : Shared) (u : Value), BindsTo s fd ⟨[u], []⟩ [(x, u)]) /\
        ∀ base : Heap, (K w.params).In base -> base.Ns mainGlobals mg -> FnOk l.prog w (K w.params) mg base (CX w) k fa fd [x] (sp w))
    (hsp : ∀ (w : World) (H : Hp) (a : Addr) (ns : List Int), ns.length <= n -> Only H -> SqL (K w.params) H a (ns.map V.int) -> sp w [.ref a] H (fun v _ => v = .bl true) fun _ _ _ => False)
    (hCX : ∀ (w : World) (H : Hp) (s : Shared) (e : Value) (s' : Shared), CX w [] H s (fun _ _ _ => False) e s' -> False) :
    PySem.W.WalkO q loose XP YP l.row.toRowW d [] (fun f vs => PySem.call f vs) := by
  refine Att.attach_call hn hdf fun w s₀ s₁ mg mb fa o pm cd doc a vs ns G Y ho hd hcd hmg hobj hints hlen hg => ?_
  have KX := hY w _ Y
  obtain ⟨fd, hb, hF⟩ := F w mg fa _ KX G.T.g hmg
  exact law_call KX G.T.g G.T.b G.T.builtins G.T.nolimit hg hobj hints (Nat.le_trans hlen hn2) hr hF hb (fun H hO hS => hsp w H a ns hlen hO hS) fun H e s' => hCX w H s₁ e s'
theorem walk_ofK {l : PySem.W.OpenLaw} {n k : Nat} {q : Program} {loose : List Str} {XP : (Str -> Option Value) -> Heap -> Prop} {YP : World -> Heap -> Prop} {d : DefRec} {K : Params -> PySem.W.Frag} {CX : CXT} {sp : PySem.W.Frag -> Sp} {x : Str}
    (hn : l.most = some n) (hn2 : n <= sizeLine) (hdf : d.params.defaults = []) (hr : Room k callerA)
    (hY : ∀ (w : World) (h : Heap), YP w h -> (K w.params).In h)
    (F : ∀ (w : World) (mg : Str -> Option Value) (fa : Addr) (h : Heap), (K w.params).In h -> h.Ns mainGlobals mg -> mg d.name = some (.ref fa) ->
      ∃ fd : FuncData, (∀ (s : Shared) (u : Value), BindsTo s fd ⟨[u], []⟩ [(x, u)]) /\
        ∀ base : Heap, (K w.params).In base -> base.Ns mainGlobals mg -> FnOk l.prog w (K w.params) mg base CX k fa fd [x] (sp (K w.params)))
    (hsp : ∀ (K : PySem.W.Frag) (H : Hp) (a : Addr) (ns : List Int), ns.length <= n -> Only H -> SqL K H a (ns.map V.int) -> sp K [.ref a] H (fun v _ => v = .bl true) fun _ _ _ => False)
    (hCX : ∀ (H : Hp) (s : Shared) (e : Value) (s' : Shared), CX [] H s (fun _ _ _ => False) e s' -> False) :
    PySem.W.WalkO q loose XP YP l.row.toRowW d [] (fun f vs => PySem.call f vs) :=
  walk_of (K := K) (CX := fun _ => CX) (sp := fun w => sp (K w.params)) hn hn2 hdf hr hY F (fun w H a ns h1 h2 h3 => hsp (K w.params) H a ns h1 h2 h3) fun _ H s e s' => hCX H s e s'
end L2
namespace L2
open PySem PySem.Spec PyProof.Rows
def defArgs (s : Stmt) : Arguments := match s with
  | .FunctionDef _ a _ _ _ _ _ _ _ _ => a
  | _ => { posonlyargs := [], args := [], vararg := none, kwonlyargs := [], kw_defaults := [], kwarg := none, defaults := [] }
def defBody (s : Stmt) : List Stmt := match s with
  | .FunctionDef _ _ b _ _ _ _ _ _ _ => b
  | _ => []
def defScope (s : Stmt) : Scope := match s with
  | .FunctionDef _ _ _ _ _ _ sc _ _ _ => sc
  | _ => { kind := .function, names := [], isGenerator := false, isCoroutine := false }
abbrev CX0 : CXT := fun _ _ _ _ _ _ => False
abbrev E0 : XK := fun _ _ _ => False
theorem pass0 {X : Cx} : Passes CX0 X E0 := fun _ _ _ _ _ _ _ h => h.elim
structure Fun (K : PySem.W.Frag) (x qual : Str) (st : Stmt) (f : Addr) (fd : FuncData) : Prop where
  ex : ∃ (oc : Value) (od : Option Addr) (kV doc pm : Value) (an : Option Addr) (cdv ct : Value) (osl : Array (Option Value)),
    fd = PySem.W.fnOf x qual (defArgs st) (defBody st) (defScope st) .none kV doc pm an cdv ct /\ K.lookup f = some ⟨oc, od, .func fd, osl⟩ /\ PySem.W.codeIn K cdv qual = true
  kp : PySem.W.keepIn K (.ref f) = true
section
variable {P : Program} {w : World} {K : PySem.W.Frag} {mg : Str -> Option Value} {base : Heap}
theorem Fun.ok {x qual : Str} {st : Stmt} {f : Addr} {fd : FuncData} {N ps : List Str} {k : Nat} {sp : Sp} (F : Fun K x qual st f fd) (S : FnScope N ps (defScope st)) (len : ∀ vs H Q E, sp vs H Q E -> vs.length = ps.length)
    (hbody : ∀ (cdv : Value) (A : Around) (outer : List Env) (s : Shared) (H : Hp) (vs : List V) (Q : VK) (E : XK), Room k (A.deeper (envOfC qual (defScope st) s.heap.objs.size f cdv)) -> sp vs H Q E ->
      ∃ t, PSs (cxOf CX0 P w K mg base N qual (defScope st) f cdv A outer s H E).nox (defBody st) t /\ t { nx := fun _ H' => Q .non H', rt := Q } (start N vs) H) : FnOk P w K mg base CX0 (k + 1) f fd ps sp := by
  obtain ⟨oc, od, kV, doc, pm, an, cdv, ct, osl, rfl, lk, hcd⟩ := F.ex
  refine fn_of lk hcd S len fun A outer s H vs Q E hr hsp => ?_
  obtain ⟨t, h, q⟩ := hbody cdv A outer s H vs Q E hr hsp
  exact ⟨t, h.nox, q⟩
theorem Fun.binds {x qual : Str} {st : Stmt} {f : Addr} {fd : FuncData} {ps : List Str} (F : Fun K x qual st f fd)
    (h : ∀ (kV doc pm : Value) (an : Option Addr) (cdv ct : Value) (us : List Value), us.length = ps.length -> bindArgs (PySem.W.fnOf x qual (defArgs st) (defBody st) (defScope st) .none kV doc pm an cdv ct) ⟨us, []⟩ = pure (ps.zip us)) : Binds K fd ps [] := by
  obtain ⟨oc, od, kV, doc, pm, an, cdv, ct, osl, rfl, lk, hcd⟩ := F.ex
  exact .all (h kV doc pm an cdv ct)
theorem fun_mk {x qual : Str} {st : Stmt} {f : Addr} {oc : Value} {od an : Option Addr} {osl : Array (Option Value)} {kV doc pm cdv ct : Value} (l : K.lookup f = some ⟨oc, od, .func (PySem.W.fnOf x qual (defArgs st) (defBody st) (defScope st) .none kV doc pm an cdv ct), osl⟩)
    (c : PySem.W.codeIn K cdv qual = true) (k : PySem.W.keepIn K (.ref f) = true) : Fun K x qual st f (PySem.W.fnOf x qual (defArgs st) (defBody st) (defScope st) .none kV doc pm an cdv ct) := ⟨⟨oc, od, kV, doc, pm, an, cdv, ct, osl, rfl, l, c⟩, k⟩
end
section
variable {X : Cx}
theorem pv (i : Nat) {x : Str} {pos : Pos} (hN : X.N[i]? = some x := by rfl) (hv : Vis X.env.scope x := by first | exact Or.inl rfl | exact Or.inr (Or.inl rfl) | exact Or.inr (Or.inr rfl)) (hd : (x == ("__debug__" : Str)) = false := by decide)
    (hcd : (x == ("__classdict__" : Str)) = false := by decide) : PE X (.Name x pos) (tVar i) := pe_var hN hv hd hcd
end
theorem iteF {A B : Prop} (h : B) : if false = true then A else B := by
  rw [if_neg Bool.false_ne_true]
  exact h
theorem iteT {A B : Prop} (h : A) : if true = true then A else B := by
  rw [if_pos rfl]
  exact h
def Same (H H' : Hp) : Prop := ∀ b o, H b = some o -> H' b = some o
theorem Same.refl (H : Hp) : Same H H := fun _ _ h => h
theorem Same.trans {H H1 H2 : Hp} (a : Same H H1) (b : Same H1 H2) : Same H H2 := fun c o h => b c o (a c o h)
theorem Same.free {H H' : Hp} (e : Same H H') {l : Addr} (h : H' l = Option.none) : H l = Option.none := by
  cases q : H l with
  | none => rfl
  | some o =>
    rw [e l o q] at h
    cases h
theorem Same.seq {K : PySem.W.Frag} {H H' : Hp} {a : Addr} {xs : List V} (e : Same H H') (h : SqL K H a xs) : SqL K H' a xs := by
  rcases h with (h | ⟨o, h⟩) | h
  · exact .inl (.inl (e _ _ h))
  · exact .inl (.inr ⟨o, e _ _ h⟩)
  · exact .inr h
end L2
set_option maxHeartbeats 4000000
namespace L2
open PySem PySem.Spec PyProof.Rows
inductive Da where
  | fl (v : V)
  | tup (ds : List Da)
  | lst (ds : List Da)
mutual
def Isd (K : PySem.W.Frag) (H : Hp) : Da -> V -> Prop
  | .fl x, v => v = x /\ flatV x = true
  | .tup ds, v => ∃ a xs, v = .ref a /\ SqT K H a xs /\ Isds K H ds xs
  | .lst ds, v => ∃ a xs, v = .ref a /\ SqL K H a xs /\ Isds K H ds xs
def Isds (K : PySem.W.Frag) (H : Hp) : List Da -> List V -> Prop
  | [], xs => xs = []
  | d :: ds, xs => ∃ v vs, xs = v :: vs /\ Isd K H d v /\ Isds K H ds vs
end
mutual
def eqD : Da -> Da -> Bool
  | .fl x, .fl y => eqV x y
  | .tup a, .tup b => eqDs a b
  | .lst a, .lst b => eqDs a b
  | _, _ => false
def eqDs : List Da -> List Da -> Bool
  | [], [] => true
  | a :: r, b :: t => eqD a b && eqDs r t
  | _, _ => false
end
mutual
def depD : Da -> Nat
  | .fl _ => 0
  | .tup ds => depDs ds + 1
  | .lst ds => depDs ds + 1
def depDs : List Da -> Nat
  | [] => 0
  | d :: ds => max (depD d) (depDs ds)
end
theorem Isds.len {K : PySem.W.Frag} {H : Hp} : ∀ {ds : List Da} {xs : List V}, Isds K H ds xs -> ds.length = xs.length
  | [], xs, h => by unfold Isds at h; subst h; rfl
  | d :: ds, xs, h => by
    unfold Isds at h
    obtain ⟨v, vs, rfl, _, t⟩ := h
    rw [List.length_cons, List.length_cons, Isds.len t]
theorem Isds.get {K : PySem.W.Frag} {H : Hp} : ∀ {ds : List Da} {xs : List V} {i : Nat} {d : Da} {v : V}, Isds K H ds xs -> ds[i]? = some d -> xs[i]? = some v -> Isd K H d v
  | [], _, _, _, _, _, e, _ => by simp at e
  | d :: ds, xs, 0, _, _, h, e, q => by
    unfold Isds at h
    obtain ⟨v, vs, rfl, hd, t⟩ := h
    simp at e q
    subst e q
    exact hd
  | d :: ds, xs, i + 1, _, _, h, e, q => by
    unfold Isds at h
    obtain ⟨v, vs, rfl, hd, t⟩ := h
    exact Isds.get t (by simpa using e) (by simpa using q)
theorem eqV_refl {x : V} (h : flatV x = true) : eqV x x = true := by
  cases x with
  | non => rfl
  | bl b => show (b == b) = true; simp
  | int i => show (i == i) = true; simp
  | str z => show (z == z) = true; simp
  | _ => exact absurd (show false = true from h) Bool.false_ne_true
section
variable {X : Cx} {pins : List (Addr × Obj)} {σ : St} {H : Hp} {s : Shared}
theorem Inv.lst_tup (I : Inv X pins σ H s) {a : Addr} {xs ys : List V} (h : SqL X.K H a xs) (h' : SqT X.K H a ys) : False := by
  obtain ⟨its, _, ⟨o1, n1, e1, c1, _⟩, _⟩ := I.list h
  obtain ⟨its2, _, ⟨o, e2, c2, _⟩, _⟩ := I.tuple h'
  rw [e1] at e2
  cases e2
  rw [c1] at c2
  exact absurd (Value.type.inj c2) (by decide)
theorem Isd.flat_ref {K : PySem.W.Frag} {a : Addr} {x : V} (h : Isd K H (.fl x) (.ref a)) : False := by
  unfold Isd at h
  obtain ⟨e, f⟩ := h
  subst e
  exact absurd (show false = true from f) Bool.false_ne_true
mutual
theorem Isd.inj (I : Inv X pins σ H s) : ∀ (d e : Da) {v : V}, Isd X.K H d v -> Isd X.K H e v -> d = e
  | .fl x, .fl y, v, h, q => by
    unfold Isd at h q
    rw [<- h.1, <- q.1]
  | .fl x, .tup ys, v, h, q => by
    unfold Isd at q
    obtain ⟨a, zs, e, _⟩ := q
    subst e
    exact h.flat_ref.elim
  | .fl x, .lst ys, v, h, q => by
    unfold Isd at q
    obtain ⟨a, zs, e, _⟩ := q
    subst e
    exact h.flat_ref.elim
  | .tup xs, .fl y, v, h, q => by
    unfold Isd at h
    obtain ⟨a, zs, e, _⟩ := h
    subst e
    exact q.flat_ref.elim
  | .lst xs, .fl y, v, h, q => by
    unfold Isd at h
    obtain ⟨a, zs, e, _⟩ := h
    subst e
    exact q.flat_ref.elim
  | .tup xs, .tup ys, v, h, q => by
    unfold Isd at h q
    obtain ⟨a, us, e, ha, hs⟩ := h
    obtain ⟨b, ws, e', hb, qs⟩ := q
    subst e
    cases e'
    rw [I.tuple_inj ha hb] at hs
    rw [Isds.inj I xs ys hs qs]
  | .lst xs, .lst ys, v, h, q => by
    unfold Isd at h q
    obtain ⟨a, us, e, ha, hs⟩ := h
    obtain ⟨b, ws, e', hb, qs⟩ := q
    subst e
    cases e'
    rw [I.list_inj ha hb] at hs
    rw [Isds.inj I xs ys hs qs]
  | .tup xs, .lst ys, v, h, q => by
    unfold Isd at h q
    obtain ⟨a, us, e, ha, hs⟩ := h
    obtain ⟨b, ws, e', hb, qs⟩ := q
    subst e
    cases e'
    exact (I.lst_tup hb ha).elim
  | .lst xs, .tup ys, v, h, q => by
    unfold Isd at h q
    obtain ⟨a, us, e, ha, hs⟩ := h
    obtain ⟨b, ws, e', hb, qs⟩ := q
    subst e
    cases e'
    exact (I.lst_tup ha hb).elim
theorem Isds.inj (I : Inv X pins σ H s) : ∀ (ds es : List Da) {vs : List V}, Isds X.K H ds vs -> Isds X.K H es vs -> ds = es
  | [], [], _, _, _ => rfl
  | [], e :: es, vs, h, q => by
    unfold Isds at h q
    obtain ⟨v, r, e1, _⟩ := q
    rw [h] at e1; cases e1
  | d :: ds, [], vs, h, q => by
    unfold Isds at h q
    obtain ⟨v, r, e1, _⟩ := h
    rw [q] at e1; cases e1
  | d :: ds, e :: es, vs, h, q => by
    unfold Isds at h q
    obtain ⟨v, r, e1, h1, h2⟩ := h
    obtain ⟨v', r', e2, q1, q2⟩ := q
    subst e1
    cases e2
    rw [Isd.inj I d e h1 q1, Isds.inj I ds es h2 q2]
end
mutual
theorem eqD_refl {K : PySem.W.Frag} : ∀ (d : Da) {v : V}, Isd K H d v -> eqD d d = true
  | .fl x, v, h => by
    unfold Isd at h
    unfold eqD
    exact eqV_refl h.2
  | .tup ds, v, h => by
    unfold Isd at h
    obtain ⟨_, _, _, _, hs⟩ := h
    unfold eqD
    exact eqDs_refl ds hs
  | .lst ds, v, h => by
    unfold Isd at h
    obtain ⟨_, _, _, _, hs⟩ := h
    unfold eqD
    exact eqDs_refl ds hs
theorem eqDs_refl {K : PySem.W.Frag} : ∀ (ds : List Da) {vs : List V}, Isds K H ds vs -> eqDs ds ds = true
  | [], _, _ => by unfold eqDs; rfl
  | d :: ds, vs, h => by
    unfold Isds at h
    obtain ⟨_, _, _, h1, h2⟩ := h
    unfold eqDs
    rw [eqD_refl d h1, eqDs_refl ds h2]
    rfl
end
theorem eqDs_all : ∀ (ds es : List Da), ds.length = es.length -> (List.range ds.length).all (fun j => match ds[j]?, es[j]? with | some a, some b => eqD a b | _, _ => false) = eqDs ds es
  | [], [], _ => by unfold eqDs; rfl
  | [], _ :: _, h => by simp at h
  | _ :: _, [], h => by simp at h
  | d :: ds, e :: es, h => by
    have ih := eqDs_all ds es (by simpa using h)
    unfold eqDs
    rw [<- ih, List.length_cons, List.range_succ_eq_map, List.all_cons, List.all_map]
    simp only [List.getElem?_cons_zero, Function.comp_def, List.getElem?_cons_succ]
theorem eqDs_len : ∀ (ds es : List Da), ds.length ≠ es.length -> eqDs ds es = false
  | [], [], h => by simp at h
  | [], _ :: _, _ => by unfold eqDs; rfl
  | _ :: _, [], _ => by unfold eqDs; rfl
  | d :: ds, e :: es, h => by
    unfold eqDs
    rw [eqDs_len ds es (by simpa using h), Bool.and_false]
theorem depD_mem : ∀ {ds : List Da} {d : Da} {j : Nat}, ds[j]? = some d -> depD d <= depDs ds
  | [], _, _, h => by simp at h
  | d :: ds, _, 0, h => by
    simp at h
    subst h
    unfold depDs
    omega
  | d :: ds, e, j + 1, h => by
    have := depD_mem (ds := ds) (d := e) (j := j) (by simpa using h)
    unfold depDs
    omega
def atE (ds es : List Da) (j : Nat) : Bool := match ds[j]?, es[j]? with
  | some a, some b => eqD a b
  | _, _ => false
theorem items_D {K : PySem.W.Frag} {n : Nat} {A : Around} (hE : ∀ (d e : Da) (v x : V) (u w : Value), depD d <= n -> Isd K H d v -> Isd K H e x -> RelV v u -> RelV x w -> SeqAt.EqAt A s u w (eqD d e)) {ds es : List Da} {xs ys : List V} {us ws : List Value} (hdp : depDs ds <= n)
    (h1 : Isds K H ds xs) (h2 : Isds K H es ys) (r1 : Vals xs us) (r2 : Vals ys ws) (j : Nat) (l1 : j < us.toArray.size) (l2 : j < ws.toArray.size) : SeqAt.EqAt A s us.toArray[j] ws.toArray[j] (atE ds es j) := by
  have l1' : j < us.length := by simpa using l1
  have l2' : j < ws.length := by simpa using l2
  have q1 := h1.len
  have q2 := h2.len
  have q3 := r1.length
  have q4 := r2.length
  have a1 : ds[j]? = some ds[j] := List.getElem?_eq_getElem (by omega)
  have a2 : es[j]? = some es[j] := List.getElem?_eq_getElem (by omega)
  have a3 : xs[j]? = some xs[j] := List.getElem?_eq_getElem (by omega)
  have a4 : ys[j]? = some ys[j] := List.getElem?_eq_getElem (by omega)
  obtain ⟨u1, b1, c1⟩ := r1.get a3
  obtain ⟨w1, b2, c2⟩ := r2.get a4
  have e1 : us.toArray[j] = u1 := by
    have : us[j] = u1 := by rw [List.getElem?_eq_getElem l1'] at b1; exact Option.some.inj b1
    simpa using this
  have e2 : ws.toArray[j] = w1 := by
    have : ws[j] = w1 := by rw [List.getElem?_eq_getElem l2'] at b2; exact Option.some.inj b2
    simpa using this
  rw [e1, e2]
  unfold atE
  rw [a1, a2]
  exact hE ds[j] es[j] _ _ _ _ (Nat.le_trans (depD_mem a1) hdp) (h1.get a1 a3) (h2.get a2 a4) c1 c2
theorem eqAt_D (I : Inv X pins σ H s) : ∀ (n : Nat) (d e : Da) {A : Around} {v x : V} {u w : Value}, depD d <= n -> Isd X.K H d v -> Isd X.K H e x -> RelV v u -> RelV x w -> A.units + n < cLine -> SeqAt.EqAt A s u w (eqD d e) := by
  intro n
  induction n with
  | zero =>
    intro d e A v x u w hn hd he ru rw' hu
    cases d with
    | tup ds => unfold depD at hn; omega
    | lst ds => unfold depD at hn; omega
    | fl y =>
      unfold Isd at hd
      obtain ⟨rfl, fy⟩ := hd
      cases e with
      | fl z =>
        unfold Isd at he
        obtain ⟨rfl, fz⟩ := he
        unfold eqD
        exact eqAt_V ru rw' fy fz
      | tup es =>
        unfold Isd at he
        obtain ⟨a, xs, rfl, ha, _⟩ := he
        obtain ⟨its, _, p, _⟩ := I.tuple ha
        cases rw'
        have p' : s.heap.IsTuple a its.toArray := p
        cases v with
        | non => cases ru; exact SeqAt.EqAt.none_tuple p' (by omega)
        | bl b => cases ru; exact SeqAt.EqAt.bool_tuple b p' (by omega)
        | int i => obtain ⟨t, rfl⟩ := ru; exact SeqAt.EqAt.int_tuple i t p' (by omega)
        | str z => obtain ⟨t, rfl⟩ := ru; exact SeqAt.EqAt.str_tuple z t p' (by omega)
        | _ => exact absurd (show false = true from fy) Bool.false_ne_true
      | lst es =>
        unfold Isd at he
        obtain ⟨a, xs, rfl, ha, _⟩ := he
        obtain ⟨its, _, p, _⟩ := I.list ha
        cases rw'
        have p' := p.isList
        cases v with
        | non => cases ru; exact SeqAt.EqAt.none_list p' (by omega)
        | bl b => cases ru; exact SeqAt.EqAt.bool_list b p' (by omega)
        | int i => obtain ⟨t, rfl⟩ := ru; exact SeqAt.EqAt.int_list i t p' (by omega)
        | str z => obtain ⟨t, rfl⟩ := ru; exact SeqAt.EqAt.str_list z t p' (by omega)
        | _ => exact absurd (show false = true from fy) Bool.false_ne_true
  | succ n ih =>
    intro d e A v x u w hn hd he ru rw' hu
    have items : ∀ {ds es : List Da} {xs ys : List V} {us ws : List Value}, depDs ds <= n -> Isds X.K H ds xs -> Isds X.K H es ys -> Vals xs us -> Vals ys ws ->
        ∀ j (h1 : j < us.toArray.size) (h2 : j < ws.toArray.size), SeqAt.EqAt A.in1 s us.toArray[j] ws.toArray[j] (atE ds es j) :=
      items_D (n := n) fun d e v x u w h1 h2 h3 h4 h5 => ih d e h1 h2 h3 h4 h5 (by show A.units + 1 + n < cLine; omega)
    cases d with
    | fl y =>
      exact ih (.fl y) e (by unfold depD; omega) hd he ru rw' (by omega)
    | tup ds =>
      cases e with
      | fl z =>
        unfold Isd at hd he
        obtain ⟨a, xs, rfl, ha, _⟩ := hd
        obtain ⟨rfl, fz⟩ := he
        obtain ⟨its, _, p, _⟩ := I.tuple ha
        cases ru
        have p' : s.heap.IsTuple a its.toArray := p
        cases x with
        | non => cases rw'; exact SeqAt.EqAt.tuple_none p' (by omega)
        | bl b => cases rw'; exact SeqAt.EqAt.tuple_bool b p' (by omega)
        | int i => obtain ⟨t, rfl⟩ := rw'; exact SeqAt.EqAt.tuple_int i t p' (by omega)
        | str z => obtain ⟨t, rfl⟩ := rw'; exact SeqAt.EqAt.tuple_str z t p' (by omega)
        | _ => exact absurd (show false = true from fz) Bool.false_ne_true
      | tup es =>
        have hd0 := hd
        have he0 := he
        unfold Isd at hd he
        obtain ⟨a, xs, rfl, ha, hs⟩ := hd
        obtain ⟨b, ys, rfl, hb, qs⟩ := he
        cases ru
        cases rw'
        by_cases hab : a = b
        · subst hab
          rw [<- Isd.inj I (.tup ds) (.tup es) hd0 he0, eqD_refl _ hd0]
          exact SeqAt.EqAt.same _
        · obtain ⟨us, r1, p1, _⟩ := I.tuple ha
          obtain ⟨ws, r2, p2, _⟩ := I.tuple hb
          have hdp : depDs ds <= n := by unfold depD at hn; omega
          have key := SeqAt.RcAt.tuples (A := A) (e := atE ds es) (show s.heap.IsTuple a us.toArray from p1) (show s.heap.IsTuple b ws.toArray from p2) (by omega) (items hdp hs qs r1 r2)
          have ev : ((List.range (min us.toArray.size ws.toArray.size)).all (atE ds es) && us.toArray.size == ws.toArray.size) = eqD (.tup ds) (.tup es) := by
            have q1 := hs.len
            have q2 := qs.len
            have q3 := r1.length
            have q4 := r2.length
            have z1 : us.toArray.size = ds.length := by simp; omega
            have z2 : ws.toArray.size = es.length := by simp; omega
            unfold eqD
            rw [z1, z2]
            by_cases hl : ds.length = es.length
            · rw [<- eqDs_all ds es hl, hl, Nat.min_self, beq_self_eq_true, Bool.and_true]
              rfl
            · rw [eqDs_len ds es hl, beq_eq_false_iff_ne.mpr hl, Bool.and_false]
          rw [ev] at key
          exact SeqAt.EqAt.of_refs hab key
      | lst es =>
        unfold Isd at hd he
        obtain ⟨a, xs, rfl, ha, hs⟩ := hd
        obtain ⟨b, ys, rfl, hb, qs⟩ := he
        cases ru
        cases rw'
        obtain ⟨us, r1, p1, _⟩ := I.tuple ha
        obtain ⟨ws, r2, p2, _⟩ := I.list hb
        unfold eqD
        exact SeqAt.EqAt.tuple_list (show s.heap.IsTuple a us.toArray from p1) p2.isList (by omega)
    | lst ds =>
      cases e with
      | fl z =>
        unfold Isd at hd he
        obtain ⟨a, xs, rfl, ha, _⟩ := hd
        obtain ⟨rfl, fz⟩ := he
        obtain ⟨its, _, p, _⟩ := I.list ha
        cases ru
        have p' := p.isList
        cases x with
        | non => cases rw'; exact SeqAt.EqAt.list_none p' (by omega)
        | bl b => cases rw'; exact SeqAt.EqAt.list_bool b p' (by omega)
        | int i => obtain ⟨t, rfl⟩ := rw'; exact SeqAt.EqAt.list_int i t p' (by omega)
        | str z => obtain ⟨t, rfl⟩ := rw'; exact SeqAt.EqAt.list_str z t p' (by omega)
        | _ => exact absurd (show false = true from fz) Bool.false_ne_true
      | tup es =>
        unfold Isd at hd he
        obtain ⟨a, xs, rfl, ha, hs⟩ := hd
        obtain ⟨b, ys, rfl, hb, qs⟩ := he
        cases ru
        cases rw'
        obtain ⟨us, r1, p1, _⟩ := I.list ha
        obtain ⟨ws, r2, p2, _⟩ := I.tuple hb
        unfold eqD
        exact SeqAt.EqAt.list_tuple p1.isList (show s.heap.IsTuple b ws.toArray from p2) (by omega)
      | lst es =>
        have hd0 := hd
        have he0 := he
        unfold Isd at hd he
        obtain ⟨a, xs, rfl, ha, hs⟩ := hd
        obtain ⟨b, ys, rfl, hb, qs⟩ := he
        cases ru
        cases rw'
        by_cases hab : a = b
        · subst hab
          rw [<- Isd.inj I (.lst ds) (.lst es) hd0 he0, eqD_refl _ hd0]
          exact SeqAt.EqAt.same _
        · obtain ⟨us, r1, p1, _⟩ := I.list ha
          obtain ⟨ws, r2, p2, _⟩ := I.list hb
          have hdp : depDs ds <= n := by unfold depD at hn; omega
          have q1 := hs.len
          have q2 := qs.len
          have q3 := r1.length
          have q4 := r2.length
          have z1 : us.toArray.size = ds.length := by simp; omega
          have z2 : ws.toArray.size = es.length := by simp; omega
          by_cases hl : ds.length = es.length
          · have key := SeqAt.RcAt.lists (A := A) (e := atE ds es) p1.isList p2.isList (by rw [z1, z2]; exact hl) (by omega) (items hdp hs qs r1 r2)
            have ev : (List.range us.toArray.size).all (atE ds es) = eqD (.lst ds) (.lst es) := by
              unfold eqD
              rw [z1, <- eqDs_all ds es hl]
              rfl
            rw [ev] at key
            exact SeqAt.EqAt.of_refs hab key
          · have key := SeqAt.RcAt.lists_lengths (A := A) p1.isList p2.isList (by rw [z1, z2]; exact bne_iff_ne.mpr hl) (by omega)
            have ev : false = eqD (.lst ds) (.lst es) := by
              unfold eqD
              rw [eqDs_len ds es hl]
            rw [ev] at key
            exact SeqAt.EqAt.of_refs hab key
theorem all_T {ds es : List Da} {us ws : List Value} (q1 : ds.length = us.length) (q2 : es.length = ws.length) : ((List.range (min us.toArray.size ws.toArray.size)).all (atE ds es) && us.toArray.size == ws.toArray.size) = eqDs ds es := by
  have z1 : us.toArray.size = ds.length := by simp; omega
  have z2 : ws.toArray.size = es.length := by simp; omega
  rw [z1, z2]
  by_cases hl : ds.length = es.length
  · rw [<- eqDs_all ds es hl, hl, Nat.min_self, beq_self_eq_true, Bool.and_true]
    rfl
  · rw [eqDs_len ds es hl, beq_eq_false_iff_ne.mpr hl, Bool.and_false]
def rCmpD (K : PySem.W.Frag) (f : Bool -> Bool) : R2 := fun x y H Q => ∃ a b xs ys ds es, x = .ref a /\ y = .ref b /\ ((SqT K H a xs /\ SqT K H b ys) \/ (SqL K H a xs /\ SqL K H b ys)) /\ Isds K H ds xs /\ Isds K H es ys /\ depDs ds <= 50 /\ Q (.bl (f (eqDs ds es))) H
theorem op_eqD (hu : X.A.units + 64 < cLine) : OpR X (compareOp .Eq) (rCmpD X.K id) := by
  intro pins s σ H x y v u Q I rx ry h
  obtain ⟨a, b, xs, ys, ds, es, rfl, rfl, hq, hs, qs, hd, q⟩ := h
  cases rx
  cases ry
  have items := fun {us ws : List Value} (r1 : Vals xs us) (r2 : Vals ys ws) => items_D (s := s) (H := H) (n := 50) (A := X.A.in1) (fun d e v x u w h1 h2 h3 h4 h5 => eqAt_D I 50 d e h1 h2 h3 h4 h5 (by show X.A.units + 1 + 50 < cLine; omega)) hd hs qs r1 r2
  rcases hq with ⟨ha, hb⟩ | ⟨ha, hb⟩
  · obtain ⟨us, r1, p1, _⟩ := I.tuple ha
    obtain ⟨ws, r2, p2, _⟩ := I.tuple hb
    refine SeqAt.eq_tupleAt (e := atE ds es) (show s.heap.IsTuple a us.toArray from p1) (show s.heap.IsTuple b ws.toArray from p2) (by omega) (items r1 r2) ?_
    rw [all_T (hs.len.trans r1.length) (qs.len.trans r2.length)]
    exact ⟨.bl _, H, I, rfl, q⟩
  · obtain ⟨us, r1, p1, _⟩ := I.list ha
    obtain ⟨ws, r2, p2, _⟩ := I.list hb
    have z1 : us.toArray.size = ds.length := by have q1 := hs.len; have q3 := r1.length; simp; omega
    have z2 : ws.toArray.size = es.length := by have q1 := qs.len; have q3 := r2.length; simp; omega
    by_cases hl : ds.length = es.length
    · refine SeqAt.eq_listAt (e := atE ds es) p1.isList p2.isList (by rw [z1, z2]; exact hl) (by omega) (items r1 r2) ?_
      have ev : (List.range us.toArray.size).all (atE ds es) = eqDs ds es := by
        rw [z1, <- eqDs_all ds es hl]
        rfl
      rw [ev]
      exact ⟨.bl _, H, I, rfl, q⟩
    · refine SeqAt.eq_list_lengthsAt p1.isList p2.isList (by rw [z1, z2]; exact bne_iff_ne.mpr hl) (by omega) ?_
      have ev : false = eqDs ds es := (eqDs_len ds es hl).symm
      rw [ev]
      exact ⟨.bl _, H, I, rfl, q⟩
theorem op_neD (hu : X.A.units + 64 < cLine) : OpR X (compareOp .NotEq) (rCmpD X.K not) := by
  intro pins s σ H x y v u Q I rx ry h
  obtain ⟨a, b, xs, ys, ds, es, rfl, rfl, hq, hs, qs, hd, q⟩ := h
  cases rx
  cases ry
  have items := fun {us ws : List Value} (r1 : Vals xs us) (r2 : Vals ys ws) => items_D (s := s) (H := H) (n := 50) (A := X.A.in1) (fun d e v x u w h1 h2 h3 h4 h5 => eqAt_D I 50 d e h1 h2 h3 h4 h5 (by show X.A.units + 1 + 50 < cLine; omega)) hd hs qs r1 r2
  rcases hq with ⟨ha, hb⟩ | ⟨ha, hb⟩
  · obtain ⟨us, r1, p1, _⟩ := I.tuple ha
    obtain ⟨ws, r2, p2, _⟩ := I.tuple hb
    refine SeqAt.RcNeAt.tuples (e := atE ds es) (show s.heap.IsTuple a us.toArray from p1) (show s.heap.IsTuple b ws.toArray from p2) (by omega) (items r1 r2) _ _ _ _ ?_
    rw [all_T (hs.len.trans r1.length) (qs.len.trans r2.length)]
    exact ⟨.bl _, H, I, rfl, q⟩
  · obtain ⟨us, r1, p1, _⟩ := I.list ha
    obtain ⟨ws, r2, p2, _⟩ := I.list hb
    have z1 : us.toArray.size = ds.length := by have q1 := hs.len; have q3 := r1.length; simp; omega
    have z2 : ws.toArray.size = es.length := by have q1 := qs.len; have q3 := r2.length; simp; omega
    by_cases hl : ds.length = es.length
    · refine SeqAt.RcNeAt.lists (e := atE ds es) p1.isList p2.isList (by rw [z1, z2]; exact hl) (by omega) (items r1 r2) _ _ _ _ ?_
      have ev : (List.range us.toArray.size).all (atE ds es) = eqDs ds es := by
        rw [z1, <- eqDs_all ds es hl]
        rfl
      rw [ev]
      exact ⟨.bl _, H, I, rfl, q⟩
    · refine SeqAt.RcNeAt.lists_lengths p1.isList p2.isList (by rw [z1, z2]; exact bne_iff_ne.mpr hl) (by omega) _ _ _ _ ?_
      have ev : true = !eqDs ds es := by rw [eqDs_len ds es hl]; rfl
      rw [ev]
      exact ⟨.bl _, H, I, rfl, q⟩
end
end L2
namespace L2
open PySem PySem.Spec PyProof.Rows
theorem clos_loop (env : Env) : ∀ (names : List (Str × NameKind)) (cs : List (Str × Addr)), (∀ x, (x, NameKind.free) ∈ names -> ∃ c, env.cells.lookup x = some c) ->
    (∀ x c, cs.lookup x = some c -> env.cells.lookup x = some c) ->
    ∃ cl : List (Str × Addr), (forIn names cs fun (x : Str × NameKind) (r : List (Str × Addr)) => if (x.snd == NameKind.free) = true then do let a <- cellOf env x.fst; pure (ForInStep.yield ((x.fst, a) :: r)) else (pure (ForInStep.yield r) : Sem _)) = (pure cl : Sem _) /\
      (∀ x c, cl.lookup x = some c -> env.cells.lookup x = some c) /\ ∀ x, ((x, NameKind.free) ∈ names \/ ∃ c, cs.lookup x = some c) -> ∃ c, cl.lookup x = some c
  | [], cs, _, h2 => ⟨cs, rfl, h2, fun x hx => hx.elim (fun z => nomatch z) fun z => z⟩
  | (n, k) :: r, cs, h1, h2 => by
    cases hk : (k == NameKind.free) with
    | true =>
      have ek : k = .free := by simpa using hk
      subst ek
      obtain ⟨c, hc⟩ := h1 n List.mem_cons_self
      obtain ⟨cl, e, a, b⟩ := clos_loop env r ((n, c) :: cs) (fun x hx => h1 x (List.mem_cons_of_mem _ hx)) (fun x d hd => by
        rw [List.lookup_cons] at hd
        cases hx : x == n with
        | true =>
          rw [hx] at hd
          have : x = n := by simpa using hx
          subst this
          cases hd
          exact hc
        | false => rw [hx] at hd; exact h2 x d hd)
      refine ⟨cl, ?_, a, fun x hx => b x ?_⟩
      · rw [<- e, List.forIn_cons]
        have hcell : cellOf env n = pure c := by unfold cellOf; rw [hc]
        simp only [hk, if_true]
        rw [hcell]
        rfl
      · rcases hx with hx | ⟨d, hd⟩
        · rcases List.mem_cons.mp hx with q | q
          · cases q
            exact .inr ⟨c, by rw [List.lookup_cons]; simp⟩
          · exact .inl q
        · refine .inr ?_
          rw [List.lookup_cons]
          cases hx : x == n with
          | true => exact ⟨c, rfl⟩
          | false => exact ⟨d, hd⟩
    | false =>
      obtain ⟨cl, e, a, b⟩ := clos_loop env r cs (fun x hx => h1 x (List.mem_cons_of_mem _ hx)) h2
      refine ⟨cl, ?_, a, fun x hx => b x ?_⟩
      · rw [<- e, List.forIn_cons]
        simp only [hk, Bool.false_eq_true, if_false]
        rfl
      · rcases hx with hx | hx
        · rcases List.mem_cons.mp hx with q | q
          · cases q
            simp at hk
          · exact .inl q
        · exact .inr hx
theorem clos_ok {scope : Scope} {env : Env} (h1 : ∀ x, (x, NameKind.free) ∈ scope.names -> ∃ c, env.cells.lookup x = some c) :
    ∃ cl : List (Str × Addr), closureFor scope env = pure cl /\ (∀ x c, cl.lookup x = some c -> env.cells.lookup x = some c) /\ ∀ x, (x, NameKind.free) ∈ scope.names -> ∃ c, cl.lookup x = some c := by
  obtain ⟨cl, e, a, b⟩ := clos_loop env scope.names [] h1 (fun x c h => by simp at h)
  refine ⟨cl, ?_, a, fun x hx => b x (.inl hx)⟩
  simp only [closureFor]
  rw [e]
  rfl
def Cx.comp (X : Cx) (sc : Scope) (cl : List (Str × Addr)) (C : Addr) (N : List Str) (s : Shared) (H : Hp) (fp : List Addr) : Cx :=
  { X with N := N, s₀ := s, H₀ := H, env := compEnvC sc cl C X.env, outer := X.stack, ex := fp, fn := fun _ => false, pn := [], xe := fun _ _ => False }
def compChk (N : List Str) (osc sc : Scope) (t : Str) (ys : List Str) (js : List Nat) : Bool :=
  sc.kind == .function && sc.names.all (fun y => y.2 != .cell) && sc.names.all (fun y => y.2 != .local || sc.names.lookup y.1 == some .local) &&
  sc.names.all (fun y => y.2 != .free || osc.names.lookup y.1 == some .cell) && (ys.map some == js.map fun j => N[j]?) &&
  ys.all (fun y => sc.names.lookup y == some .free) && sc.names.lookup t == some .local && decide ((t :: ys).Nodup)
structure CompOk (N : List Str) (osc sc : Scope) (t : Str) (ys : List Str) (js : List Nat) : Prop where
  kind : sc.kind = .function
  ncell : ∀ y ∈ sc.names, y.2 ≠ .cell
  loc : ∀ y ∈ sc.names, y.2 = .local -> sc.names.lookup y.1 = some .local
  fre : ∀ y ∈ sc.names, y.2 = .free -> osc.names.lookup y.1 = some .cell
  ysj : ys.map some = js.map fun j => N[j]?
  ysf : ∀ y ∈ ys, sc.names.lookup y = some .free
  tl : sc.names.lookup t = some .local
  nd : (t :: ys).Nodup
theorem compOk_of {N : List Str} {osc sc : Scope} {t : Str} {ys : List Str} {js : List Nat} (h : compChk N osc sc t ys js = true) : CompOk N osc sc t ys js := by
  unfold compChk at h
  simp only [Bool.and_eq_true, List.all_eq_true, decide_eq_true_eq, Bool.or_eq_true, bne_iff_ne, beq_iff_eq] at h
  obtain ⟨⟨⟨⟨⟨⟨⟨a, b⟩, c⟩, d⟩, e⟩, f⟩, g⟩, i⟩ := h
  exact ⟨a, fun y hy => b y hy, fun y hy z => (c y hy).resolve_left fun q => q z, fun y hy z => (d y hy).resolve_left fun q => q z, e, f, g, i⟩
def compS (js : List Nat) (σ : St) : St := js.map fun j => (σ[j]?).join
theorem relabel_inv {env : Env} {x : Str} : ∀ {names : List (Str × NameKind)} {k : NameKind}, (names.map fun (n, k) => if (k == NameKind.free && env.scope.kind == .function && env.kindOf n == some .cell) then (n, NameKind.cell) else (n, k)).lookup x = some k ->
    names.lookup x = some k \/ (k = .cell /\ names.lookup x = some .free)
  | [], _, h => by simp at h
  | (n, q) :: r, k, h => by
    have ih := @relabel_inv env x r k
    have h' : List.lookup x ((if (q == NameKind.free && env.scope.kind == .function && env.kindOf n == some .cell) = true then (n, NameKind.cell) else (n, q)) :: _) = some k := h
    cases hx : x == n with
    | true =>
      by_cases hc : (q == NameKind.free && env.scope.kind == .function && env.kindOf n == some .cell) = true
      · rw [if_pos hc] at h'
        simp only [List.lookup_cons, hx] at h' ⊢
        have eq : q = .free := by simp only [Bool.and_eq_true, beq_iff_eq] at hc; exact hc.1.1
        cases h'
        exact .inr ⟨rfl, by rw [eq]⟩
      · rw [if_neg hc] at h'
        simp only [List.lookup_cons, hx] at h' ⊢
        exact .inl h'
    | false =>
      by_cases hc : (q == NameKind.free && env.scope.kind == .function && env.kindOf n == some .cell) = true
      · rw [if_pos hc] at h'
        simp only [List.lookup_cons, hx] at h' ⊢
        exact ih h'
      · rw [if_neg hc] at h'
        simp only [List.lookup_cons, hx] at h' ⊢
        exact ih h'
theorem relabel_free {env : Env} {x : Str} : ∀ {names : List (Str × NameKind)}, names.lookup x = some .free ->
    (names.map fun (n, k) => if (k == NameKind.free && env.scope.kind == .function && env.kindOf n == some .cell) then (n, NameKind.cell) else (n, k)).lookup x = some .cell \/
    (names.map fun (n, k) => if (k == NameKind.free && env.scope.kind == .function && env.kindOf n == some .cell) then (n, NameKind.cell) else (n, k)).lookup x = some .free
  | [], h => by simp at h
  | (n, q) :: r, h => by
    have ih := @relabel_free env x r
    show List.lookup x ((if (q == NameKind.free && env.scope.kind == .function && env.kindOf n == some .cell) = true then (n, NameKind.cell) else (n, q)) :: _) = some .cell \/ List.lookup x ((if (q == NameKind.free && env.scope.kind == .function && env.kindOf n == some .cell) = true then (n, NameKind.cell) else (n, q)) :: _) = some .free
    cases hx : x == n with
    | true =>
      simp only [List.lookup_cons, hx] at h
      cases h
      by_cases hc : (NameKind.free == NameKind.free && env.scope.kind == .function && env.kindOf n == some .cell) = true
      · rw [if_pos hc]; exact .inl (by simp only [List.lookup_cons, hx])
      · rw [if_neg hc]; exact .inr (by simp only [List.lookup_cons, hx])
    | false =>
      simp only [List.lookup_cons, hx] at h
      by_cases hc : (q == NameKind.free && env.scope.kind == .function && env.kindOf n == some .cell) = true
      · rw [if_pos hc]; simp only [List.lookup_cons, hx]; exact ih h
      · rw [if_neg hc]; simp only [List.lookup_cons, hx]; exact ih h
def PIf (X : Cx) (ifs : List Expr) (t : TT) : Prop :=
  ∀ (pins : List (Addr × Obj)) (s : Shared) (σ : St) (H : Hp) (Q : Bool -> Hp -> Prop), Inv X pins σ H s -> t σ H Q ->
    wpAny (model X.prog X.w) X.A (forIn ifs true fun c r => if r = true then do let ok <- isTrue c X.env (eval c X.env); pure (ForInStep.yield ok) else pure (ForInStep.yield r)) (TP X pins σ Q) X.xe s
def tYes : TT := fun _ H Q => Q true H
theorem pif_nil {X : Cx} : PIf X [] tYes := fun _ _ _ H _ I h => wpAny_tests_nil ⟨H, I, h⟩
theorem pif_one {X : Cx} {c : Expr} {t : TT} (h : PT X c t) : PIf X [c] t := fun pins s σ H Q I q => wpAny_tests_one (h pins s σ H Q I q)
theorem comp_turns {prog : Program} {w : World} {A : Around} {R : Result -> Shared -> Prop} {s : Shared} {elt target iter : Expr} {ifs : List Expr} {scope : Scope} {pos : Pos} {it acc : Value} {env : Env} (J : Nat -> Shared -> Prop)
    (turn : ∀ n s0, J n s0 -> wpAny (model prog w) A (pyNext it) (fun r s1 => match r with
      | none => R (.ok .next) s1
      | some v => wpAny (model prog w) A (letOwnedTupleGo target it v) (fun _ s2 => wpAny (model prog w) A (assign target env v) (fun _ s3 =>
          wpAny (model prog w) A (forIn ifs true fun c r => if r = true then do let ok <- isTrue c env (eval c env); pure (ForInStep.yield ok) else pure (ForInStep.yield r)) (fun ok s4 =>
            if ok = true then wpAny (model prog w) A (eval elt env) (fun x s5 =>
              wpAny (model prog w) A (call (.builtin "list.append") [acc, x]) (fun _ s6 => ∃ m, m < n /\ J m s6) (fun _ _ => False) s5) (fun _ _ => False) s4
            else ∃ m, m < n /\ J m s4) (fun _ _ => False) s3) (fun _ _ => False) s2) (fun _ _ => False) s1) (fun _ _ => False) s0)
    (n : Nat) (h : J n s) : codeAny (model prog w) A (.compLoop (.ListComp elt [⟨target, iter, ifs, 0⟩] scope pos) 0 it acc env) R s := by
  have up : ∀ {α : Type} {t : Sem α} {Q Q' : α -> Shared -> Prop} {E : Value -> Shared -> Prop} {s0 : Shared}, wpAny (model prog w) A t Q (fun _ _ => False) s0 -> (∀ a s', Q a s' -> Q' a s') -> wpAny (model prog w) A t Q' E s0 :=
    fun h0 hq => wpAny_mono h0 hq fun _ _ z => z.elim
  refine codeAny_loop rfl J ?_ n h
  intro k s0 hJ
  show wpAny _ A ((compTurn (.ListComp elt [⟨target, iter, ifs, 0⟩] scope pos) 0 it acc env).onRaise (fun x => do noteFrame x env; theTreesLotGoes x)) _ _ s0
  refine wpAny_noted ?_
  rw [compTurn_list]
  refine wpAny_bind (wpAny_standAt (wpAny_bind (up (turn k s0 hJ) fun r s1 h1 => ?_)))
  cases r with
  | none => exact wpAny_pure h1
  | some v =>
    refine wpAny_bind (up h1 fun _ s2 h2 => wpAny_bind (up h2 fun _ s3 h3 => wpAny_bind (up h3 fun ok s4 h4 => ?_)))
    cases ok with
    | false => exact wpAny_pure ⟨rfl, h4⟩
    | true => exact wpAny_bind (wpAny_bind (up h4 fun x s5 h5 => wpAny_bind (up h5 fun _ s6 h6 => wpAny_pure (wpAny_pure ⟨rfl, h6⟩))))
def CompW (J : It) (js : List Nat) (tc : TT) (te : TE) (σ : St) (Q : VK) (D : Addr) (H1 : Hp) : Prop := ∃ W : Nat -> Nat -> List V -> Hp -> Prop, (∃ m, W 0 m [] (upd H1 D (.lst []))) /\
  ∀ i m acc H, W i m acc H -> H D = some (.lst acc) /\ acc.length < sizeLine /\ ((J.stop i H /\ Q (.ref D) H) \/ (J.go i H /\ ∀ x H', J.yld i H x H' -> tc (some x :: compS js σ) H' fun c H3 =>
    if c = true then te (some x :: compS js σ) H3 fun y H4 => H4 D = some (.lst acc) /\ ∃ m', m' < m /\ W (i + 1) m' (acc ++ [y]) (upd H4 D (.lst (acc ++ [y]))) else ∃ m', m' < m /\ W (i + 1) m' acc H3))
def tComp (wi : TI) (js : List Nat) (tc : TT) (te : TE) : TE := fun σ H Q => wi σ H fun J H1 => ∀ D, H1 D = none -> CompW J js tc te σ Q D H1
theorem pe_comp {X : Cx} {elt iter : Expr} {ifs : List Expr} {sc : Scope} {pos px : Pos} {t : Str} {ys : List Str} {js : List Nat} {wi : TI} {tc : TT} {te : TE} (hc : X.calm = true) (hck : compChk X.N X.env.scope sc t ys js = true)
    (hi : PI X (.Name t px) iter wi) (hf : ∀ cl C s H fp, PIf (X.comp sc cl C (t :: ys) s H fp) ifs tc) (he : ∀ cl C s H fp, PE (X.comp sc cl C (t :: ys) s H fp) elt te)
    (hs : ∀ x, foldedSetIterable iter X.env x = pure x := by intro _; rfl) : PE X (.ListComp elt [⟨.Name t px, iter, ifs, 0⟩] sc pos) (tComp wi js tc te) := by
  have ck := compOk_of hck
  intro pins s σ H Q I h
  have hfr : ∀ x, (x, NameKind.free) ∈ sc.names -> ∃ c, X.env.cells.lookup x = some c := fun x hx => I.ok.has x (.inl (ck.fre _ hx rfl))
  obtain ⟨cl, hcl, cl1, cl2⟩ := clos_ok hfr
  rw [eval_ListComp]
  refine wpAny_comprehension_free (use := none) rfl hs hcl ck.kind ck.loc (thn (hi pins s σ H _ I h) fun v s1 h1 => thn h1 fun itv s2 h2 => ?_)
  obtain ⟨it, fp, tn, J, H2, e, I2, T, st2, f2, hR⟩ := h2
  subst e
  refine wpAny_newObj_type (wpAny_newFunctionEnv ck.ncell (by intro y hy; simp at hy) (fun h1 hns hsb => ?_) ck.kind)
  dsimp only at hns hsb ⊢
  generalize hp : s2.heap.push { cls := .type "list", dict := none, data := .seq ([] : List Value).toArray } = hh at hns hsb ⊢
  have hC : hh.objs.size = s2.heap.objs.size + 1 := by rw [<- hp, Heap.size_push]
  have neD : ∀ {b : Addr}, b < s2.heap.objs.size -> b ≠ s2.heap.objs.size := fun hb => Nat.ne_of_lt hb
  have neC : ∀ {b : Addr}, b < s2.heap.objs.size -> b ≠ hh.objs.size := fun hb => by rw [hC]; exact Nat.ne_of_lt (Nat.lt_succ_of_lt hb)
  have hDC : s2.heap.objs.size ≠ hh.objs.size := by rw [hC]; exact Nat.ne_of_lt (Nat.lt_succ_self _)
  have hCle : s2.heap.objs.size <= hh.objs.size := by rw [hC]; exact Nat.le_succ _
  have old : ∀ b o, s2.heap.get? b = some o -> h1.get? b = some o := fun b o e => hsb.extBut b o (neC (Heap.lt_size e)) (Heap.get?_push_of_some _ (hp ▸ Heap.get?_push_of_some _ e))
  have hnew : h1.get? s2.heap.objs.size = some { cls := .type "list", dict := none, data := .seq ([] : List Value).toArray } := hsb.extBut _ _ hDC (Heap.get?_push_of_some _ (hp ▸ Heap.get?_push_size _ rfl))
  have fpH : ∀ b ∈ fp, ∃ o, s2.heap.get? b = some o := fun b hb => let ⟨o, e, _⟩ := T.obj 0 _ st2 b hb; ⟨o, e⟩
  have fpD : ∀ b ∈ fp, b ≠ s2.heap.objs.size := fun b hb => by obtain ⟨o, e⟩ := fpH b hb; exact neD (Heap.lt_size e)
  have fpC : ∀ b ∈ fp, b ≠ hh.objs.size := fun b hb => by obtain ⟨o, e⟩ := fpH b hb; exact neC (Heap.lt_size e)
  have fpS : ∀ b ∈ fp, b ∉ frs X.stack := fun b hb z => (List.mem_cons.mp (I2.stkSub b z)).elim (f2 b hb).2.1 (f2 b hb).2.2.1
  have hok' : (X.comp sc cl hh.objs.size (t :: ys) s2 H2 fp).Ok := by
    refine ⟨I2.ok.mod, ck.kind, I2.ok.glob, I2.ok.blt, hCle, fun x y c a b => I2.ok.inj x y c (cl1 x c a) (cl1 y c b), fun x hx => ?_, (fun x c z => nomatch z), I2.ok.hd, I2.ok.frames, .inl rfl, fun b hb => ⟨fpC b hb, fun x c a => (f2 b hb).2.2.2.2.1 x c (cl1 x c a)⟩,
      I2.bs, Nat.le_trans I2.ok.bsz I2.sz, fun b o e hb => ?_, fun b hb => fpS b hb, I2.stack, I2.stkFree⟩
    · have hx' : (sc.names.map fun (n, k) => if (k == NameKind.free && X.env.scope.kind == .function && X.env.kindOf n == some .cell) then (n, NameKind.cell) else (n, k)).lookup x = some .cell \/ (sc.names.map fun (n, k) => if (k == NameKind.free && X.env.scope.kind == .function && X.env.kindOf n == some .cell) then (n, NameKind.cell) else (n, k)).lookup x = some .free := hx
      rcases hx' with z | z
      · rcases relabel_inv z with q | ⟨_, q⟩
        · exact absurd rfl (ck.ncell _ (PySem.mem_of_lookup q))
        · exact cl2 x (PySem.mem_of_lookup q)
      · rcases relabel_inv z with q | ⟨q, _⟩
        · exact cl2 x (PySem.mem_of_lookup q)
        · cases q
    · rcases (f2 b hb).2.2.2.1 with z | z
      · exact I2.ok.noex b o e z
      · exact absurd (Nat.lt_of_lt_of_le (Heap.lt_size e) (Nat.le_trans I2.ok.bsz z)) (Nat.lt_irrefl _)
  have Iin : ∀ tk : Nat, Inv (X.comp sc cl hh.objs.size (t :: ys) s2 H2 fp) [] (none :: compS js σ) (upd H2 s2.heap.objs.size (.lst [])) { s2 with heap := h1, toks := tk } := fun tk => by
    refine ⟨hok', rfl, I2.bare, Un.laid old (Nat.le_refl _) I2.fresh, ⟨_, hns, fun i x v e1 e2 e3 => ?_⟩, fun x c e => ?_, ?_, fun x c e => ?_, fun p hp => absurd (show p ∈ ([] : List (Addr × Obj)) from hp) (by simp), I2.hok.laid old (Nat.le_refl _) ⟨Nat.zero_le _, [], 0, .nil, hnew⟩, ?_⟩
    · cases i with
      | zero => simp at e2
      | succ k =>
        have e1' : ys[k]? = some x := e1
        have e2' : (compS js σ)[k]? = some (some v) := by simpa using e2
        unfold compS at e2'
        rw [List.getElem?_map] at e2'
        have q := congrArg (fun l => l[k]?) ck.ysj
        simp only [List.getElem?_map, e1', Option.map_some] at q
        cases hj : js[k]? with
        | none => rw [hj] at q; cases q
        | some j =>
          rw [hj] at q e2'
          have q1 : X.N[j]? = some x := (Option.some.inj q).symm
          have q2 : σ[j]? = some (some v) := by
            have z : (σ[j]?).join = some v := Option.some.inj e2'
            cases hz : σ[j]? with
            | none => rw [hz] at z; cases z
            | some y => rw [hz] at z; exact congrArg some z
          have hf' := ck.ysf x (List.mem_of_getElem? e1')
          have hcell := ck.fre _ (PySem.mem_of_lookup hf') rfl
          obtain ⟨m2, hn2, hl2⟩ := I2.loc
          obtain ⟨u, ru, lk⟩ := hl2 j x v q1 q2 (.inr (.inl hcell))
          refine ⟨u, ru, ?_⟩
          rcases lk with ⟨kk, _⟩ | ⟨_, c, ec, ic⟩
          · have kk' : X.env.scope.names.lookup x = some .local := kk
            have hcell' : X.env.scope.names.lookup x = some .cell := hcell
            rw [hcell'] at kk'; cases kk'
          · obtain ⟨c', ec'⟩ := cl2 x (PySem.mem_of_lookup hf')
            have : c' = c := Option.some.inj ((cl1 x c' ec').symm.trans ec)
            subst this
            refine .inr ⟨relabel_free hf', c', ec', ?_⟩
            obtain ⟨o, ho, hd⟩ := ic
            exact ⟨o, old _ o ho, hd⟩
    · obtain ⟨v, o, ho, hd⟩ := I2.cell x c (cl1 x c e)
      exact ⟨v, o, old _ o ho, hd⟩
    · show upd H2 s2.heap.objs.size _ hh.objs.size = none
      rw [upd_ne (Ne.symm hDC)]
      exact I2.hok.fresh hCle
    · obtain ⟨v, o, ho, hd⟩ := I2.cell x c (cl1 x c e)
      rw [upd_ne (neD (Heap.lt_size ho))]
      exact I2.freeC x c (cl1 x c e)
    · show (none :: compS js σ).length = (t :: ys).length
      have q := congrArg List.length ck.ysj
      simp only [List.length_map] at q
      unfold compS
      simp only [List.length_cons, List.length_map]
      omega
  have st1 : tn 0 h1 := T.keep _ _ _ st2 fun b hb o e => old b o e
  obtain ⟨W, ⟨m0, w0⟩, turn⟩ := hR s2.heap.objs.size I2.fresh
  have fpok : ∀ {H' : Hp}, (∀ b ∈ fp, H' b = none) -> ∀ b ∈ fp, FpOk (X.comp sc cl hh.objs.size (t :: ys) s2 H2 fp) [] H' b := fun hn b hb =>
    ⟨hn b hb, fpC b hb, fpS b hb, .inl hb, fun x c a => (f2 b hb).2.2.2.2.1 x c (cl1 x c a), fun p hp => absurd (show p ∈ ([] : List (Addr × Obj)) from hp) (by simp)⟩
  have ndN : (t :: ys).Nodup := ck.nd
  have loop : ∀ s3 : Shared, s3 = { s2 with heap := h1, toks := s2.toks + ([] : List (Str × Value)).length } ->
      codeAny (model X.prog X.w) X.A (.compLoop (.ListComp elt [⟨.Name t px, iter, ifs, 0⟩] sc pos) 0 (.ref it) (.ref s2.heap.objs.size) (compEnvC sc cl hh.objs.size X.env))
        (compPost (model X.prog X.w) X.A X.xe none (EP X pins σ Q) (.ref s2.heap.objs.size) hh.objs.size) s3 := by
    rintro s3 rfl
    refine comp_turns (fun n s' => ∃ i acc H', Inv (X.comp sc cl hh.objs.size (t :: ys) s2 H2 fp) [] (none :: compS js σ) H' s' /\ tn i s'.heap /\ (∀ b ∈ fp, H' b = none) /\ W i n acc H') ?_ m0
      ⟨0, [], _, Iin _, st1, fun b hb => by rw [upd_ne (fpD b hb)]; exact (f2 b hb).1, w0⟩
    rintro n s3 ⟨i, acc, H3, I3, st3, fr3, w3⟩
    obtain ⟨hD, hz, alt⟩ := turn i n acc H3 w3
    rcases alt with ⟨stop, q⟩ | ⟨go, step⟩
    · refine thn (T.done (X.comp sc cl hh.objs.size (t :: ys) s2 H2 fp) rfl rfl rfl hc i [] s3 _ H3 _ I3 (fpok fr3) st3 stop) fun r s4 ⟨hr, I4⟩ => ?_
      subst hr
      obtain ⟨m, hn, _⟩ := id I4.loc
      refine ⟨m, hn, fun h' sb => ⟨.ref s2.heap.objs.size, H3, ?_, rfl, q⟩⟩
      have ltC : ∀ b o, s2.heap.get? b = some o -> b ≠ hh.objs.size := fun b o e => neC (Heap.lt_size e)
      have b4 : Un (frs X.stack) fp H2 H3 s2.heap s4.heap := I4.base
      refine I2.call' (s' := { s4 with heap := h' }) (ch := fp) I4.os ⟨fun b o e n1 n2 n3 => (sb.2 b (ltC b o e)).trans (b4.keep b o e n1 n2 n3), fun b o e n1 n2 n3 => ?_, b4.free, fun b o e n1 => ?_, b4.tups, b4.frzs, b4.tbls⟩ (fun b ob e => ?_) I4.bare
        (fun b hb => ⟨(f2 b hb).2.2.2.1, (f2 b hb).2.1, (f2 b hb).2.2.2.2.1, (f2 b hb).2.2.2.2.2⟩)
      · obtain ⟨sl, e1⟩ := b4.slot b o e n1 n2 n3
        exact ⟨sl, (sb.2 b (ltC b o e)).trans e1⟩
      · obtain ⟨o', e1⟩ := b4.there b o e n1
        exact ⟨o', (sb.2 b (ltC b o e)).trans e1⟩
      · have hfree : H3 hh.objs.size = none := I4.free
        refine (I4.hok b ob e).stay (fun c w' hc' q' => (sb.2 c ?_).trans q') (fun _ q' => q') fun _ _ q' => q'
        rintro rfl
        rcases hc' with rfl | hc'
        · rw [hfree] at e; cases e
        · rw [hfree] at hc'; cases hc'
    · refine thn (T.item (X.comp sc cl hh.objs.size (t :: ys) s2 H2 fp) rfl rfl rfl hc i [] s3 _ H3 _ I3 (fpok fr3) st3 go) fun r s4 ⟨u, hr, h4⟩ => ?_
      subst hr
      refine thn h4 fun _ s5 ⟨x, H5, I5, r5, y5, st5, fr5⟩ => ?_
      have I5' := I5.pinned (fpok fr5) (T.obj _ _ st5)
      refine wpAny_assign_Name (store_ok (i := 0) I5' ndN rfl (.inl (lookup_relabel_local ck.tl)) r5 (fun s6 I6 => ?_) (.inr (lookup_relabel_local ck.tl)))
      have again : ∀ {H7 : Hp} {s7 : Shared} {m' : Nat} {acc' : List V}, Inv (X.comp sc cl hh.objs.size (t :: ys) s2 H2 fp) ([] ++ pinsAt fp s5.heap) (some x :: compS js σ) H7 s7 -> m' < n -> W (i + 1) m' acc' H7 ->
          ∃ m, m < n /\ ∃ i acc H', Inv (X.comp sc cl hh.objs.size (t :: ys) s2 H2 fp) [] (none :: compS js σ) H' s7 /\ tn i s7.heap /\ (∀ b ∈ fp, H' b = none) /\ W i m acc H' := fun {H7 s7 m' acc'} I7 hm w7 => by
        refine ⟨m', hm, i + 1, acc', H7, (I7.unpinned).weak rfl (fun k v e => ?_), T.keep _ _ _ st5 fun b hb o e => (I7.pin (b, o) (List.mem_append_right _ (List.mem_append_right _ (mem_pinsAt hb e)))).1, fun b hb => ?_, w7⟩
        · cases k with
          | zero => simp at e
          | succ k => simpa using e
        · obtain ⟨o, e, d⟩ := T.obj _ _ st5 b hb
          exact (I7.pin (b, o) (List.mem_append_right _ (List.mem_append_right _ (mem_pinsAt hb e)))).2.1
      refine thn (hf _ _ _ _ _ _ s6 _ H5 _ I6 (step x H5 y5)) fun ok s7 ⟨H7, I7, q7⟩ => ?_
      cases ok with
      | false =>
        obtain ⟨m', hm, w7⟩ := q7
        exact again I7 hm w7
      | true =>
        refine thn (he _ _ _ _ _ _ s7 _ H7 _ I7 q7) fun uy s8 ⟨y, H8, I8, r8, hD8, m', hm, w8⟩ => ?_
        refine thn (mt_append (X := X.comp sc cl hh.objs.size (t :: ys) s2 H2 fp) _ s8 _ H8 (.ref s2.heap.objs.size) [y] (.ref s2.heap.objs.size) [uy] (fun _ H9 => W (i + 1) m' (acc ++ [y]) H9) I8 rfl (.cons r8 .nil) ⟨_, acc, y, rfl, rfl, hD8, hz, w8⟩) fun _ s9 ⟨_, H9, I9, _, q9⟩ => ?_
        exact again I9 hm q9
  exact codeAny_compStart_list (loop _ rfl) (T.self _ 0 _ _ _ st1 (loop _ rfl))
theorem cstep {n i m : Nat} {A B : Prop} (hi : i < n) (hm : m = n - i) (a : A) (b : B) : A /\ ∃ m', m' < m /\ (m' = n - (i + 1) /\ i + 1 <= n /\ B) := ⟨a, n - (i + 1), by omega, rfl, hi, b⟩
theorem comp_rng {lo : Int} {n : Nat} {js : List Nat} {te : TE} {σ : St} {Q : VK} {D : Addr} {H1 : Hp} (Pv : Nat -> List V -> Hp -> Prop) (hz : n < sizeLine) (h0 : Pv 0 [] (upd H1 D (.lst [])))
    (hl : ∀ i acc H, Pv i acc H -> H D = some (.lst acc) /\ acc.length = i)
    (hs : ∀ i m acc H, i < n -> Pv i acc H -> m = n - i -> te (some (.int (lo + i)) :: compS js σ) H fun y H4 => H4 D = some (.lst acc) /\ ∃ m', m' < m /\ (m' = n - (i + 1) /\ i + 1 <= n /\ Pv (i + 1) (acc ++ [y]) (upd H4 D (.lst (acc ++ [y])))))
    (hd : ∀ acc H, Pv n acc H -> Q (.ref D) H) : CompW (Itr lo n) js tYes te σ Q D H1 := by
  refine ⟨fun i m acc H => m = n - i /\ i <= n /\ Pv i acc H, ⟨n, by simp, Nat.zero_le _, h0⟩, ?_⟩
  rintro i m acc H ⟨hm, hi, p⟩
  obtain ⟨hD, hlen⟩ := hl i acc H p
  refine ⟨hD, by omega, ?_⟩
  by_cases hlt : i < n
  · refine .inr ⟨hlt, fun x H' y => ?_⟩
    obtain ⟨e, y⟩ := y
    subst e y
    unfold tYes
    dsimp only
    rw [if_pos rfl]
    exact hs i m acc _ hlt p hm
  · have e : i = n := by omega
    subst e
    exact .inl ⟨Nat.le_refl _, hd acc H p⟩
theorem comp_lst {K : PySem.W.Frag} {a : Addr} {xs : List V} {js : List Nat} {te : TE} {σ : St} {Q : VK} {D : Addr} {H1 : Hp} (Pv : Nat -> List V -> Hp -> Prop) (hz : xs.length < sizeLine) (h0 : Pv 0 [] (upd H1 D (.lst [])))
    (hl : ∀ i acc H, Pv i acc H -> H D = some (.lst acc) /\ acc.length = i /\ SqL K H a xs)
    (hs : ∀ i m x acc H, xs[i]? = some x -> Pv i acc H -> m = xs.length - i -> te (some x :: compS js σ) H fun y H4 => H4 D = some (.lst acc) /\ ∃ m', m' < m /\ (m' = xs.length - (i + 1) /\ i + 1 <= xs.length /\ Pv (i + 1) (acc ++ [y]) (upd H4 D (.lst (acc ++ [y])))))
    (hd : ∀ acc H, Pv xs.length acc H -> Q (.ref D) H) : CompW (Itl K a) js tYes te σ Q D H1 := by
  refine ⟨fun i m acc H => m = xs.length - i /\ i <= xs.length /\ Pv i acc H, ⟨xs.length, by simp, Nat.zero_le _, h0⟩, ?_⟩
  rintro i m acc H ⟨hm, hi, p⟩
  obtain ⟨hD, hlen, hq⟩ := hl i acc H p
  refine ⟨hD, by omega, ?_⟩
  by_cases hlt : i < xs.length
  · refine .inr ⟨⟨xs, xs[i], hq, by simp [hlt]⟩, fun x H' y => ?_⟩
    obtain ⟨e, y⟩ := y
    subst e
    unfold tYes
    dsimp only
    rw [if_pos rfl]
    exact hs i m x acc _ (y xs hq) p hm
  · have e : i = xs.length := by omega
    subst e
    exact .inl ⟨⟨xs, hq, Nat.le_refl _⟩, hd acc H p⟩
theorem comp_tpl {K : PySem.W.Frag} {a : Addr} {xs : List V} {js : List Nat} {te : TE} {σ : St} {Q : VK} {D : Addr} {H1 : Hp} (Pv : Nat -> List V -> Hp -> Prop) (hz : xs.length < sizeLine) (h0 : Pv 0 [] (upd H1 D (.lst [])))
    (hl : ∀ i acc H, Pv i acc H -> H D = some (.lst acc) /\ acc.length = i /\ SqT K H a xs)
    (hs : ∀ i m x acc H, xs[i]? = some x -> Pv i acc H -> m = xs.length - i -> te (some x :: compS js σ) H fun y H4 => H4 D = some (.lst acc) /\ ∃ m', m' < m /\ (m' = xs.length - (i + 1) /\ i + 1 <= xs.length /\ Pv (i + 1) (acc ++ [y]) (upd H4 D (.lst (acc ++ [y])))))
    (hd : ∀ acc H, Pv xs.length acc H -> Q (.ref D) H) : CompW (Itt K a) js tYes te σ Q D H1 := by
  refine ⟨fun i m acc H => m = xs.length - i /\ i <= xs.length /\ Pv i acc H, ⟨xs.length, by simp, Nat.zero_le _, h0⟩, ?_⟩
  rintro i m acc H ⟨hm, hi, p⟩
  obtain ⟨hD, hlen, hq⟩ := hl i acc H p
  refine ⟨hD, by omega, ?_⟩
  by_cases hlt : i < xs.length
  · refine .inr ⟨⟨xs, xs[i], hq, by simp [hlt]⟩, fun x H' y => ?_⟩
    obtain ⟨e, y⟩ := y
    subst e
    unfold tYes
    dsimp only
    rw [if_pos rfl]
    exact hs i m x acc _ (y xs hq) p hm
  · have e : i = xs.length := by omega
    subst e
    exact .inl ⟨⟨xs, hq, Nat.le_refl _⟩, hd acc H p⟩
end L2
namespace L2
open PySem PySem.Spec PyProof.Rows
section
variable {X : Cx}
def rSlS : V -> Option Int -> Option Int -> Hp -> VK -> Prop := fun x lo hi H Q => ∃ z, x = .str z /\ z.length <= sizeLine /\ Q (.str (Txt.slice z lo hi)) H
theorem sl_str : SlR X rSlS := by
  intro pins s σ H x v vl vu lo hi sl Q I rx hs pl pu h
  obtain ⟨z, rfl, hz, q⟩ := h
  obtain ⟨t, rfl⟩ := rx
  have fin : ∀ (c : Prop) [Decidable c] (y w : Str), (if c then y else w) = Txt.slice z lo hi -> (if c then Made.val (.str y t) else Made.str w).post (EP X pins σ Q) s := fun c _ y w e =>
    post_val_or_str ⟨by rw [e]; exact Nat.le_trans (Txt.slice_le z _ _) hz, fun t' k => by rw [e]; exact ⟨.str _, H, I.tok k, ⟨t', rfl⟩, q⟩⟩
  refine ⟨"str", _, F.slot_str_getitem.lookup, typeIs_str _ _ _, ?_⟩
  cases pl with
  | none =>
    cases pu with
    | none => exact wpAny_getItem_str_slice (l := none) (u := none) (st := none) hs rfl (fin _ _ _ rfl)
    | int j tj => exact wpAny_getItem_str_slice (l := none) (u := some (j, tj)) (st := none) hs rfl (fin _ _ _ rfl)
  | int i ti =>
    cases pu with
    | none => exact wpAny_getItem_str_slice (l := some (i, ti)) (u := none) (st := none) hs rfl (fin _ _ _ rfl)
    | int j tj => exact wpAny_getItem_str_slice (l := some (i, ti)) (u := some (j, tj)) (st := none) hs rfl (fin _ _ _ rfl)
theorem same_new {H : Hp} {p : Addr} (h : H p = none) (o : HO) : Same H (upd H p o) := fun b u q => by rw [upd_ne (ne_of_none q h)]; exact q
theorem Same.tupS {K : PySem.W.Frag} {H H' : Hp} {a : Addr} {xs : List V} (e : Same H H') (h : SqT K H a xs) : SqT K H' a xs := by
  rcases h with (h | ⟨o, h⟩) | h
  · exact .inl (.inl (e _ _ h))
  · exact .inl (.inr ⟨o, e _ _ h⟩)
  · exact .inr h
def rCatA : R2 := fun x y H Q => ∃ a b xs ys, x = .ref a /\ y = .ref b /\ H a = some (.tup xs) /\ H b = some (.tup ys) /\ xs.length + ys.length <= sizeLine /\
  ∀ p H', Same H H' -> H' p = some (.tup (xs ++ ys)) -> Q (.ref p) H'
theorem cat_tup0 {prog : Program} {w : World} {A : Around} {E : Value -> Shared -> Prop} {s : Shared} {t b : Addr} {vs ws : List Value} {Q : Value -> Shared -> Prop} (ht : IsTup s.heap t vs.toArray) (hb : IsTup s.heap b ws.toArray) (hv : vs = []) (h : Q (.ref b) s) :
    wpAny (model prog w) A (binaryOp .Add (.ref t) (.ref b)) Q E s := by
  obtain ⟨⟨cls, dd, data, sl⟩, ho, hc, n, hd⟩ := id ht
  obtain ⟨⟨cls2, dd2, data2, sl2⟩, ho2, hc2, n2, hd2⟩ := id hb
  simp only at hc hd hc2 hd2
  subst hc hd hc2 hd2
  refine concat_meets ⟨_, ho, rfl⟩ ⟨_, ho2, rfl⟩ noFill_tuple_add seq_tuple_add PySem.F.slot_tuple_add PySem.F.entry_tuple_add (PySem.F.args_tuple_add_2 _ _) (tuple_addW0 t b vs.toArray ws.toArray n n2 dd dd2 sl sl2 (by simp [hv])) ⟨ho, ho2, h⟩
theorem op_catA : OpR X (binaryOp .Add) rCatA := by
  intro pins s σ H x y v u Q I rx ry h
  obtain ⟨a, b, xs, ys, e1, e2, ha, hb, hz, q⟩ := h
  by_cases hx : xs = []
  · subst e1 e2 hx
    cases rx
    cases ry
    obtain ⟨its, r1, p1, _⟩ := I.tuple (.of ha)
    obtain ⟨its2, r2, p2, _⟩ := I.tuple (.of hb)
    exact cat_tup0 p1 p2 (by cases r1; rfl) ⟨.ref b, H, I, rfl, q b H (Same.refl H) hb⟩
  · refine op_catT pins s σ H x y v u Q I rx ry ⟨a, b, xs, ys, e1, e2, .of ha, .of hb, hx, hz, fun hy => q a H (Same.refl H) (by rw [hy, List.append_nil]; exact ha), fun _ p hp => q p _ (same_new hp _) upd_same⟩
theorem getItem_tuple_whole {prog : Program} {w : World} {A : Around} {E : Value -> Shared -> Prop} {s : Shared} {t sl : Addr} {items : Array Value} {vl vu : Value} {lo hi : Option Int} {Q : Value -> Shared -> Prop} (ht : IsTup s.heap t items) (hs : s.heap.IsSliceOf sl vl vu .none) (pl : IsPart vl lo) (pu : IsPart vu hi)
    (hw : HT.sIx items.size 0 lo = 0 /\ HT.sIx items.size items.size hi = items.size) (h : Q (.ref t) s) : wpAny (model prog w) A (getItem (.ref t) (.ref sl)) Q E s := by
  obtain ⟨os, hos, hcs, hds⟩ := id hs
  have hTs : s.TypeIs (.ref sl) "slice" := ⟨os, hos, hcs⟩
  unfold getItem
  try with_reducible refine wpAny_holding ?_
  first | refine wpAny_bind (wpAny_pure ?_) | skip
  refine wpAny_bind (wpAny_sequenceKey ht.typeIs (by decide) ?_)
  refine wpAny_bind (wpAny_callSpecial?_slot (name := Str.ofString "__getitem__") ht.typeIs PyProof.Rows.slot_tuple_getitem (wpAny_call_entry PyProof.Rows.slot_tuple_getitem ht.typeIs entry_tuple_getitem ?_ (args_tuple_getitem _ _)))
  show wpAny _ _ (Builtin.Tuple.tupleItemsOf (.ref t) >>= _) _ _ s
  refine wpAny_bind (tupleItemsOf_ ht ?_)
  refine wpAny_bind (wpAny_typeOf hTs ?_)
  rw [if_pos (by decide)]
  refine wpAny_bind (HT.sliceApplied_gen hs pl pu ?_)
  have yes : (((HT.sIx items.size 0 lo : Nat) : Int) == 0 && (1 : Int) == 1 && (HT.sIx items.size items.size hi - HT.sIx items.size 0 lo) == items.size) = true := by
    rw [hw.1, hw.2]
    simp
  show wpAny _ _ (if (((HT.sIx items.size 0 lo : Nat) : Int) == 0 && (1 : Int) == 1 && (HT.sIx items.size items.size hi - HT.sIx items.size 0 lo) == items.size) = true then _ else _) _ _ s
  rw [if_pos yes]
  show wpAny _ _ (Builtin.Tuple.tupleIsExact (.ref t) >>= _) _ _ s
  unfold Builtin.Tuple.tupleIsExact
  refine wpAny_bind (wpAny_bind (wpAny_typeOf ht.typeIs (wpAny_pure ?_)))
  rw [if_pos (by decide)]
  first
    | exact wpAny_bind (wpAny_rule (wpAny_pure ⟨_, rfl, wpAny_pure h⟩))
    | exact wpAny_bind (wpAny_rule (wpAny_bind (wpAny_pure (wpAny_pure ⟨_, rfl, wpAny_pure h⟩))))
    | exact wpAny_bind (wpAny_rule (wpAny_bind (wpAny_pure ⟨_, rfl, wpAny_pure h⟩)))
def rSlTA : V -> Option Int -> Option Int -> Hp -> VK -> Prop := fun x lo hi H Q => ∃ a xs, x = .ref a /\ H a = some (.tup xs) /\ ∀ p H', Same H H' -> H' p = some (.tup (cutV xs lo hi)) -> Q (.ref p) H'
theorem sl_tupA : SlR X rSlTA := by
  intro pins s σ H x v vl vu lo hi sl Q I rx hs pl pu h
  obtain ⟨a, xs, e, hx, q⟩ := h
  by_cases hw : HT.sIx xs.length 0 lo = 0 /\ HT.sIx xs.length xs.length hi = xs.length
  · subst e
    cases rx
    obtain ⟨its, r, ht, hz⟩ := I.tuple (.of hx)
    have hlen : its.toArray.size = xs.length := by rw [List.size_toArray]; exact r.length.symm
    refine ⟨"tuple", _, PyProof.Rows.slot_tuple_getitem.lookup, ht.typeIs, getItem_tuple_whole ht hs pl pu (by rw [hlen]; exact hw) ⟨.ref a, H, I, rfl, q a H (Same.refl H) ?_⟩⟩
    have ec : cutV xs lo hi = xs := by unfold cutV; rw [hw.1, hw.2]; simp
    rw [ec]
    exact hx
  · exact sl_tup pins s σ H x v vl vu lo hi sl Q I rx hs pl pu ⟨a, xs, e, .of hx, hw, fun p hp => q p _ (same_new hp _) upd_same⟩
end
end L2
namespace L2
open PySem PySem.Spec PyProof.Rows
section
variable {X : Cx}
theorem call_isinst : CallR X (.builtin "isinstance") (fun xs H Q => ∃ x T t b, xs = [x, .ty T] /\ TyOf X.K H x t /\ PySem.W.kitOne X.K t (.type T) = some b /\ Q (.bl b) H) := by
  intro pins s σ H xs us Q I r h
  obtain ⟨x, T, t, b, rfl, ty, e, q⟩ := h
  obtain ⟨u, w, rfl, ru, rw'⟩ := vals2 r
  cases rw'
  exact isinst_ok I ru ty e fun tk => ⟨.bl b, H, I.tok tk, rfl, q⟩
end
end L2
namespace L2
open PySem PySem.Spec PyProof.Rows
section
variable {X : Cx} {es : List Expr} {te : TE} {t : TA} {env : Env}
theorem starT {a : List Expr} {k : Nat} {p : Pos} : starEach (.Tuple a k p :: es) env = (false, eval (.Tuple a k p) env) :: starEach es env := by first | rfl | (rw [starEach]; intro _ _ z; cases z)
theorem paT {a : List Expr} {k : Nat} {p : Pos} (ha : PE X (.Tuple a k p) te) (hr : PA X es t) : PA X (.Tuple a k p :: es) (tCons te t) := pa_cons ha hr starT
theorem starL {a : List Expr} {p : Pos} : starEach (.List a p :: es) env = (false, eval (.List a p) env) :: starEach es env := by first | rfl | (rw [starEach]; intro _ _ z; cases z)
theorem paL {a : List Expr} {p : Pos} (ha : PE X (.List a p) te) (hr : PA X es t) : PA X (.List a p :: es) (tCons te t) := pa_cons ha hr starL
theorem starC {c : Const} {k : Nat} {p : Pos} : starEach (.Constant c k p :: es) env = (false, eval (.Constant c k p) env) :: starEach es env := by first | rfl | (rw [starEach]; intro _ _ z; cases z)
theorem paC {c : Const} {k : Nat} {p : Pos} (ha : PE X (.Constant c k p) te) (hr : PA X es t) : PA X (.Constant c k p :: es) (tCons te t) := pa_cons ha hr starC
theorem starN {x : Str} {p : Pos} : starEach (.Name x p :: es) env = (false, eval (.Name x p) env) :: starEach es env := by first | rfl | (rw [starEach]; intro _ _ z; cases z)
theorem paN {x : Str} {p : Pos} (ha : PE X (.Name x p) te) (hr : PA X es t) : PA X (.Name x p :: es) (tCons te t) := pa_cons ha hr starN
theorem starB {l r : Expr} {o : Operator} {p : Pos} : starEach (.BinOp l o r p :: es) env = (false, eval (.BinOp l o r p) env) :: starEach es env := by first | rfl | (rw [starEach]; intro _ _ z; cases z)
theorem paB {l r : Expr} {o : Operator} {p : Pos} (ha : PE X (.BinOp l o r p) te) (hr : PA X es t) : PA X (.BinOp l o r p :: es) (tCons te t) := pa_cons ha hr starB
theorem starS {v i : Expr} {p : Pos} : starEach (.Subscript v i p :: es) env = (false, eval (.Subscript v i p) env) :: starEach es env := by first | rfl | (rw [starEach]; intro _ _ z; cases z)
theorem paS {v i : Expr} {p : Pos} (ha : PE X (.Subscript v i p) te) (hr : PA X es t) : PA X (.Subscript v i p :: es) (tCons te t) := pa_cons ha hr starS
theorem starK {f : Expr} {a : List Expr} {k : List Keyword} {p : Pos} : starEach (.Call f a k p :: es) env = (false, eval (.Call f a k p) env) :: starEach es env := by first | rfl | (rw [starEach]; intro _ _ z; cases z)
theorem paK {f : Expr} {a : List Expr} {k : List Keyword} {p : Pos} (ha : PE X (.Call f a k p) te) (hr : PA X es t) : PA X (.Call f a k p :: es) (tCons te t) := pa_cons ha hr starK
theorem starU {o : UnaryOp} {v : Expr} {p : Pos} : starEach (.UnaryOp o v p :: es) env = (false, eval (.UnaryOp o v p) env) :: starEach es env := by first | rfl | (rw [starEach]; intro _ _ z; cases z)
theorem paU {o : UnaryOp} {v : Expr} {p : Pos} (ha : PE X (.UnaryOp o v p) te) (hr : PA X es t) : PA X (.UnaryOp o v p :: es) (tCons te t) := pa_cons ha hr starU
theorem starE {e : Expr} {g : List Comprehension} {s : Scope} {p : Pos} : starEach (.ListComp e g s p :: es) env = (false, eval (.ListComp e g s p) env) :: starEach es env := by first | rfl | (rw [starEach]; intro _ _ z; cases z)
theorem paE {e : Expr} {g : List Comprehension} {s : Scope} {p : Pos} (ha : PE X (.ListComp e g s p) te) (hr : PA X es t) : PA X (.ListComp e g s p :: es) (tCons te t) := pa_cons ha hr starE
theorem starJ {v : List Expr} {p : Pos} : starEach (.JoinedStr v p :: es) env = (false, eval (.JoinedStr v p) env) :: starEach es env := by first | rfl | (rw [starEach]; intro _ _ z; cases z)
theorem paJ {v : List Expr} {p : Pos} (ha : PE X (.JoinedStr v p) te) (hr : PA X es t) : PA X (.JoinedStr v p :: es) (tCons te t) := pa_cons ha hr starJ
end
end L2
namespace L2
open PySem PySem.Spec PyProof.Rows
theorem iteYd {p : Prop} [Decidable p] {A B : Prop} (h : p) (q : A) : if decide p = true then A else B := by rw [if_pos (decide_eq_true h)]; exact q
theorem iteNd {p : Prop} [Decidable p] {A B : Prop} (h : ¬ p) (q : B) : if decide p = true then A else B := by rw [if_neg (by rw [decide_eq_false h]; decide)]; exact q
theorem iteDd {p : Prop} [Decidable p] {A B : Prop} (h1 : p -> A) (h2 : ¬ p -> B) : if decide p = true then A else B := by
  by_cases h : p
  · exact iteYd h (h1 h)
  · exact iteNd h (h2 h)
section
variable {K : PySem.W.Frag}
theorem isd_str {H : Hp} (n : Str) : Isd K H (.fl (.str n)) (.str n) := by unfold Isd; exact ⟨rfl, rfl⟩
theorem isds_nil {H : Hp} : Isds K H [] [] := by unfold Isds; rfl
theorem isds_cons {H : Hp} {d : Da} {ds : List Da} {v : V} {vs : List V} (h : Isd K H d v) (t : Isds K H ds vs) : Isds K H (d :: ds) (v :: vs) := by unfold Isds; exact ⟨_, _, rfl, h, t⟩
theorem isds_strs {H : Hp} : ∀ ns : List Str, Isds K H (ns.map fun n => Da.fl (.str n)) (ns.map V.str)
  | [] => isds_nil
  | n :: ns => isds_cons (isd_str n) (isds_strs ns)
end
theorem dep_strs : ∀ ns : List Str, depDs (ns.map fun n => Da.fl (.str n)) = 0
  | [] => by unfold depDs; rfl
  | n :: ns => by
    rw [List.map_cons]
    unfold depDs
    rw [dep_strs ns]
    unfold depD
    rfl
theorem fits2 {n : Nat} (h : n <= 100000) : n <= sizeLine := Nat.le_trans h (by decide)
theorem fitsL {n : Nat} (h : n <= 100000) : n < sizeLine := Nat.lt_of_le_of_lt h (by decide)
theorem same_upd {H H' : Hp} {D : Addr} {o : HO} (hn : H D = none) (s : Same H H') : Same H (upd H' D o) := fun b u q => by rw [upd_ne (ne_of_none q hn)]; exact s b u q
end L2
namespace L2
open PySem PySem.Spec PyProof.Rows
section
variable {X : Cx}
theorem ints_items {its : List Value} {ns : List Int} (hi : IntsAre its ns) : ∃ xs : Array (Int × Tok), its.toArray = intItems xs /\ ns = xs.toList.map (·.1) := by
  obtain ⟨xs, e⟩ := hi.allInts.items
  exact ⟨xs, e, by rw [<- hi.numsOf, <- nums_intItems, <- e]⟩
theorem call_maxL (hc : X.calm = true) : CallR X (.builtin "max") (fun xs H Q => ∃ (p : Addr) (ns : List Int), xs = [.ref p] /\ SqL X.K H p (ns.map V.int) /\ ns ≠ [] /\ ∀ M, M ∈ ns -> (∀ a ∈ ns, a <= M) -> Q (.int M) H) := by
  intro pins s σ H xs us Q I r h
  obtain ⟨p, ns, rfl, hq, hne, q⟩ := h
  obtain ⟨u, rfl, ru⟩ := vals1 r
  cases ru
  obtain ⟨its, rv, pl, _⟩ := I.list hq
  obtain ⟨xs, e, hns⟩ := ints_items (intsAre_of rv)
  have hl := pl.isList
  rw [e] at hl
  have hsz : 0 < xs.size := by
    have z : 0 < ns.length := List.length_pos_iff.mpr hne
    rw [hns, List.length_map, Array.length_toList] at z
    exact z
  refine max_intList (I.ok.hd hc) hl hsz fun v h' tk hv hk => ?_
  obtain ⟨t, rfl⟩ := intItems_at hv
  obtain ⟨h1, h2⟩ := argBest_gt (numAt xs) (xs.size - 1)
  refine ⟨.int _, H, I.kept hk, ⟨t, rfl⟩, q _ ?_ fun a ha => ?_⟩
  · rw [hns, numAt_eq]
    exact getD_mem (by rw [List.length_map, Array.length_toList]; omega)
  · rw [hns] at ha
    obtain ⟨j, hj, rfl⟩ := mem_getD ha
    rw [List.length_map, Array.length_toList] at hj
    rw [<- numAt_eq]
    exact h2 j (by omega)
end
section
variable {prog : Program} {w : World} {A : Around} {R : Result -> Shared -> Prop} {I S l : Addr} {d : Value} {xs : Array (Int × Tok)}
end
section
variable {X : Cx}
theorem op_rep_str : OpR X (binaryOp .Mult) (fun x y H Q => ∃ z n, x = .str z /\ y = .int n /\ z.length <= 1000 /\ n <= 1000 /\ -1000 <= n /\ Q (.str (Txt.mul z n)) H) := by
  intro pins s σ H x y v u Q I rx ry h
  obtain ⟨z, n, rfl, rfl, h1, h2, h3, q⟩ := h
  obtain ⟨t, rfl⟩ := rx
  obtain ⟨t', rfl⟩ := ry
  refine SB.mul ⟨?_, fun hn _ => ?_, fun hn _ => ?_⟩ fun t' k => ⟨.str _, H, I.tok k, ⟨t', rfl⟩, q⟩
  · rw [decide_eq_false (by omega), decide_eq_false (by omega)]
    rfl
  · have e : (1000 : Int) <= (2 ^ 63 - 1) / n := Int.le_ediv_of_mul_le (by omega) (by omega)
    omega
  · have hle : z.length * n.toNat <= 1000 * 1000 := Nat.mul_le_mul h1 (by omega)
    unfold PySem.Builtin.Str.tooLong
    simp only [decide_eq_false_iff_not]
    rw [sizeLine_eq]
    omega
end
end L2
namespace L2
open PySem PySem.Spec PyProof.Rows
section
variable {X : Cx} {K : PySem.W.Frag}
theorem ix_tupC (h : X.K = K) : IxR X (rIxT K) := h ▸ ix_tup
theorem ix_listC (h : X.K = K) : IxR X (rIxL K) := h ▸ ix_list
end
theorem take_snoc {α : Type} {xs : List α} {i : Nat} {x : α} (h : xs[i]? = some x) : xs.take (i + 1) = xs.take i ++ [x] := by
  rw [List.take_add_one, h]
  rfl
theorem lt_of_some {α : Type} {xs : List α} {i : Nat} {x : α} (h : xs[i]? = some x) : i < xs.length := (List.getElem?_eq_some_iff.mp h).1
theorem some_of_lt {α : Type} {xs : List α} {i : Nat} (h : i < xs.length) : ∃ x, xs[i]? = some x := ⟨_, List.getElem?_eq_getElem h⟩
section
variable {K : PySem.W.Frag} {a : Addr} {xs ys : List V} {js : List Nat} {tc : TT} {te : TE} {σ : St} {Q : VK} {D : Addr} {H1 : Hp}
theorem comp_tupM (hz : xs.length < sizeLine) (hlen : ys.length = xs.length) (ha : SqT K H1 a xs) (hD : H1 D = none)
    (he : ∀ (i : Nat) (x y : V) (H : Hp), xs[i]? = some x -> ys[i]? = some y -> Same H1 H -> ∀ Q' : VK, (∀ H', Same H H' -> Q' y H') -> te (some x :: compS js σ) H Q')
    (hq : ∀ H', Same H1 H' -> H' D = some (.lst ys) -> Q (.ref D) H') : CompW (Itt K a) js tYes te σ Q D H1 := by
  refine comp_tpl (K := K) (a := a) (xs := xs) (fun i acc H => i <= xs.length /\ acc = ys.take i /\ Same H1 H /\ H D = some (.lst acc)) hz ⟨Nat.zero_le _, rfl, same_new hD _, upd_same⟩ (fun i acc H ⟨l, e, s, d⟩ => ⟨d, ?_, Same.tupS s ha⟩) ?_ ?_
  · rw [e, List.length_take]
    omega
  · rintro i m x acc H hi ⟨l, e, s, d⟩ hm
    have hlt := lt_of_some hi
    obtain ⟨y, hy⟩ := some_of_lt (xs := ys) (i := i) (by omega)
    exact he i x y H hi hy s _ fun H' s' => cstep hlt hm (s' _ _ d) ⟨hlt, by rw [e, take_snoc hy], same_upd hD (s.trans s'), upd_same⟩
  · rintro acc H ⟨l, e, s, d⟩
    rw [List.take_of_length_le (by omega)] at e
    exact hq H s (by rw [d, e])
theorem comp_lstM (hz : xs.length < sizeLine) (hlen : ys.length = xs.length) (ha : SqL K H1 a xs) (hD : H1 D = none)
    (he : ∀ (i : Nat) (x y : V) (H : Hp), xs[i]? = some x -> ys[i]? = some y -> Same H1 H -> ∀ Q' : VK, (∀ H', Same H H' -> Q' y H') -> te (some x :: compS js σ) H Q')
    (hq : ∀ H', Same H1 H' -> H' D = some (.lst ys) -> Q (.ref D) H') : CompW (Itl K a) js tYes te σ Q D H1 := by
  refine comp_lst (K := K) (a := a) (xs := xs) (fun i acc H => i <= xs.length /\ acc = ys.take i /\ Same H1 H /\ H D = some (.lst acc)) hz ⟨Nat.zero_le _, rfl, same_new hD _, upd_same⟩ (fun i acc H ⟨l, e, s, d⟩ => ⟨d, ?_, Same.seq s ha⟩) ?_ ?_
  · rw [e, List.length_take]
    omega
  · rintro i m x acc H hi ⟨l, e, s, d⟩ hm
    have hlt := lt_of_some hi
    obtain ⟨y, hy⟩ := some_of_lt (xs := ys) (i := i) (by omega)
    exact he i x y H hi hy s _ fun H' s' => cstep hlt hm (s' _ _ d) ⟨hlt, by rw [e, take_snoc hy], same_upd hD (s.trans s'), upd_same⟩
  · rintro acc H ⟨l, e, s, d⟩
    rw [List.take_of_length_le (by omega)] at e
    exact hq H s (by rw [d, e])
end
theorem cut_take {xs : List V} {k : Nat} (h : k <= xs.length) : cutV xs none (some (k : Int)) = xs.take k := by
  unfold cutV
  rw [HT.sIx_none, HT.sIx_nat, Nat.min_eq_left h]
  simp
theorem cut_drop {xs : List V} {k : Nat} (h : k <= xs.length) : cutV xs (some (k : Int)) none = xs.drop k := by
  unfold cutV
  rw [HT.sIx_none, HT.sIx_nat, Nat.min_eq_left h]
  rw [List.take_of_length_le (by rw [List.length_drop]; omega)]
theorem cut_take' (xs : List V) (k : Nat) : cutV xs none (some (k : Int)) = xs.take k := by
  by_cases h : k <= xs.length
  · exact cut_take h
  · unfold cutV
    rw [HT.sIx_none, HT.sIx_nat, Nat.min_eq_right (by omega), List.drop_zero, Nat.sub_zero, List.take_of_length_le (Nat.le_refl _), List.take_of_length_le (by omega)]
theorem cut_drop' (xs : List V) (k : Nat) : cutV xs (some (k : Int)) none = xs.drop k := by
  by_cases h : k <= xs.length
  · exact cut_drop h
  · unfold cutV
    rw [HT.sIx_none, HT.sIx_nat, Nat.min_eq_right (by omega), List.drop_of_length_le (Nat.le_refl _), List.drop_of_length_le (by omega)]
    exact List.take_nil
theorem atI_head {α : Type} (x : α) (r : List α) : atI (x :: r) 0 = some x := atI_nat (j := 0) rfl
end L2
namespace L2
open PySem PySem.Spec PyProof.Rows
structure QE (X : Cx) (e : Expr) (t : TE) : Prop where
  h : PE X e t
structure QA (X : Cx) (es : List Expr) (t : TA) : Prop where
  h : PA X es t
structure QS (X : Cx) (st : Stmt) (t : TS) : Prop where
  h : PS X st t
structure QSs (X : Cx) (b : List Stmt) (t : TS) : Prop where
  h : PSs X b t
structure QT (X : Cx) (e : Expr) (t : TT) : Prop where
  h : PT X e t
structure QW (X : Cx) (e : Expr) (t : TT) : Prop where
  h : PW X e t
structure QI (X : Cx) (tg iter : Expr) (t : TI) : Prop where
  h : PI X tg iter t
structure QG (X : Cx) (tg : Expr) (t : TG) : Prop where
  h : PG X tg t
structure QGs (X : Cx) (ts : List Expr) (t : TGs) : Prop where
  h : PGs X ts t
structure QO (X : Cx) (e : Option Expr) (t : TO) : Prop where
  h : PO X e t
structure QIf (X : Cx) (ifs : List Expr) (t : TT) : Prop where
  h : PIf X ifs t
theorem qss_cons {X : L2.Cx} {st : PySem.Stmt} {rest : List PySem.Stmt} {t : L2.TS} {u : L2.TS} (h1 : QS X st t) (h2 : QSs X rest u) : QSs X (st :: rest) (L2.tSeq t u) := ⟨@L2.pss_cons _ _ _ _ _ h1.h h2.h⟩
theorem qss_one {X : L2.Cx} {st : PySem.Stmt} {t : L2.TS} (h1 : QS X st t) : QSs X [st] t := ⟨@L2.pss_one _ _ _ h1.h⟩
theorem qs_set {X : L2.Cx} {pos : PySem.Pos} {i : Nat} {x : PySem.Str} {e : PySem.Expr} {te : L2.TE} {pos' : PySem.Pos} (hN : List.Nodup (L2.Cx.N X)) (hi : (L2.Cx.N X)[i]? = Option.some x) (hx : L2.Loc (PySem.Env.scope (L2.Cx.env X)) x) (he : QE X e te) (hs : PySem.swapsWith e (Option.some (PySem.Expr.Name x pos')) (PySem.Pos.line pos) (L2.Cx.env X) = Pure.pure Bool.false := by rfl) (hf : L2.Cx.fn X x = Bool.true \/ List.lookup x (PySem.Scope.names (PySem.Env.scope (L2.Cx.env X))) = Option.some PySem.NameKind.local := by first | exact .inl rfl | exact .inr rfl | assumption) : QS X (PySem.Stmt.Assign [PySem.Expr.Name x pos'] e pos) (L2.tAsg te (L2.gName i)) := ⟨@L2.ps_set _ _ _ _ _ _ _ hN hi hx he.h hs hf⟩
theorem qs_asg {X : L2.Cx} {pos : PySem.Pos} {tg : PySem.Expr} {e : PySem.Expr} {te : L2.TE} {g : L2.TG} (he : QE X e te) (hg : QG X tg g) (hs : PySem.swapsWithSole [tg] e (PySem.Pos.line pos) (L2.Cx.env X) = Pure.pure Bool.false := by rfl) (hw : PySem.swappedStores [tg] e (L2.Cx.env X) = Pure.pure Option.none := by rfl) (h1 : List.map (fun (x : Bool × (PySem.Value -> PySem.Sem Unit)) => Prod.snd x) (PySem.assignEach [tg] (L2.Cx.env X)) = [PySem.assign tg (L2.Cx.env X)] := by rfl) : QS X (PySem.Stmt.Assign [tg] e pos) (L2.tAsg te g) := ⟨@L2.ps_asg _ _ _ _ _ _ he.h hg.h hs hw h1⟩
theorem qs_expr {X : L2.Cx} {e : PySem.Expr} {te : L2.TE} {pos : PySem.Pos} (he : QE X e te) (hs : PySem.swapsWith e Option.none (PySem.Pos.line pos) (L2.Cx.env X) = Pure.pure Bool.false := by rfl) : QS X (PySem.Stmt.Expr e pos) (L2.tDrop te) := ⟨@L2.ps_expr _ _ _ _ he.h hs⟩
theorem qs_ret {X : L2.Cx} {e : PySem.Expr} {te : L2.TE} {pos : PySem.Pos} (he : QE X e te) : QS X (PySem.Stmt.Return (Option.some e) pos) (L2.tRet te) := ⟨@L2.ps_ret _ _ _ _ he.h⟩
theorem qs_if {X : L2.Cx} {t : L2.TS} {u : L2.TS} {pos : PySem.Pos} {c : PySem.Expr} {a : List PySem.Stmt} {b : List PySem.Stmt} {tc : L2.TT} (hc : QT X c tc) (ha : QSs X a t) (hb : QSs X b u) : QS X (PySem.Stmt.If c a b pos) (L2.tIfS tc t u) := ⟨@L2.ps_if _ _ _ _ _ _ _ _ hc.h ha.h hb.h⟩
theorem qs_for {X : L2.Cx} {tg : PySem.Expr} {iter : PySem.Expr} {body : List PySem.Stmt} {wi : L2.TI} {g : L2.TG} {tb : L2.TS} {pos : PySem.Pos} (hp : PySem.PassesOwn (PySem.model (L2.Cx.prog X) (L2.Cx.w X)) (L2.Cx.A X) (L2.Cx.env X) (L2.Cx.xe X)) (hc : L2.Cx.calm X = Bool.true) (hi : QI X tg iter wi) (hg : QG X tg g) (hb : QSs X body tb) (hs : ∀ (x : PySem.Value), PySem.foldedSetIterable iter (L2.Cx.env X) x = Pure.pure x := by intro _; rfl) : QS X (PySem.Stmt.For tg iter body [] pos) (L2.tFor wi g tb) := ⟨@L2.ps_for _ _ _ _ _ _ _ _ hp hc hi.h hg.h hb.h hs⟩
theorem qs_while {X : L2.Cx} {pos : PySem.Pos} {c : PySem.Expr} {body : List PySem.Stmt} {tc : L2.TT} {tb : L2.TS} (hp : PySem.PassesOwn (PySem.model (L2.Cx.prog X) (L2.Cx.w X)) (L2.Cx.A X) (L2.Cx.env X) (L2.Cx.xe X)) (hc : QT X c tc) (hb : QSs X body tb) : QS X (PySem.Stmt.While c body [] pos) (L2.tWhile tc tb) := ⟨@L2.ps_while _ _ _ _ _ _ hp hc.h hb.h⟩
theorem qe_op {X : L2.Cx} {a : PySem.Expr} {b : PySem.Expr} {ta : L2.TE} {tb : L2.TE} {pos : PySem.Pos} {op : PySem.Operator} {r : L2.R2} (ho : L2.OpR X (PySem.binaryOp op) r) (ha : QE X a ta) (hb : QE X b tb) : QE X (PySem.Expr.BinOp a op b pos) (L2.tOp r ta tb) := ⟨@L2.pe_op _ _ _ _ _ _ _ _ ho ha.h hb.h⟩
theorem qe_un {X : L2.Cx} {a : PySem.Expr} {ta : L2.TE} {pos : PySem.Pos} {op : PySem.UnaryOp} {r : L2.V -> L2.Hp -> L2.VK -> Prop} (ho : L2.UnR X (PySem.unaryOp op) r) (ha : QE X a ta) : QE X (PySem.Expr.UnaryOp op a pos) (L2.tUn r ta) := ⟨@L2.pe_un _ _ _ _ _ _ ho ha.h⟩
theorem qe_not {X : L2.Cx} {a : PySem.Expr} {ta : L2.TE} {pos : PySem.Pos} (ha : QE X a ta) : QE X (PySem.Expr.UnaryOp PySem.UnaryOp.Not a pos) (L2.tNotV ta) := ⟨@L2.pe_not _ _ _ _ ha.h⟩
theorem qe_one {X : L2.Cx} {a : PySem.Expr} {pos : PySem.Pos} {op : PySem.BoolOp} {t : L2.TE} (h : QE X a t) : QE X (PySem.Expr.BoolOp op [a] pos) t := ⟨@L2.pe_one _ _ _ _ _ h.h⟩
theorem qe_and {X : L2.Cx} {a : PySem.Expr} {b : PySem.Expr} {ta : L2.TE} {tb : L2.TE} {pos : PySem.Pos} {rest : List PySem.Expr} (ha : QE X a ta) (hb : QE X (PySem.Expr.BoolOp PySem.BoolOp.And (b :: rest) pos) tb) : QE X (PySem.Expr.BoolOp PySem.BoolOp.And (a :: b :: rest) pos) (L2.tAndV ta tb) := ⟨@L2.pe_and _ _ _ _ _ _ _ ha.h hb.h⟩
theorem qe_cmpR {X : L2.Cx} {a : PySem.Expr} {b : PySem.Expr} {ta : L2.TE} {tb : L2.TE} {pos : PySem.Pos} {op : PySem.CmpOp} {r : L2.R2} (ho : L2.OpR X (PySem.compareOp op) r) (ha : QE X a ta) (hb : QE X b tb) (hm : PySem.behindInMarks op b = Bool.false) : QE X (PySem.Expr.Compare a [op] [b] pos) (L2.tOp r ta tb) := ⟨@L2.pe_cmpR _ _ _ _ _ _ _ _ ho ha.h hb.h hm⟩
theorem qe_lst {X : L2.Cx} {es : List PySem.Expr} {t : L2.TA} {pos : PySem.Pos} (h : QA X es t) : QE X (PySem.Expr.List es pos) (L2.tLst t) := ⟨@L2.pe_lst _ _ _ _ h.h⟩
theorem qe_tup {X : L2.Cx} {es : List PySem.Expr} {t : L2.TA} {pos : PySem.Pos} {x1 : Nat} (h : QA X es t) : QE X (PySem.Expr.Tuple es x1 pos) (L2.tTup t) := ⟨@L2.pe_tup _ _ _ _ _ h.h⟩
theorem qe_slice {X : L2.Cx} {e : PySem.Expr} {te : L2.TE} {lo : Option PySem.Expr} {hi : Option PySem.Expr} {tl : L2.TO} {th : L2.TO} {pos : PySem.Pos} {p2 : PySem.Pos} {r : L2.V -> Option Int -> Option Int -> L2.Hp -> L2.VK -> Prop} (hr : L2.SlR X r) (he : QE X e te) (hl : QO X lo tl) (hu : QO X hi th) : QE X (PySem.Expr.Subscript e (PySem.Expr.Slice lo hi Option.none p2) pos) (L2.tSl r te tl th) := ⟨@L2.pe_slice _ _ _ _ _ _ _ _ _ _ hr he.h hl.h hu.h⟩
theorem qe_ix {X : L2.Cx} {a : PySem.Expr} {b : PySem.Expr} {ta : L2.TE} {tb : L2.TE} {pos : PySem.Pos} {r : L2.R2} (hr : L2.IxR X r) (ha : QE X a ta) (hb : QE X b tb) (hs : L2.PlainIx b) : QE X (PySem.Expr.Subscript a b pos) (L2.tOp r ta tb) := ⟨@L2.pe_ix _ _ _ _ _ _ _ hr ha.h hb.h hs⟩
theorem qe_comp {X : L2.Cx} {elt : PySem.Expr} {iter : PySem.Expr} {ifs : List PySem.Expr} {sc : PySem.Scope} {pos : PySem.Pos} {px : PySem.Pos} {t : PySem.Str} {ys : List PySem.Str} {js : List Nat} {wi : L2.TI} {tc : L2.TT} {te : L2.TE} (hc : L2.Cx.calm X = Bool.true) (hck : L2.compChk (L2.Cx.N X) (PySem.Env.scope (L2.Cx.env X)) sc t ys js = Bool.true) (hi : QI X (PySem.Expr.Name t px) iter wi) (hf : ∀ (cl : List (PySem.Str × PySem.Addr)) (C : PySem.Addr) (s : PySem.Shared) (H : L2.Hp) (fp : List PySem.Addr), QIf (L2.Cx.comp X sc cl C (t :: ys) s H fp) ifs tc) (he : ∀ (cl : List (PySem.Str × PySem.Addr)) (C : PySem.Addr) (s : PySem.Shared) (H : L2.Hp) (fp : List PySem.Addr), QE (L2.Cx.comp X sc cl C (t :: ys) s H fp) elt te) (hs : ∀ (x : PySem.Value), PySem.foldedSetIterable iter (L2.Cx.env X) x = Pure.pure x := by intro _; rfl) : QE X (PySem.Expr.ListComp elt [{ target := PySem.Expr.Name t px, iter := iter, ifs := ifs, is_async := 0 }] sc pos) (L2.tComp wi js tc te) := ⟨@L2.pe_comp _ _ _ _ _ _ _ _ _ _ _ _ _ hc hck hi.h (fun cl C s H fp => (hf cl C s H fp).h) (fun cl C s H fp => (he cl C s H fp).h) hs⟩
theorem qe_call {X : L2.Cx} {CX : L2.CXT} {k : Nat} {f : PySem.Addr} {fd : PySem.FuncData} {ps : List PySem.Str} {sp : L2.Sp} {dvs : List L2.V} {ds : List PySem.Value} {E : L2.XK} {x : PySem.Str} {p : PySem.Pos} {pos : PySem.Pos} {e : PySem.Expr} {es : List PySem.Expr} {t : L2.TA} (F : L2.FnOk (L2.Cx.prog X) (L2.Cx.w X) (L2.Cx.K X) (L2.Cx.mg X) (L2.Cx.base X) CX k f fd ps sp) (hr : L2.Room k (L2.Cx.A X)) (hg : L2.Gl X x) (hm : L2.Cx.mg X x = Option.some (PySem.Value.ref f)) (hk : PySem.W.keepIn (L2.Cx.K X) (PySem.Value.ref f) = Bool.true) (hb : L2.Binds (L2.Cx.K X) fd ps ds) (hd : L2.Vals dvs ds) (hx : L2.Passes CX X E) (ha : QA X (e :: es) t) (hdb : (x == PySem.Str.ofString "__debug__") = Bool.false := by decide) (he : PySem.starEach (e :: es) (L2.Cx.env X) = (Bool.false, PySem.eval e (L2.Cx.env X)) :: PySem.starEach es (L2.Cx.env X) := by rfl) (hpl : (List.any (PySem.backTo pos (PySem.starEach es (L2.Cx.env X))) fun (x : Bool × PySem.Sem PySem.Value) => Prod.fst x) = Bool.false := by rfl) : QE X (PySem.Expr.Call (PySem.Expr.Name x p) (e :: es) [] pos) (L2.tCall sp dvs E t) := ⟨@L2.pe_call _ _ _ _ _ _ _ _ _ _ _ _ _ _ _ _ F hr hg hm hk hb hd hx ha.h hdb he hpl⟩
theorem qe_callB {X : L2.Cx} {x : PySem.Str} {p : PySem.Pos} {pos : PySem.Pos} {e : PySem.Expr} {es : List PySem.Expr} {t : L2.TA} {id : String} {r : List L2.V -> L2.Hp -> L2.VK -> Prop} (hc : L2.CallR X (PySem.Value.builtin id) r) (hg : L2.Gl X x) (hm : L2.Cx.mg X x = Option.none) (hv : PySem.bootBuiltins x = Option.some (PySem.Value.builtin id)) (ha : QA X (e :: es) t) (hn : x ≠ PySem.Str.ofString "__name__" := by decide) (hdb : (x == PySem.Str.ofString "__debug__") = Bool.false := by decide) (he : PySem.starEach (e :: es) (L2.Cx.env X) = (Bool.false, PySem.eval e (L2.Cx.env X)) :: PySem.starEach es (L2.Cx.env X) := by rfl) (hpl : (List.any (PySem.backTo pos (PySem.starEach es (L2.Cx.env X))) fun (x : Bool × PySem.Sem PySem.Value) => Prod.fst x) = Bool.false := by rfl) : QE X (PySem.Expr.Call (PySem.Expr.Name x p) (e :: es) [] pos) (L2.tCB r t) := ⟨@L2.pe_callB _ _ _ _ _ _ _ _ _ hc hg hm hv ha.h hn hdb he hpl⟩
theorem qe_callTy {X : L2.Cx} {x : PySem.Str} {p : PySem.Pos} {pos : PySem.Pos} {e : PySem.Expr} {es : List PySem.Expr} {t : L2.TA} {T : String} {r : List L2.V -> L2.Hp -> L2.VK -> Prop} (hc : L2.CallR X (PySem.Value.type T) r) (hg : L2.Gl X x) (hm : L2.Cx.mg X x = Option.none) (hv : PySem.bootBuiltins x = Option.some (PySem.Value.type T)) (ha : QA X (e :: es) t) (hn : x ≠ PySem.Str.ofString "__name__" := by decide) (hdb : (x == PySem.Str.ofString "__debug__") = Bool.false := by decide) (he : PySem.starEach (e :: es) (L2.Cx.env X) = (Bool.false, PySem.eval e (L2.Cx.env X)) :: PySem.starEach es (L2.Cx.env X) := by rfl) (hpl : (List.any (PySem.backTo pos (PySem.starEach es (L2.Cx.env X))) fun (x : Bool × PySem.Sem PySem.Value) => Prod.fst x) = Bool.false := by rfl) : QE X (PySem.Expr.Call (PySem.Expr.Name x p) (e :: es) [] pos) (L2.tCB r t) := ⟨@L2.pe_callTy _ _ _ _ _ _ _ _ _ hc hg hm hv ha.h hn hdb he hpl⟩
theorem qe_bm {X : L2.Cx} {o : PySem.Expr} {e : PySem.Expr} {es : List PySem.Expr} {to : L2.TE} {t : L2.TA} {name : PySem.Str} {apos : PySem.Pos} {cpos : PySem.Pos} {T : String} {id : String} {r : L2.V -> List L2.V -> L2.Hp -> L2.VK -> Prop} (pa : PySem.PlainAttrs T) (slot : PySem.Slot T name id) (hty : PySem.typeOf (PySem.Value.builtin id) = Pure.pure (PySem.Value.type "method_descriptor")) (hm : L2.MtR X id r) (ho : QE X o to) (ha : QA X (e :: es) t) (hbase : PySem.attributeBase o name (L2.Cx.env X) (PySem.eval o (L2.Cx.env X)) = PySem.eval o (L2.Cx.env X) := by rfl) (hfew : (((List.all (PySem.backTo cpos (PySem.starEach (e :: es) (L2.Cx.env X))) fun (x : Bool × PySem.Sem PySem.Value) => !Prod.fst x) && List.all (PySem.backToKw cpos (PySem.keywordEach [] (L2.Cx.env X))) fun (x : Option PySem.Str × PySem.Sem PySem.Value) => Option.isSome (Prod.fst x)) && Decidable.decide ((List.length (e :: es) + List.length ([] : List PySem.Keyword) + if List.isEmpty ([] : List PySem.Keyword) = Bool.true then 0 else 1) < 30)) = Bool.true := by rfl) (hline : (PySem.Pos.endLine apos == PySem.Pos.line cpos) = Bool.true := by rfl) (hs : PySem.starEach (e :: es) (L2.Cx.env X) = (Bool.false, PySem.eval e (L2.Cx.env X)) :: PySem.starEach es (L2.Cx.env X) := by rfl) (hplain : (List.any (PySem.backTo cpos (PySem.starEach es (L2.Cx.env X))) fun (x : Bool × PySem.Sem PySem.Value) => Prod.fst x) = Bool.false := by rfl) : QE X (PySem.Expr.Call (PySem.Expr.Attribute o name apos) (e :: es) [] cpos) (L2.tBM (L2.Cx.K X) T r to t) := ⟨@L2.pe_bm _ _ _ _ _ _ _ _ _ _ _ _ pa slot hty hm ho.h ha.h hbase hfew hline hs hplain⟩
theorem qe_bm0 {X : L2.Cx} {o : PySem.Expr} {to : L2.TE} {name : PySem.Str} {apos : PySem.Pos} {cpos : PySem.Pos} {T : String} {id : String} {r : L2.V -> List L2.V -> L2.Hp -> L2.VK -> Prop} (pa : PySem.PlainAttrs T) (slot : PySem.Slot T name id) (hty : PySem.typeOf (PySem.Value.builtin id) = Pure.pure (PySem.Value.type "method_descriptor")) (hm : L2.MtR X id r) (ho : QE X o to) (hbase : PySem.attributeBase o name (L2.Cx.env X) (PySem.eval o (L2.Cx.env X)) = PySem.eval o (L2.Cx.env X) := by rfl) (hline : (PySem.Pos.endLine apos == PySem.Pos.line cpos) = Bool.true := by rfl) : QE X (PySem.Expr.Call (PySem.Expr.Attribute o name apos) [] [] cpos) (L2.tBM0 (L2.Cx.K X) T r to) := ⟨@L2.pe_bm0 _ _ _ _ _ _ _ _ _ pa slot hty hm ho.h hbase hline⟩
theorem qt_not {X : L2.Cx} {a : PySem.Expr} {pos : PySem.Pos} {tA : L2.TT} (ha : QT X a tA) : QT X (PySem.Expr.UnaryOp PySem.UnaryOp.Not a pos) (L2.tNot tA) := ⟨@L2.pt_not _ _ _ _ ha.h⟩
theorem qt_val {X : L2.Cx} {e : PySem.Expr} {t : L2.TE} (h : QE X e t) (he : ∀ (whole : PySem.Sem PySem.Value), PySem.isTrue e (L2.Cx.env X) whole = (do let v <- whole; PySem.standAt (PySem.Expr.pos e); PySem.holding [v] (PySem.truthy v)) := by intro _; rfl) : QT X e (L2.tB t) := ⟨@L2.pt_val _ _ _ h.h he⟩
theorem qt_cmpR {X : L2.Cx} {a : PySem.Expr} {b : PySem.Expr} {ta : L2.TE} {tb : L2.TE} {pos : PySem.Pos} {op : PySem.CmpOp} {r : L2.R2} (ho : L2.OpR X (PySem.compareOp op) r) (ha : QE X a ta) (hb : QE X b tb) (hm : PySem.behindInMarks op b = Bool.false) : QT X (PySem.Expr.Compare a [op] [b] pos) (L2.tTest (L2.tOp r ta tb)) := ⟨@L2.pt_cmpR _ _ _ _ _ _ _ _ ho ha.h hb.h hm⟩
theorem qw_and {X : L2.Cx} {a : PySem.Expr} {b : PySem.Expr} {pos : PySem.Pos} {tA : L2.TT} {tB' : L2.TT} {rest : List PySem.Expr} (ha : QT X a tA) (hb : QW X (PySem.Expr.BoolOp PySem.BoolOp.And (b :: rest) pos) tB') : QW X (PySem.Expr.BoolOp PySem.BoolOp.And (a :: b :: rest) pos) (L2.tAnd tA tB') := ⟨@L2.pw_and _ _ _ _ _ _ _ ha.h hb.h⟩
theorem qw_or {X : L2.Cx} {a : PySem.Expr} {b : PySem.Expr} {pos : PySem.Pos} {tA : L2.TT} {tB' : L2.TT} {rest : List PySem.Expr} (ha : QT X a tA) (hb : QW X (PySem.Expr.BoolOp PySem.BoolOp.Or (b :: rest) pos) tB') : QW X (PySem.Expr.BoolOp PySem.BoolOp.Or (a :: b :: rest) pos) (L2.tOr tA tB') := ⟨@L2.pw_or _ _ _ _ _ _ _ ha.h hb.h⟩
theorem qw_and1 {X : L2.Cx} {a : PySem.Expr} {pos : PySem.Pos} {tA : L2.TT} (ha : QT X a tA) : QW X (PySem.Expr.BoolOp PySem.BoolOp.And [a] pos) tA := ⟨@L2.pw_and1 _ _ _ _ ha.h⟩
theorem qw_or1 {X : L2.Cx} {a : PySem.Expr} {pos : PySem.Pos} {tA : L2.TT} (ha : QT X a tA) : QW X (PySem.Expr.BoolOp PySem.BoolOp.Or [a] pos) tA := ⟨@L2.pw_or1 _ _ _ _ ha.h⟩
theorem qw_pt {X : L2.Cx} {e : PySem.Expr} {t : L2.TT} (h : QW X e t) : QT X e t := ⟨@L2.PW.pt _ _ _ h.h⟩
theorem qo_some {X : L2.Cx} {e : PySem.Expr} {te : L2.TE} (h : QE X e te) : QO X (Option.some e) (L2.tPart te) := ⟨@L2.po_some _ _ _ h.h⟩
theorem qi_list {X : L2.Cx} {tg : PySem.Expr} {l : PySem.Expr} {tl : L2.TE} (hl : QE X l tl) : QI X tg l (L2.iList (L2.Cx.K X) tl) := ⟨@L2.pi_list _ _ _ _ hl.h⟩
theorem qi_tup {X : L2.Cx} {tg : PySem.Expr} {l : PySem.Expr} {tl : L2.TE} (hl : QE X l tl) : QI X tg l (L2.iTup (L2.Cx.K X) tl) := ⟨@L2.pi_tup _ _ _ _ hl.h⟩
theorem qi_range1 {X : L2.Cx} {tg : PySem.Expr} {a : PySem.Expr} {ta : L2.TA} {p : PySem.Pos} {pos : PySem.Pos} (hg : L2.Gl X (PySem.Str.ofString "range")) (hm : L2.Cx.mg X (PySem.Str.ofString "range") = Option.none) (ha : QA X [a] ta) (hs : PySem.starEach [a] (L2.Cx.env X) = [(Bool.false, PySem.eval a (L2.Cx.env X))] := by rfl) : QI X tg (PySem.Expr.Call (PySem.Expr.Name (PySem.Str.ofString "range") p) [a] [] pos) (L2.iRng1 ta) := ⟨@L2.pi_range1 _ _ _ _ _ _ hg hm ha.h hs⟩
theorem qi_range2 {X : L2.Cx} {tg : PySem.Expr} {a : PySem.Expr} {b : PySem.Expr} {ta : L2.TA} {p : PySem.Pos} {pos : PySem.Pos} (hg : L2.Gl X (PySem.Str.ofString "range")) (hm : L2.Cx.mg X (PySem.Str.ofString "range") = Option.none) (ha : QA X [a, b] ta) (hs : PySem.starEach [a, b] (L2.Cx.env X) = [(Bool.false, PySem.eval a (L2.Cx.env X)), (Bool.false, PySem.eval b (L2.Cx.env X))] := by rfl) (hs2 : PySem.starEach [b] (L2.Cx.env X) = [(Bool.false, PySem.eval b (L2.Cx.env X))] := by rfl) : QI X tg (PySem.Expr.Call (PySem.Expr.Name (PySem.Str.ofString "range") p) [a, b] [] pos) (L2.iRng2 ta) := ⟨@L2.pi_range2 _ _ _ _ _ _ _ hg hm ha.h hs hs2⟩
theorem qg_name {X : L2.Cx} {pos : PySem.Pos} {i : Nat} {x : PySem.Str} (hN : List.Nodup (L2.Cx.N X)) (hi : (L2.Cx.N X)[i]? = Option.some x) (hx : L2.Loc (PySem.Env.scope (L2.Cx.env X)) x) (hf : L2.Cx.fn X x = Bool.true \/ List.lookup x (PySem.Scope.names (PySem.Env.scope (L2.Cx.env X))) = Option.some PySem.NameKind.local := by first | exact .inl rfl | exact .inr rfl | assumption) : QG X (PySem.Expr.Name x pos) (L2.gName i) := ⟨@L2.pg_name _ _ _ _ hN hi hx hf⟩
theorem qg_sub {X : L2.Cx} {pos : PySem.Pos} {o : PySem.Expr} {i : PySem.Expr} {to : L2.TE} {ti : L2.TE} {t : L2.TSet} (ho : QE X o to) (hi : QE X i ti) (hs : L2.PSet X t) (ha : ∀ (v : PySem.Value), PySem.assign (PySem.Expr.Subscript o i pos) (L2.Cx.env X) v = (do let ov <- PySem.holding [v] (PySem.eval o (L2.Cx.env X)); let iv <- PySem.holding [v, ov] (PySem.eval i (L2.Cx.env X)); PySem.standAt pos; PySem.holding [v, ov, iv] (PySem.setItem ov iv v); PySem.release [v, ov, iv] []) := by intro _; rfl) : QG X (PySem.Expr.Subscript o i pos) (L2.gSub to ti t) := ⟨@L2.pg_sub _ _ _ _ _ _ _ ho.h hi.h hs ha⟩
theorem qg_tup {X : L2.Cx} {pos : PySem.Pos} {es : List PySem.Expr} {k : Nat} {t : L2.TGs} {n : Nat} (hc : L2.Cx.calm X = Bool.true) (h : QGs X es t) (hn : List.length (PySem.assignEach es (L2.Cx.env X)) = n := by rfl) (hst : List.findIdx? (fun (x : Bool × (PySem.Value -> PySem.Sem Unit)) => Prod.fst x) (PySem.assignEach es (L2.Cx.env X)) = Option.none := by rfl) : QG X (PySem.Expr.Tuple es k pos) (L2.gTup (L2.Cx.K X) n t) := ⟨@L2.pg_tup _ _ _ _ _ _ hc h.h hn hst⟩
theorem qgs_cons {X : L2.Cx} {e : PySem.Expr} {es : List PySem.Expr} {t : L2.TG} {u : L2.TGs} (h1 : QG X e t) (h2 : QGs X es u) (hs : List.map (fun (x : Bool × (PySem.Value -> PySem.Sem Unit)) => Prod.snd x) (PySem.assignEach (e :: es) (L2.Cx.env X)) = PySem.assign e (L2.Cx.env X) :: List.map (fun (x : Bool × (PySem.Value -> PySem.Sem Unit)) => Prod.snd x) (PySem.assignEach es (L2.Cx.env X)) := by rfl) : QGs X (e :: es) (L2.gCons t u) := ⟨@L2.pgs_cons _ _ _ _ _ h1.h h2.h hs⟩
theorem qif_one {X : L2.Cx} {c : PySem.Expr} {t : L2.TT} (h : QT X c t) : QIf X [c] t := ⟨@L2.pif_one _ _ _ h.h⟩
theorem qaT {X : L2.Cx} {es : List PySem.Expr} {te : L2.TE} {t : L2.TA} {a : List PySem.Expr} {k : Nat} {p : PySem.Pos} (ha : QE X (PySem.Expr.Tuple a k p) te) (hr : QA X es t) : QA X (PySem.Expr.Tuple a k p :: es) (L2.tCons te t) := ⟨@L2.paT _ _ _ _ _ _ _ ha.h hr.h⟩
theorem qaL {X : L2.Cx} {es : List PySem.Expr} {te : L2.TE} {t : L2.TA} {a : List PySem.Expr} {p : PySem.Pos} (ha : QE X (PySem.Expr.List a p) te) (hr : QA X es t) : QA X (PySem.Expr.List a p :: es) (L2.tCons te t) := ⟨@L2.paL _ _ _ _ _ _ ha.h hr.h⟩
theorem qaC {X : L2.Cx} {es : List PySem.Expr} {te : L2.TE} {t : L2.TA} {c : PySem.Const} {k : Nat} {p : PySem.Pos} (ha : QE X (PySem.Expr.Constant c k p) te) (hr : QA X es t) : QA X (PySem.Expr.Constant c k p :: es) (L2.tCons te t) := ⟨@L2.paC _ _ _ _ _ _ _ ha.h hr.h⟩
theorem qaN {X : L2.Cx} {es : List PySem.Expr} {te : L2.TE} {t : L2.TA} {x : PySem.Str} {p : PySem.Pos} (ha : QE X (PySem.Expr.Name x p) te) (hr : QA X es t) : QA X (PySem.Expr.Name x p :: es) (L2.tCons te t) := ⟨@L2.paN _ _ _ _ _ _ ha.h hr.h⟩
theorem qaB {X : L2.Cx} {es : List PySem.Expr} {te : L2.TE} {t : L2.TA} {l : PySem.Expr} {r : PySem.Expr} {o : PySem.Operator} {p : PySem.Pos} (ha : QE X (PySem.Expr.BinOp l o r p) te) (hr : QA X es t) : QA X (PySem.Expr.BinOp l o r p :: es) (L2.tCons te t) := ⟨@L2.paB _ _ _ _ _ _ _ _ ha.h hr.h⟩
theorem qaS {X : L2.Cx} {es : List PySem.Expr} {te : L2.TE} {t : L2.TA} {v : PySem.Expr} {i : PySem.Expr} {p : PySem.Pos} (ha : QE X (PySem.Expr.Subscript v i p) te) (hr : QA X es t) : QA X (PySem.Expr.Subscript v i p :: es) (L2.tCons te t) := ⟨@L2.paS _ _ _ _ _ _ _ ha.h hr.h⟩
theorem qaK {X : L2.Cx} {es : List PySem.Expr} {te : L2.TE} {t : L2.TA} {f : PySem.Expr} {a : List PySem.Expr} {k : List PySem.Keyword} {p : PySem.Pos} (ha : QE X (PySem.Expr.Call f a k p) te) (hr : QA X es t) : QA X (PySem.Expr.Call f a k p :: es) (L2.tCons te t) := ⟨@L2.paK _ _ _ _ _ _ _ _ ha.h hr.h⟩
theorem qaU {X : L2.Cx} {es : List PySem.Expr} {te : L2.TE} {t : L2.TA} {o : PySem.UnaryOp} {v : PySem.Expr} {p : PySem.Pos} (ha : QE X (PySem.Expr.UnaryOp o v p) te) (hr : QA X es t) : QA X (PySem.Expr.UnaryOp o v p :: es) (L2.tCons te t) := ⟨@L2.paU _ _ _ _ _ _ _ ha.h hr.h⟩
theorem qaE {X : L2.Cx} {es : List PySem.Expr} {te : L2.TE} {t : L2.TA} {e : PySem.Expr} {g : List PySem.Comprehension} {s : PySem.Scope} {p : PySem.Pos} (ha : QE X (PySem.Expr.ListComp e g s p) te) (hr : QA X es t) : QA X (PySem.Expr.ListComp e g s p :: es) (L2.tCons te t) := ⟨@L2.paE _ _ _ _ _ _ _ _ ha.h hr.h⟩
theorem qaJ {X : L2.Cx} {es : List PySem.Expr} {te : L2.TE} {t : L2.TA} {v : List PySem.Expr} {p : PySem.Pos} (ha : QE X (PySem.Expr.JoinedStr v p) te) (hr : QA X es t) : QA X (PySem.Expr.JoinedStr v p :: es) (L2.tCons te t) := ⟨@L2.paJ _ _ _ _ _ _ ha.h hr.h⟩
theorem qv {X : L2.Cx} (i : Nat) {x : PySem.Str} {pos : PySem.Pos} (hN : (L2.Cx.N X)[i]? = Option.some x := by rfl) (hv : L2.Vis (PySem.Env.scope (L2.Cx.env X)) x := by first | exact Or.inl rfl | exact Or.inr (Or.inl rfl) | exact Or.inr (Or.inr rfl)) (hd : (x == PySem.Str.ofString "__debug__") = Bool.false := by decide) (hcd : (x == PySem.Str.ofString "__classdict__") = Bool.false := by decide) : QE X (PySem.Expr.Name x pos) (L2.tVar i) := ⟨@L2.pv _ i _ _ hN hv hd hcd⟩
theorem qe_int {X : L2.Cx} {i : Int} {j : Nat} {pos : PySem.Pos} : QE X (PySem.Expr.Constant (PySem.Const.int i) j pos) (L2.tC (L2.V.int i)) := ⟨@L2.pe_int _ _ _ _⟩
theorem qe_str {X : L2.Cx} {x : PySem.Str} {j : Nat} {pos : PySem.Pos} : QE X (PySem.Expr.Constant (PySem.Const.str x) j pos) (L2.tC (L2.V.str x)) := ⟨@L2.pe_str _ _ _ _⟩
theorem qe_bl {X : L2.Cx} {b : Bool} {j : Nat} {pos : PySem.Pos} : QE X (PySem.Expr.Constant (PySem.Const.bool b) j pos) (L2.tC (L2.V.bl b)) := ⟨@L2.pe_bl _ _ _ _⟩
theorem qe_glob {X : L2.Cx} {x : PySem.Str} {v : L2.V} {u : PySem.Value} {pos : PySem.Pos} (hg : L2.Gl X x) (hm : L2.Cx.mg X x = Option.some u) (r : L2.RelV v u) (hd : (x == PySem.Str.ofString "__debug__") = Bool.false := by decide) : QE X (PySem.Expr.Name x pos) (L2.tC v) := ⟨@L2.pe_glob _ _ _ _ _ hg hm r hd⟩
theorem qe_bltn {X : L2.Cx} {x : PySem.Str} {v : L2.V} {u : PySem.Value} {pos : PySem.Pos} (hg : L2.Gl X x) (hm : L2.Cx.mg X x = Option.none) (hv : PySem.bootBuiltins x = Option.some u) (r : L2.RelV v u) (hn : x ≠ PySem.Str.ofString "__name__" := by decide) (hd : (x == PySem.Str.ofString "__debug__") = Bool.false := by decide) : QE X (PySem.Expr.Name x pos) (L2.tC v) := ⟨@L2.pe_bltn _ _ _ _ _ hg hm hv r hn hd⟩
theorem qss_nil {X : L2.Cx} : QSs X [] L2.tNext := ⟨@L2.pss_nil _⟩
theorem qa_nil {X : L2.Cx} : QA X [] L2.tNil := ⟨@L2.pa_nil _⟩
theorem qo_none {X : L2.Cx} : QO X Option.none L2.tNoPart := ⟨@L2.po_none _⟩
theorem qif_nil {X : L2.Cx} : QIf X [] L2.tYes := ⟨@L2.pif_nil _⟩
theorem qgs_nil {X : L2.Cx} : QGs X [] L2.gNil := ⟨@L2.pgs_nil _⟩
section
variable {P : Program} {w : World} {K : PySem.W.Frag} {mg : Str -> Option Value} {base : Heap}
theorem Fun.okQ {x qual : Str} {st : Stmt} {f : Addr} {fd : FuncData} {N ps : List Str} {k : Nat} {sp : Sp} (F : Fun K x qual st f fd) (S : FnScope N ps (defScope st)) (len : ∀ vs H Q E, sp vs H Q E -> vs.length = ps.length)
    (hbody : ∀ (cdv : Value) (A : Around) (outer : List Env) (s : Shared) (H : Hp) (vs : List V) (Q : VK) (E : XK), Room k (A.deeper (envOfC qual (defScope st) s.heap.objs.size f cdv)) -> sp vs H Q E ->
      ∃ t, QSs (cxOf CX0 P w K mg base N qual (defScope st) f cdv A outer s H E).nox (defBody st) t /\ t { nx := fun _ H' => Q .non H', rt := Q } (start N vs) H) : FnOk P w K mg base CX0 (k + 1) f fd ps sp :=
  F.ok S len fun cdv A outer s H vs Q E hr h => let ⟨t, h1, h2⟩ := hbody cdv A outer s H vs Q E hr h; ⟨t, h1.h, h2⟩
end
end L2
namespace L2
open PySem PySem.Spec PyProof.Rows
abbrev vbm : List Value := [.type "ValueError", .type "Exception", .type "BaseException", .type "object"]
abbrev ExcC (K : PySem.W.Frag) (C : Addr) : Prop := PySem.W.excIn K C vbm "ValueError.__new__" = true
theorem exc_obj {K : PySem.W.Frag} {h : Heap} {C : Addr} {bmB : List Value} {newId : String} (X : K.In h) (q : PySem.W.excIn K C bmB newId = true) :
    ∃ bm N nm qn bs hdct sn sub ab col dd k0 k1 k2 k3 k5 mN, h.get? C = some (excClassObj nm qn C N bs bm hdct sn sub ab col dd k0 k1 k2 k3 k5 newId) /\ h.Ns N mN /\ mN "__init__" = none /\ OwnTail h bmB bm /\
      ∀ v b, PySem.W.mroIn K C v = some b -> (Value.ref C :: bm).contains v = b := by
  unfold PySem.W.excIn at q
  split at q
  · rename_i dd cd sl ho
    split at q
    · rename_i C' bm k0 k1 k2 k3 n k5 hm hs
      simp only [Bool.and_eq_true, beq_iff_eq, Bool.not_eq_true'] at q
      obtain ⟨⟨⟨⟨⟨rfl, rfl⟩, hdel⟩, ht⟩, hok⟩, hni⟩ := q
      obtain ⟨nm, bs, mro, ns, qn, hd, sn, sub, ab, col, del⟩ := cd
      dsimp only at hm hdel hok hni
      subst hm hdel
      have hsl : sl = #[k0, k1, k2, k3, some (.builtin n), k5] := by
        obtain ⟨l⟩ := sl
        simp only at hs
        rw [hs]
      subst hsl
      refine ⟨bm, ns, nm, qn, bs, hd, sn, sub, ab, col, dd, k0, k1, k2, k3, k5, _, X _ _ ho, .of_isNs (PySem.W.isNs_of_in X hok), PySem.W.nsMap_none_of_in X hok hni, PySem.W.tail_of_in X ht, fun v b e => ?_⟩
      unfold PySem.W.mroIn PySem.W.clsIn at e
      rw [ho] at e
      simpa using e
    · cases q
  · cases q
theorem excMatches_own {M : Model} {A : Around} {E : Value -> Shared -> Prop} {K : PySem.W.Frag} {h : Heap} {g : Array GenState} {d : Drawn} {t : Nat} {os : OsState} {e C D : Addr} {oe : Obj} {b : Bool} {Q : Bool -> Shared -> Prop} (X : K.In h)
    (hC : ExcC K C) (hD : ExcC K D) (he : h.get? e = some oe) (hcls : oe.cls = .ref C) (hm : PySem.W.mroIn K C (.ref D) = some b) (hq : Q b ⟨h, g, d, t, os⟩) : wpAny M A (excMatches (.ref e) (.ref D)) Q E ⟨h, g, d, t, os⟩ := by
  obtain ⟨bm, N, nm, qn, bs, hdct, sn, sub, ab, col, dd, k0, k1, k2, k3, k5, mN, oC, _, _, _, mroC⟩ := exc_obj X hC
  obtain ⟨bm', N', nm', qn', bs', hdct', sn', sub', ab', col', dd', l0, l1, l2, l3, l5, mN', oD, _, _, TD, _⟩ := exc_obj X hD
  have hcB : (Value.ref D :: bm').contains (.type "BaseException") = true := by
    rw [List.contains_cons, TD.hasType (X := "BaseException") (b := true) (by decide), Bool.or_true]
  have hcC : (Value.ref C :: bm).contains (.ref D) = b := mroC _ _ hm
  have f := tc_notTuple
  unfold excMatches
  repeat (first | (with_reducible refine wpAny_loadPart_at he ?_; rw [hcls]) | with_reducible refine wpAny_loadPart_at oD ?_ | (with_reducible refine wpAny_isSubtype_exc oD ?_; rw [hcB]) | (with_reducible refine wpAny_isSubtype_exc oC ?_; rw [hcC]) | wp_step)
  all_goals (cases b <;> first | exact hq | (wp_walk; exact hq))
theorem ObjOk.there {P : Program} {w : World} {H : Hp} {h : Heap} {a : Addr} {o : HO} (x : ObjOk P w H h a o) : ∃ ob, h.get? a = some ob := by
  cases o with
  | lst xs => obtain ⟨_, _, _, _, e⟩ := x; exact ⟨_, e⟩
  | tup xs => obtain ⟨_, _, _, p⟩ := x; obtain ⟨ob, e, _⟩ := p; exact ⟨ob, e⟩
  | dK kvs => obtain ⟨_, _, _, _, o, _, _, e, _⟩ := x; exact ⟨_, e⟩
  | dT kvs => obtain ⟨_, _, _, _, o, _, _, e, _⟩ := x; exact ⟨_, e⟩
  | set S n => obtain ⟨o, _, _, _, e, _⟩ := x; exact ⟨_, e⟩
  | ins C dx fs => obtain ⟨_, _, _, e, _⟩ := x; exact ⟨_, e⟩
  | own y => exact x
  | xd fs => obtain ⟨_, ⟨_, _, _, e, _⟩, _⟩ := x; exact ⟨_, e⟩
  | rng lo hi => obtain ⟨_, _, _, e⟩ := x; exact ⟨_, e⟩
  | frz ob u => obtain ⟨e, _⟩ := x; exact ⟨_, e⟩
  | tbl ps => exact ⟨_, show h.get? a = some _ from x⟩
  | met f y => exact ⟨_, show h.get? a = some _ from x⟩
  | ext φ => obtain ⟨_, e, _⟩ := x; exact e
structure XO (P : Program) (w : World) (outer : List Env) (H : Hp) (s : Shared) (cls : Value) (a : Addr) (H' : Hp) (s' : Shared) : Prop where
  os : s'.os = s.os
  bare : AllBare s'.gens
  un : Un (frs outer) [] H H' s.heap s'.heap
  hok : HOk P w H' s'.heap
  new : s.heap.get? a = none
  free : H' a = none
  fly : ∃ B a0, Heap.FlyingW B outer a cls a0 s'.heap /\ ∀ b o, (H' b ≠ none \/ ∃ o', s.heap.get? b = some o') -> b ∉ frs outer -> s'.heap.get? b = some o -> B.get? b = some o
def CXe (P : Program) (w : World) : CXT := fun outer H s E e s' => ∃ a cls H', e = .ref a /\ XO P w outer H s cls a H' s' /\ E cls none H'
section
variable {X : Cx} {pins : List (Addr × Obj)} {σ : St} {H H' : Hp} {s s' : Shared} {M : Model} {E' : Value -> Shared -> Prop} {a : Addr} {cls : Value}
theorem Un.fly {fs : List Addr} {H0 : Hp} {h0 h h' B : Heap} {fr : List Addr} (u : Un fs [] H0 H h0 h) (hfs : ∀ b ∈ fr, b ∈ fs \/ ∀ o, h0.get? b ≠ some o) (stay : B.StaysIn h') (big : ∀ b o, h.get? b = some o -> b ∉ fr -> (H b ≠ none \/ ∃ o', h0.get? b = some o') -> B.get? b = some o)
    (slots : ∀ b o, h.get? b = some o -> b ∈ fr -> ∃ sl, h'.get? b = some { o with slots := sl }) (sub : ∀ b ∈ fs, b ∈ fr) : Un fs [] H0 H h0 h' where
  keep := fun b o q n hb hx => by
    have e := u.keep b o q n hb hx
    have hf : b ∉ fr := fun z => by
      rcases hfs b z with y | y
      · exact hb y
      · exact y o q
    exact stay b o (big b o e hf (.inr ⟨o, q⟩))
  slot := fun b o q n hb hx => by
    obtain ⟨sl, e⟩ := u.slot b o q n hb hx
    obtain ⟨sl', e'⟩ := slots b _ e (sub b hb)
    exact ⟨sl', e'⟩
  free := u.free
  there := fun b o q hx => by
    obtain ⟨o', e⟩ := u.there b o q hx
    by_cases hf : b ∈ fr
    · obtain ⟨sl, e'⟩ := slots b o' e hf
      exact ⟨_, e'⟩
    · exact ⟨o', stay b o' (big b o' e hf (.inr ⟨o, q⟩))⟩
  tups := u.tups
  frzs := u.frzs
  tbls := u.tbls
theorem HOk.fly {P : Program} {w : World} {H : Hp} {h h' B : Heap} {fr : List Addr} (ok : HOk P w H h) (hfr : ∀ b ∈ fr, H b = none) (stay : B.StaysIn h') (big : ∀ b o, h.get? b = some o -> b ∉ fr -> H b ≠ none -> B.get? b = some o) : HOk P w H h' := fun a o e => by
  refine (ok a o e).stay (fun b u hb q => ?_) (fun _ q => q) fun _ _ q => q
  have hn : H b ≠ none := by
    rcases hb with rfl | hb
    · rw [e]; exact fun z => nomatch z
    · rw [hb]; exact fun z => nomatch z
  exact stay b u (big b u q (fun z => hn (hfr b z)) hn)
theorem frs_cons {env : Env} {l : List Env} {L : Addr} (h : env.frame = some L) : frs (env :: l) = L :: frs l := by
  unfold frs
  rw [List.filterMap_cons, h]
theorem Inv.raise (I : Inv X pins σ H s) (hs : X.stack = X.env :: X.outer) (hf : X.env.frame = some X.env.locals) (hex : X.ex = []) {h1 : Heap} {args : List Value} (hx : Heap.MadeExcOf s.heap h1 a cls args) :
    wpAny M X.A (leaving X.env (.ref a)) (fun _ s'' => XO X.prog X.w X.outer X.H₀ X.s₀ cls a H s'') E' { s with heap := h1 } := by
  have hfr : X.A.frames = some (X.env :: X.outer) := by rw [<- hs]; exact I.ok.frames
  have hFF : s.heap.FunFrames X.base (X.env :: X.outer) := by rw [<- hs]; exact I.stack
  have hin : ∀ env ∈ (X.env :: X.outer), ∀ b, env.frame = some b -> b ∈ frs (X.env :: X.outer) := fun env he b hb => List.mem_filterMap.mpr ⟨env, he, hb⟩
  have hfree : ∀ b ∈ frs (X.env :: X.outer), H b = none := by rw [<- hs]; exact I.stkFree
  have ub : Un X.fs [] X.H₀ H X.s₀.heap s.heap := by have := I.base; rw [hex] at this; exact this
  have nL : ∀ o, X.s₀.heap.get? X.env.locals ≠ some o := fun o z => absurd (Nat.lt_of_lt_of_le (Heap.lt_size z) I.ok.above) (Nat.lt_irrefl _)
  have big : ∀ b o, s.heap.get? b = some o -> b ∉ frs (X.env :: X.outer) -> (PySem.W.hideAll s.heap (frs (X.env :: X.outer))).get? b = some o := fun b o e n => PySem.W.hideAll_get _ e n
  refine wpAny_leaves_madeW (base := PySem.W.hideAll s.heap (frs (X.env :: X.outer))) hfr hf (fun b o q => PySem.W.of_hideAll _ q) (PySem.W.funFrames_hide hFF hin) hx fun h' t fl _ _ up => ?_
  have slots : ∀ b o, s.heap.get? b = some o -> b ∈ frs (X.env :: X.outer) -> ∃ sl, h'.get? b = some { o with slots := sl } := fun b o e hb => by
    obtain ⟨_, o', e', nf⟩ := hFF.mem hb
    rw [e] at e'
    cases e'
    exact up b o (hx.keeps b o e) nf
  have hfs : ∀ b ∈ frs (X.env :: X.outer), b ∈ X.fs \/ ∀ o, X.s₀.heap.get? b ≠ some o := fun b hb => by
    rw [frs_cons hf] at hb
    rcases List.mem_cons.mp hb with rfl | hb
    · exact .inr nL
    · exact .inl hb
  have sub : ∀ b ∈ X.fs, b ∈ frs (X.env :: X.outer) := fun b hb => by
    rw [frs_cons hf]
    exact List.mem_cons_of_mem _ hb
  refine ⟨I.os, I.bare, ub.fly hfs fl.1 (fun b o e n _ => big b o e n) slots sub, I.hok.fly hfree fl.1 (fun b o e n _ => big b o e n), ?_, ?_, _, _, fl, fun b o hb hn e => ?_⟩
  · cases q : X.s₀.heap.get? a with
    | none => rfl
    | some o =>
      obtain ⟨o', e⟩ := ub.there a o q (by simp)
      have := hx.new
      rw [e] at this
      cases this
  · cases q : H a with
    | none => rfl
    | some o =>
      obtain ⟨ob, e⟩ := (I.hok a o q).there
      have := hx.new
      rw [e] at this
      cases this
  · have hbs : ∃ ob, s.heap.get? b = some ob := by
      rcases hb with hb | ⟨o', hb⟩
      · cases q : H b with
        | none => exact absurd q hb
        | some u => exact (I.hok b u q).there
      · exact ub.there b o' hb (by simp)
    have hnL : b ∉ frs (X.env :: X.outer) := fun z => by
      rw [frs_cons hf] at z
      rcases List.mem_cons.mp z with rfl | z
      · rcases hb with hb | ⟨o', hb⟩
        · exact hb I.free
        · exact nL o' hb
      · exact hn z
    obtain ⟨ob, e1⟩ := hbs
    have e2 := big b ob e1 hnL
    have e3 := fl.1 b ob e2
    rw [e] at e3
    cases e3
    exact e2
theorem Inv.pass (I : Inv X pins σ H s) (hs : X.stack = X.env :: X.outer) (hf : X.env.frame = some X.env.locals) (hex : X.ex = []) (x : XO X.prog X.w X.stack H s cls a H' s') :
    wpAny M X.A (leaving X.env (.ref a)) (fun _ s'' => XO X.prog X.w X.outer X.H₀ X.s₀ cls a H' s'') E' s' := by
  rw [hs] at x
  have hfr : X.A.frames = some (X.env :: X.outer) := by rw [<- hs]; exact I.ok.frames
  obtain ⟨B, a0, fly, big⟩ := x.fly
  have ub : Un X.fs [] X.H₀ H X.s₀.heap s.heap := by have := I.base; rw [hex] at this; exact this
  have nL : ∀ o, X.s₀.heap.get? X.env.locals ≠ some o := fun o z => absurd (Nat.lt_of_lt_of_le (Heap.lt_size z) I.ok.above) (Nat.lt_irrefl _)
  have hfree : ∀ b ∈ frs (X.env :: X.outer), H b = none := by rw [<- hs]; exact I.stkFree
  have hFF : s.heap.FunFrames X.base (X.env :: X.outer) := by rw [<- hs]; exact I.stack
  have hsub : ∀ b ∈ X.fs, b ∈ frs (X.env :: X.outer) := fun b hb => by
    rw [frs_cons hf]
    exact List.mem_cons_of_mem _ hb
  have ut : Un X.fs [] X.H₀ H' X.s₀.heap s'.heap := by
    have nofr : ∀ b o, X.s₀.heap.get? b = some o -> b ∉ X.fs -> b ∉ frs (X.env :: X.outer) := fun b o q hb z => by
      rw [frs_cons hf] at z
      rcases List.mem_cons.mp z with rfl | z
      · exact nL o q
      · exact hb z
    refine ⟨fun b o q n hb hx => x.un.keep b o (ub.keep b o q n hb hx) (ub.free b o q n hx) (nofr b o q hb) (by simp), fun b o q n hb hx => ?_, fun b o q n hx => ?_, fun b o q hx => ?_, fun b xs q => x.un.tups b xs (ub.tups b xs q), fun b o u q => x.un.frzs b o u (ub.frzs b o u q), fun b ps q => ?_⟩
    · obtain ⟨sl, e⟩ := ub.slot b o q n hb hx
      obtain ⟨sl', e'⟩ := x.un.slot b _ e (ub.free b o q n hx) (hsub b hb) (by simp)
      exact ⟨sl', e'⟩
    · obtain ⟨o', e⟩ := ub.there b o q hx
      exact x.un.free b o' e (ub.free b o q n hx) (by simp)
    · obtain ⟨o', e⟩ := ub.there b o q hx
      exact x.un.there b o' e (by simp)
    · obtain ⟨m1, e1⟩ := ub.tbls b ps q
      obtain ⟨m2, e2⟩ := x.un.tbls b _ e1
      exact ⟨m1 ++ m2, by rw [e2, Array.append_assoc]⟩
  have hfree' : ∀ b ∈ frs (X.env :: X.outer), H' b = none := fun b hb => by
    obtain ⟨_, o, e, _⟩ := hFF.mem hb
    exact x.un.free b o e (hfree b hb) (by simp)
  refine wpAny_leaves_onW hfr hf fly fun h' fl up => ?_
  have bigT : ∀ b o, s'.heap.get? b = some o -> b ∉ frs (X.env :: X.outer) -> (H' b ≠ none \/ ∃ o', X.s₀.heap.get? b = some o') -> B.get? b = some o := fun b o e n hb => by
    refine big b o ?_ n e
    rcases hb with hb | ⟨o', hb⟩
    · exact .inl hb
    · exact .inr (ub.there b o' hb (by simp))
  have slots : ∀ b o, s'.heap.get? b = some o -> b ∈ frs (X.env :: X.outer) -> ∃ sl, h'.get? b = some { o with slots := sl } := fun b o e hb => by
    obtain ⟨_, o', e', nf⟩ := fly.2.2.1.mem hb
    rw [e] at e'
    cases e'
    exact up b o e nf
  have hfs : ∀ b ∈ frs (X.env :: X.outer), b ∈ X.fs \/ ∀ o, X.s₀.heap.get? b ≠ some o := fun b hb => by
    rw [frs_cons hf] at hb
    rcases List.mem_cons.mp hb with rfl | hb
    · exact .inr nL
    · exact .inl hb
  refine ⟨x.os.trans I.os, x.bare, ut.fly hfs fl.1 bigT slots hsub, x.hok.fly hfree' fl.1 (fun b o e n hb => bigT b o e n (.inl hb)), ?_, x.free, B, a0, fl, fun b o hb hn e => ?_⟩
  · cases q : X.s₀.heap.get? a with
    | none => rfl
    | some o =>
      obtain ⟨o', e⟩ := ub.there a o q (by simp)
      have := x.new
      rw [e] at this
      cases this
  · have hnL : b ∉ frs (X.env :: X.outer) := fun z => by
      rw [frs_cons hf] at z
      rcases List.mem_cons.mp z with rfl | z
      · rcases hb with hb | ⟨o', hb⟩
        · exact hb (hfree' _ (by rw [frs_cons hf]; exact List.mem_cons_self))
        · exact nL o' hb
      · exact hn z
    have hbs : ∃ ob, s'.heap.get? b = some ob := by
      rcases hb with hb | ⟨o', hb⟩
      · cases q : H' b with
        | none => exact absurd q hb
        | some u => exact (x.hok b u q).there
      · exact ut.there b o' hb (by simp)
    obtain ⟨ob, e1⟩ := hbs
    have e2 := bigT b ob e1 hnL hb
    have e3 := fl.1 b ob e2
    rw [e] at e3
    cases e3
    exact e2
end
end L2
namespace L2
open PySem PySem.Spec PyProof.Rows
def Cx.hand (X : Cx) (a : Addr) : Cx := { X with A := X.A.mark (some (.ref a)), calm := false, xe := fun _ _ => False }
theorem Cx.Ok.hand {X : Cx} (ok : X.Ok) (a : Addr) : (X.hand a).Ok :=
  ⟨ok.mod, ok.kind, ok.glob, ok.blt, ok.above, ok.inj, ok.has, ok.cab, (fun z => nomatch z), ok.frames, ok.stk, ok.exf, ok.bs, ok.bsz, ok.noex, ok.exfs, ok.funs, ok.frf⟩
section
variable {X : Cx} {pins : List (Addr × Obj)} {σ : St} {H H' : Hp} {s s' : Shared} {a : Addr}
theorem Inv.hand (I : Inv X pins σ H s) (a : Addr) : Inv (X.hand a) pins σ H s := ⟨I.ok.hand a, I.os, I.bare, I.base, I.loc, I.cell, I.free, I.freeC, I.pin, I.hok, I.len⟩
theorem Inv.unhand (ok : X.Ok) (I : Inv (X.hand a) pins σ H s) : Inv X pins σ H s := ⟨ok, I.os, I.bare, I.base, I.loc, I.cell, I.free, I.freeC, I.pin, I.hok, I.len⟩
theorem Inv.track {o : HO} (I : Inv X pins σ H s) (hn : H a = none) (hnew : ∀ u, X.s₀.heap.get? a ≠ some u) (hok : ObjOk X.prog X.w (upd H a o) s.heap a o) (neL : a ≠ X.env.locals) (neC : ∀ x c, X.env.cells.lookup x = some c -> c ≠ a) (neP : ∀ p ∈ X.pn ++ pins, p.1 ≠ a) : Inv X pins σ (upd H a o) s := by
  have ne : ∀ {b : Addr} {u : HO}, H b = some u -> b ≠ a := fun e => ne_of_none e hn
  refine ⟨I.ok, I.os, I.bare, ⟨I.base.keep, I.base.slot, fun b u q n hx => ?_, I.base.there, fun b xs q => ?_, fun b u v q => ?_, fun b ps q => ?_⟩, I.loc, I.cell, ?_, fun x c e => ?_, fun p hp => ?_, fun b u q => ?_, I.len⟩
  · rw [upd_ne (fun z : b = a => hnew u (by rw [<- z]; exact q))]
    exact I.base.free b u q n hx
  · have := I.base.tups b xs q
    rw [upd_ne (ne this)]
    exact this
  · have := I.base.frzs b u v q
    rw [upd_ne (ne this)]
    exact this
  · obtain ⟨m, e⟩ := I.base.tbls b ps q
    exact ⟨m, by rw [upd_ne (ne e)]; exact e⟩
  · rw [upd_ne (Ne.symm neL)]
    exact I.free
  · rw [upd_ne (neC x c e)]
    exact I.freeC x c e
  · obtain ⟨e, n, y⟩ := I.pin p hp
    exact ⟨e, by rw [upd_ne (neP p hp)]; exact n, y⟩
  · by_cases hb : b = a
    · subst hb
      rw [upd_same] at q
      cases q
      exact hok
    · rw [upd_ne hb] at q
      exact (I.hok b u q).stay (fun _ _ _ z => z) (fun c z => by rw [upd_ne (ne z)]; exact z) fun c xs z => by rw [upd_ne (ne z)]; exact z
theorem Inv.gone {i : Nat} {x : Str} {h' : Heap} {v : Option Value} {m : Str -> Option Value} {tk : Nat} (I : Inv X pins σ H s) (hN : X.N.Nodup) (hi : X.N[i]? = some x) (hn : s.heap.Ns X.env.locals m)
    (hl : ∀ (i : Nat) (x : Str) (v : V), X.N[i]? = some x -> σ[i]? = some (some v) -> Vis X.env.scope x -> ∃ u, RelV v u /\ Look X.env s.heap m x u)
    (hn' : h'.Ns X.env.locals (fun y => if y = x then v else m y)) (hs : Heap.SameBut X.env.locals s.heap h') : Inv X pins (σ.set i none) H { s with heap := h', toks := tk } := by
  have cne := I.cne
  obtain ⟨oL, _, _, hoL, _⟩ := id hn
  refine ⟨I.ok, I.os, I.bare, ⟨fun b o e n hb hx => ?_, fun b o e n hb hx => ?_, I.base.free, fun b o e hx => ?_, I.base.tups, I.base.frzs, I.base.tbls⟩, ⟨_, hn', fun j y v' e1 e2 e3 => ?_⟩, fun y c e => ?_, I.free, I.freeC, fun p hp => ?_, fun b ob e => ?_, by simpa using I.len⟩
  · exact (hs.2 b (Nat.ne_of_lt (Nat.lt_of_lt_of_le (Heap.lt_size e) I.ok.above))).trans (I.base.keep b o e n hb hx)
  · obtain ⟨sl, e1⟩ := I.base.slot b o e n hb hx
    exact ⟨sl, (hs.2 b (Nat.ne_of_lt (Nat.lt_of_lt_of_le (Heap.lt_size e) I.ok.above))).trans e1⟩
  · obtain ⟨o', e1⟩ := I.base.there b o e hx
    exact ⟨o', (hs.2 b (Nat.ne_of_lt (Nat.lt_of_lt_of_le (Heap.lt_size e) I.ok.above))).trans e1⟩
  · by_cases hj : j = i
    · subst hj
      by_cases hlt : j < σ.length
      · rw [List.getElem?_set_self hlt] at e2; cases e2
      · rw [List.getElem?_eq_none (by simp; omega)] at e2; cases e2
    · rw [List.getElem?_set_ne (Ne.symm hj)] at e2
      obtain ⟨u', r', q⟩ := hl j y v' e1 e2 e3
      refine ⟨u', r', ?_⟩
      rcases q with ⟨k, e⟩ | ⟨k, c, e, z⟩
      · refine .inl ⟨k, ?_⟩
        have : y ≠ x := fun e => hj (nodup_ix hN e1 (e ▸ hi))
        simp [this, e]
      · exact .inr ⟨k, c, e, z.sameBut hs (cne y c e)⟩
  · obtain ⟨w', z⟩ := I.cell y c e
    exact ⟨w', z.sameBut hs (cne y c e)⟩
  · obtain ⟨e, n, ne, nf, d⟩ := I.pin p hp
    exact ⟨(hs.2 p.1 ne).trans e, n, ne, nf, d⟩
  · refine (I.hok b ob e).stay (fun c w' hc q => (hs.2 c ?_).trans q) (fun _ q => q) fun _ _ q => q
    rintro rfl
    rcases hc with rfl | hc
    · rw [I.free] at e; cases e
    · rw [I.free] at hc; cases hc
def tRaise (EX : Hp -> Prop) (t : TA) : TS := fun _ σ H => t σ H fun vs H1 => vs.length <= 10 /\ EX H1
theorem ps_raise {x : Str} {C : Addr} {e : Expr} {es : List Expr} {t : TA} {np cpos pos : Pos} {EX : Hp -> Prop} (hc : X.calm = true) (hg : Gl X x) (hm : X.mg x = some (.ref C)) (he : ExcC X.K C) (ha : PA X (e :: es) t)
    (hx : ∀ pins σ H s h' a vs, Inv X pins σ H s -> Heap.MadeExcOf s.heap h' a (.ref C) vs -> EX H -> X.xe (.ref a) { s with heap := h' })
    (hd : (x == ("__debug__" : Str)) = false := by decide) (hst : starEach (e :: es) X.env = (false, eval e X.env) :: starEach es X.env := by rfl) (hpl : (backTo cpos (starEach es X.env)).any (·.1) = false := by rfl) :
    PS X (.Raise (some (.Call (.Name x np) (e :: es) [] cpos)) none pos) (tRaise EX t) := by
  intro pins s σ H D I h
  obtain ⟨bm, N, nm, qn, bs, hdct, sn, sub, ab, col, dd, k0, k1, k2, k3, k5, mN, oC, hN, hni, TL, _⟩ := exc_obj (I.ok.mod.kin) he
  refine wpAny_Raise_call_subT (C := C) (nm := nm) (q := qn) (N := N) (bs := bs) (bm := bm) (hdct := hdct) (sn := sn) (sub := sub) (ab := ab) (col := col) (dd := dd) (k0 := k0) (k1 := k1) (k2 := k2) (k3 := k3) (k5 := k5)
    PySem.F.excBase_ValueError (mN := mN) (TL.hasType (by decide)) (I.ok.hd hc) (by rw [hst]; show (false || (backTo cpos (starEach es X.env)).any (·.1)) = false; rw [hpl]; rfl) hni (ld_glob I hg hm ⟨rfl, ?_⟩ hd)
  have hA := ha cpos pins s σ H _ I h
  rw [hst] at hA ⊢
  refine Calls.evalArgs_plain (thn hA fun us s1 ⟨vs, H1, I1, r, z, q⟩ => ⟨rfl, ?_, I1.bk _ _ oC, hN.keeps I1.bk, TL.keeps I1.bk, fun h' a hmk => hx pins σ H1 s1 h' a us I1 hmk q⟩)
  rw [<- r.length]
  exact fits2 (by omega)
end
section
variable {P : Program} {w : World} {K : PySem.W.Frag} {mg : Str -> Option Value} {base : Heap} {N : List Str} {qual : Str} {scope : Scope} {f : Addr} {cd : Value} {A : Around} {outer : List Env} {s₀ : Shared} {H₀ : Hp} {E : XK}
theorem xe_raise {C : Addr} : ∀ pins σ H s h' a vs, Inv (cxOf (CXe P w) P w K mg base N qual scope f cd A outer s₀ H₀ E) pins σ H s -> Heap.MadeExcOf s.heap h' a (.ref C) vs -> E (.ref C) none H ->
    (cxOf (CXe P w) P w K mg base N qual scope f cd A outer s₀ H₀ E).xe (.ref a) { s with heap := h' } := fun pins σ H s h' a vs I hmk q =>
  wpAny_mono (Inv.raise (M := model P w) (E' := fun _ _ => False) I rfl rfl rfl hmk) (fun _ s'' x => ⟨a, .ref C, H, rfl, x, q⟩) fun _ _ z => z.elim
theorem pass_on : Passes (CXe P w) (cxOf (CXe P w) P w K mg base N qual scope f cd A outer s₀ H₀ E) E := fun pins σ H s e s' I h => by
  obtain ⟨a, cls, H', rfl, x, q⟩ := h
  exact wpAny_mono (Inv.pass (M := model P w) (E' := fun _ _ => False) I rfl rfl rfl x) (fun _ s'' y => ⟨a, cls, H', rfl, y, q⟩) fun _ _ z => z.elim
theorem Fun.okE {x qual : Str} {st : Stmt} {f : Addr} {fd : FuncData} {N ps : List Str} {k : Nat} {sp : Sp} (F : Fun K x qual st f fd) (S : FnScope N ps (defScope st)) (len : ∀ vs H Q E, sp vs H Q E -> vs.length = ps.length)
    (hbody : ∀ (cdv : Value) (A : Around) (outer : List Env) (s : Shared) (H : Hp) (vs : List V) (Q : VK) (E : XK), Room k (A.deeper (envOfC qual (defScope st) s.heap.objs.size f cdv)) -> sp vs H Q E ->
      ∃ t, QSs (cxOf (CXe P w) P w K mg base N qual (defScope st) f cdv A outer s H E) (defBody st) t /\ t { nx := fun _ H' => Q .non H', rt := Q } (start N vs) H) : FnOk P w K mg base (CXe P w) (k + 1) f fd ps sp := by
  obtain ⟨oc, od, kV, doc, pm, an, cdv, ct, osl, rfl, lk, hcd⟩ := F.ex
  refine fn_of lk hcd S len fun A outer s H vs Q E hr hsp => ?_
  obtain ⟨t, h, q⟩ := hbody cdv A outer s H vs Q E hr hsp
  exact ⟨t, h.h, q⟩
end
def excO (a C : Addr) : HO := .ext fun h => ∃ o, h.get? a = some o /\ o.cls = .ref C
def tTry (K : PySem.W.Frag) (Dc : Addr) (i : Nat) (sp : Sp) (t : TA) (ts : TS) : TS := fun D σ H => t σ H fun vs H1 => sp vs H1 (fun _ H2 => D.nx σ H2) fun cls _ H2 => ∃ C, cls = .ref C /\ ExcC K C /\ PySem.W.mroIn K C (.ref Dc) = some true /\
  ∀ a, H2 a = none -> ts { nx := fun σ' H' => D.nx (σ'.set i none) H', rt := fun _ _ => False, bk := fun _ _ => False, ct := fun _ _ => False } (σ.set i (some (.ref a))) (upd H2 a (excO a C))
section
variable {X : Cx} {k : Nat} {f Dc : Addr} {fd : FuncData} {ps : List Str} {sp : Sp} {x dn n : Str} {i : Nat} {p cpos epos np hpos pos : Pos} {e : Expr} {es : List Expr} {t : TA} {ts : TS} {b0 : Stmt} {suite : List Stmt}
theorem ps_try (F : FnOk X.prog X.w X.K X.mg X.base (CXe X.prog X.w) k f fd ps sp) (hr : Room k X.A) (hg : Gl X x) (hm : X.mg x = some (.ref f)) (hk : PySem.W.keepIn X.K (.ref f) = true) (hb : Binds X.K fd ps [])
    (ha : PA X.nox (e :: es) t) (hgD : Gl X dn) (hmD : X.mg dn = some (.ref Dc)) (hD : ExcC X.K Dc) (hN : X.N.Nodup) (hi : X.N[i]? = some n) (hn : X.env.scope.names.lookup n = some .local) (hstk : X.stack = X.env :: X.outer) (hfr : X.env.frame = some X.env.locals) (hex : X.ex = [])
    (hs : ∀ a, PSs (X.hand a) (b0 :: suite) ts)
    (hdb : (x == ("__debug__" : Str)) = false := by decide) (hdd : (dn == ("__debug__" : Str)) = false := by decide) (he : starEach (e :: es) X.env = (false, eval e X.env) :: starEach es X.env := by rfl) (hpl : (backTo cpos (starEach es X.env)).any (·.1) = false := by rfl)
    (hsw : swapsWith (.Call (.Name x p) (e :: es) [] cpos) none epos.line X.env = pure false := by rfl) :
    PS X (.Try [.Expr (.Call (.Name x p) (e :: es) [] cpos) epos] [.ExceptHandler (some (.Name dn np)) (some n) (b0 :: suite) hpos] [] [] pos) (tTry X.K Dc i sp t ts) := by
  intro pins s σ H D I h
  refine wpAny_Try_except (wpAny_execs_cons (wpAny_Expr_any (wpAny_Call_Name_kw (ld_glob I hg hm ?_ hdb)) I.quiet hsw))
  refine PySem.W.callWith_K (h₀ := X.base) I.ok.mod.kin hk (wpAny_mono (ha cpos pins s σ H _ (I.wish _) h) (fun us s1 ⟨vs, H1, I1n, r, q⟩ => ⟨I1n.kIn, ?_⟩) fun _ _ z => z.elim) he hpl
  have I1 : Inv X pins σ H1 s1 := I1n.unwish
  have hl : (us ++ []).length = ps.length := by rw [List.append_nil, <- r.length]; exact F.len _ _ _ _ q
  have hbb := hb s1 us I1.kIn hl
  rw [List.append_nil] at hbb
  refine wpAny_call (codeAny_mono (F.run X.A X.stack s1 H1 ⟨us, []⟩ us vs _ _ hr I1.env0 hbb r q) fun res s' hq => ?_)
  cases res with
  | ok fl =>
    cases fl with
    | ret u =>
      obtain ⟨v, H2, I2, _, q2⟩ := I1.after hq
      exact wpAny_execs_nil (wpAny_execs_nil ⟨σ, H2, I2, q2⟩)
    | next => exact False.elim hq
    | brk => exact False.elim hq
    | cont => exact False.elim hq
  | error ev =>
    obtain ⟨a, cls, H2, rfl, x, C, rfl, hC, hmro, q2⟩ := hq
    obtain ⟨B, a0, fly, big⟩ := x.fly
    have hfrm : X.A.frames = some (X.env :: X.outer) := by rw [<- hstk]; exact I.ok.frames
    rw [hstk] at fly
    have keep : ∀ h6 : Heap, B.StaysIn h6 -> s'.heap.UpToSlots h6 -> ∀ tk : Nat, Inv X pins σ H2 { s' with heap := h6, toks := tk } := fun h6 st up tk => by
      have slots : ∀ b o, s'.heap.get? b = some o -> b ∈ frs X.stack -> ∃ sl, h6.get? b = some { o with slots := sl } := fun b o e hb => by
        rw [hstk] at hb
        obtain ⟨_, o', e', nf⟩ := fly.2.2.1.mem hb
        rw [e] at e'
        cases e'
        exact up b o e nf
      have hfree' : ∀ b ∈ frs X.stack, H2 b = none := fun b hb => by
        obtain ⟨_, o, e, _⟩ := I1.stack.mem hb
        exact x.un.free b o e (I1.stkFree b hb) (by simp)
      refine I1.call' (ch := []) x.os (x.un.fly (fun b hb => .inl hb) st (fun b o e n hb => big b o hb n e) slots fun b hb => hb) (x.hok.fly hfree' st (fun b o e n hb => big b o (.inl hb) n e)) x.bare (fun b z => absurd z (by simp))
    refine wpAny_looks_onW hfrm hfr fly fun h4 held4 sm4 => wpAny_landsW held4 fun h5 fl5 sm5 => ?_
    have I5 := keep h5 fl5.1 (sm4.trans sm5) s'.toks
    obtain ⟨oe, hoe, hoc⟩ := fl5.there
    refine wpAny_handleBy_cons (codeAny_handlers_test (ld_glob (I5.hand a) hgD hmD (excMatches_own (K := X.K) I5.kIn hC hD hoe hoc hmro ?_) hdd)) (by intro z; cases z)
    refine codeAny_handlers_suite_as (lands_againW fl5 fun h6 fl6 sm6 => ?_)
    have I6 := keep h6 fl6.1 ((sm4.trans sm5).trans sm6) s'.toks
    obtain ⟨oe6, hoe6, hoc6⟩ := fl6.there
    have hnew1 : s1.heap.get? a = none := x.new
    have I7 : Inv X pins σ (upd H2 a (excO a C)) { s' with heap := h6 } := by
      refine I6.track x.free (fun u z => ?_) ⟨⟨oe6, hoe6, hoc6⟩, ⟨oe6, hoe6⟩, fun h1 h2 ⟨o, e1, e2⟩ st => ⟨o, st o e1, e2⟩⟩ (fun z => ?_) (fun y c e z => ?_) (fun p hp z => ?_)
      · obtain ⟨o', e1⟩ := I1.base.there a u z (by rw [hex]; simp)
        rw [hnew1] at e1
        cases e1
      · obtain ⟨m, hns, _⟩ := I1.loc
        obtain ⟨oL, _, _, hoL, _⟩ := hns
        rw [<- z, hnew1] at hoL
        cases hoL
      · obtain ⟨v, oc, hoc', _⟩ := I1.cell y c e
        rw [z, hnew1] at hoc'
        cases hoc'
      · obtain ⟨e1, _⟩ := I1.pin p hp
        rw [z, hnew1] at e1
        cases e1
    refine store_ok (X := X.hand a) (v := .ref a) (I7.hand a) hN hi (.inl hn) rfl (fun s7 I8 => ?_) (.inr hn)
    refine wpAny_mono (hs a pins s7 _ _ _ I8 (q2 a x.free)) (fun fw s8 hfw => ?_) fun _ _ z => z.elim
    cases fw with
    | next =>
      obtain ⟨σ', H9, I9, q9⟩ := hfw
      have I9' := I9.unhand I.ok
      obtain ⟨m, hns, hloc⟩ := I9'.loc
      refine wpAny_nameGoes_keeps hn hns (by rw [I.ok.kind]; rfl) fun h10 v hn10 hs10 => ?_
      exact ⟨σ'.set i none, H9, I9'.gone hN hi hns hloc hn10 hs10, q9⟩
    | ret u =>
      obtain ⟨_, _, _, _, _, z⟩ := hfw
      exact z.elim
    | brk =>
      obtain ⟨_, _, _, z⟩ := hfw
      exact z.elim
    | cont =>
      obtain ⟨_, _, _, z⟩ := hfw
      exact z.elim
end
end L2
namespace L2
open PySem PySem.Spec PySem.Calls PyProof.Rows PySem.W Builtin Builtin.ObjectAttr Builtin.Getset_descriptor
structure XCls (K : Frag) (C : Addr) : Prop where
  ex : ExcC K C
  ga : findIn K (.ref C) "__getattribute__" = some (some (.builtin "BaseException.__getattribute__"))
  gt : findIn K (.ref C) "__getattr__" = some none
  ca : findIn K (.ref C) "__class__" = some (some (.builtin "object.__class__"))
  sp : specialIn K (.builtin "object.__class__") "__get__" = some (some (.builtin "getset_descriptor.__get__"))
  tk : takesIn K (.builtin "object.__class__") = some true
  mo : mroIn K C (.type "object") = some true
  mb : mroIn K C (.type "BaseException") = some true
def ExcAt (a C : Addr) (h : Heap) : Prop := ∃ o, h.get? a = some o /\ o.cls = .ref C
section
variable {prog : Program} {w : World} {A : Around} {E : Value -> Shared -> Prop} {K : Frag} {a C : Addr} {s : Shared}
theorem excAt_ty {M : Model} {h : Heap} (p : ExcAt a C h) : Looks M h (typeOf (.ref a)) (.ref C) := by
  obtain ⟨o, h1, h2⟩ := p
  exact h2 ▸ (Looks.ld h1).andThen .now
theorem exc_class_get {R : Result -> Shared -> Prop} {tp : Value} (X : K.In s.heap) (I : ExcAt a C s.heap) (hm : mroIn K C (.type "object") = some true)
    (h : R (.ok (.ret (.ref C))) s) : codeAny (model prog w) A (.call (.builtin "getset_descriptor.__get__") ⟨[.builtin "object.__class__", .ref a, tp], []⟩) R s := by
  obtain ⟨hh, g, dr, t, os⟩ := s
  have L0 := excAt_ty (M := model prog w) I
  have L1 := looks_mroIn (M := model prog w) X hm
  refine codeAny_call_builtin KF.slot_gs.plain KF.entry_gs (KF.slot_gs.check _ _ _ _ _ _ _ _ KF.type_class (KF.args_gs _ _ _) ?_)
  unfold Builtin.«getset_descriptor.__get__» descrGet
  rw [dga_obj]
  refine wpAny_bind (wpAny_pure ?_)
  unfold descrGetter descrCheckInstance descrNameAndClass isInstance
  simp only [KF.owner_class]
  repeat lk
  refine ⟨Code.quiet_builtin _ (by decide +kernel), codeAny_builtin KF.entry_class ?_⟩
  unfold Builtin.«object.__class__» shownTypeOf
  repeat lk
  exact h
theorem exc_check_ga {M : Model} {nameV : Value} {Q : Unit -> Shared -> Prop} (X : K.In s.heap) (I : ExcAt a C s.heap) (hm : mroIn K C (.type "BaseException") = some true) (hq : Q () s) : wpAny M A (checkBuiltinCall "BaseException.__getattribute__" ⟨[.ref a, nameV], []⟩) Q E s := by
  obtain ⟨hh, g, dr, t, os⟩ := s
  have hk : builtinKind "BaseException.__getattribute__" = some .slot := by decide +kernel
  have hsplit : splitId "BaseException.__getattribute__" = some ("BaseException", "__getattribute__") := by decide +kernel
  have ha := F.args_bexc_ga (.ref a) nameV
  have L0 := excAt_ty (M := M) I
  have L1 := looks_mroIn (M := M) X hm
  simp only [checkBuiltinCall, hk, hsplit]
  refine wpAny_bind ?_
  unfold isInstance
  refine wpAny_bind (L0.at (L1.at ?_))
  repeat (first | assumption | wp_step)
theorem exc_entry {tk : Tok} {Q : Fin -> Shared -> Prop} (X : K.In s.heap) (I : ExcAt a C s.heap) (c : XCls K C) (hq : Q (.done (.ret (.ref C))) s) : wpAny (model prog w) A (Builtin.«object.__getattribute__» ⟨[.ref a, .str "__class__" tk], []⟩) Q E s := by
  obtain ⟨hh, g, dr, t, os⟩ := s
  have L0 := excAt_ty (M := model prog w) I
  have L1 := looks_findIn (M := model prog w) X c.ca
  have f5 := F.typeOf_object_class
  have f6 := F.slot_gs_get.lookup
  have f7 := F.slot_gs_set.lookup
  have hT5 : (⟨hh, g, dr, t, os⟩ : Shared).TypeIs (.builtin "object.__class__") "getset_descriptor" := F.typeOf_object_class
  repeat (any_goals (first | assumption | with_reducible refine L0.at ?_ | with_reducible refine L1.at ?_ | wp_step))
  refine exc_class_get X I c.mo ?_
  repeat (any_goals (first | assumption | wp_step))
theorem exc_ca {Q : Option Value -> Shared -> Prop} (X : K.In s.heap) (I : ExcAt a C s.heap) (c : XCls K C) (hq : Q (some (.ref C)) { s with toks := s.toks + 1 }) : wpAny (model prog w) A (getAttr? (.ref a) "__class__") Q E s := by
  obtain ⟨hh, g, dr, t, os⟩ := s
  have L0 := excAt_ty (M := model prog w) I
  have L1 := looks_findIn (M := model prog w) X c.ga
  have L2' := looks_findIn (M := model prog w) X c.gt
  have f3 := PySem.F.excAttr_ValueError.ga.bind (.ref a)
  have hx2 : (Value.builtin "BaseException.__getattribute__" == Value.builtin "object.__getattribute__") = false := by decide +kernel
  have hx1 : (onTheHeap (Value.ref C) && Value.builtin "BaseException.__getattribute__" == Value.builtin "object.__getattribute__") = false := by rw [hx2]; rfl
  unfold getAttr? getAttrBy?
  repeat (any_goals (first | assumption | with_reducible refine L0.at ?_ | with_reducible refine L1.at ?_ | with_reducible refine L2'.at ?_ | wp_step))
  refine codeAny_call_builtin PySem.F.excAttr_ValueError.ga.plain F.entry_bexc_ga (exc_check_ga X I c.mb (exc_entry X I c ?_))
  exact handed_on rfl (wpAny_pure hq)
theorem kitx_exc (c : XCls K C) : KitX K (.ref a) (.ref C) (ExcAt a C) where
  ty := fun _ _ _ I => excAt_ty I
  it := fun _ h X _ => by
    obtain ⟨bm, N, nm, qn, bs, hdct, sn, sub, ab, col, dd, k0, k1, k2, k3, k5, mN, oC, _⟩ := exc_obj X c.ex
    intro A' Q' E' s' k q
    unfold isType loadHead
    exact wpAny_bind (wpAny_loadPart (k _ _ oC) (wpAny_pure q))
  ne := fun h tp dd its n sl X htp => by
    obtain ⟨bm, N, nm, qn, bs, hdct, sn, sub, ab, col, dd', k0, k1, k2, k3, k5, mN, oC, _⟩ := exc_obj X c.ex
    refine Bool.eq_false_iff.mpr fun q => ?_
    have e : C = tp := Value.ref.inj (beq_iff_eq.mp q)
    subst e
    have z := congrArg (fun o : Option Obj => o.map (·.cls)) (oC.symm.trans htp)
    simp [excClassObj] at z
  ca := fun X I k => exc_ca X I c k
end
section
variable {X : Cx}
theorem vals_refs : ∀ {ds : List Addr} {us : List Value}, Vals (ds.map V.ref) us -> us = ds.map Value.ref
  | [], _, r => by cases r; rfl
  | d :: ds, _, r => by
    rw [List.map_cons] at r
    cases r with
    | cons r1 r2 =>
      cases (show _ = Value.ref d from r1)
      rw [vals_refs r2]
      rfl
theorem call_isx : CallR X (.builtin "isinstance") (fun xs H Q => ∃ (a C : Addr) (v : V) (b : Bool), xs = [.ref a, v] /\ H a = some (excO a C) /\ XCls X.K C /\
    ((∃ D, v = .ref D /\ kitOne X.K (.ref C) (.ref D) = some b) \/ (∃ T, v = .ty T /\ kitOne X.K (.ref C) (.type T) = some b) \/ (∃ (p : Addr) (ds : List Addr), v = .ref p /\ H p = some (.tup (ds.map V.ref)) /\ kitAny X.K (.ref C) (ds.map Value.ref) = some b)) /\ Q (.bl b) H) := by
  intro pins s σ H xs us Q I r h
  obtain ⟨a, C, v, b, rfl, ha, c, alt, q⟩ := h
  obtain ⟨u, u', rfl, ru, rv⟩ := vals2 r
  cases ru
  have hat : ExcAt a C s.heap := (I.hok a _ ha).1
  have fin : ∀ tk, EP X pins σ Q (.bool b) { s with toks := tk } := fun tk => ⟨.bl b, H, I.tok tk, rfl, q⟩
  rcases alt with ⟨D, rfl, e⟩ | ⟨T, rfl, e⟩ | ⟨p, ds, rfl, hp, e⟩
  · cases rv
    exact kia_one (kitx_exc c) I.kIn hat e (fun z => nomatch z) fin
  · cases rv
    exact kia_one (kitx_exc c) I.kIn hat e (fun z => nomatch z) fin
  · cases rv
    obtain ⟨its, r1, ⟨⟨cls, dd, data, sl⟩, ho, hc, n, hd⟩, _⟩ := I.tuple (.of hp)
    simp only at hc hd
    subst hc hd
    rw [vals_refs r1] at ho
    exact kia_tup (kitx_exc c) I.kIn hat ho e (fun z => nomatch z) fin
end
end L2
namespace L2
open PySem PySem.Spec PyProof.Rows
mutual
/-- what a value shows, read through the abstract heap -/
inductive Shw (K : PySem.W.Frag) (H : Hp) : V -> PyData -> Prop
  | non : Shw K H .non .none
  | bl (b : Bool) : Shw K H (.bl b) (.bool b)
  | int (i : Int) : Shw K H (.int i) (.int i)
  | str (x : Str) : Shw K H (.str x) (.str x)
  | lst {a : Addr} {vs : List V} {ds : List PyData} : SqL K H a vs -> ShwA K H vs ds -> Shw K H (.ref a) (.list ds)
  | tup {a : Addr} {vs : List V} {ds : List PyData} : SqT K H a vs -> ShwA K H vs ds -> Shw K H (.ref a) (.tuple ds)
inductive ShwA (K : PySem.W.Frag) (H : Hp) : List V -> List PyData -> Prop
  | nil : ShwA K H [] []
  | cons {v : V} {d : PyData} {vs : List V} {ds : List PyData} : Shw K H v d -> ShwA K H vs ds -> ShwA K H (v :: vs) (d :: ds)
end
section
variable {X : Cx} {pins : List (Addr × Obj)} {σ : St} {H : Hp} {s : Shared}
mutual
theorem Inv.reads (I : Inv X pins σ H s) : ∀ {v : V} {d : PyData} {u : Value}, Shw X.K H v d -> RelV v u -> ∃ as, Reads s.heap u d as
  | _, _, _, .non, r => by cases r; exact ⟨_, .none⟩
  | _, _, _, .bl b, r => by cases r; exact ⟨_, .bool b⟩
  | _, _, _, .int i, r => by obtain ⟨t, rfl⟩ := r; exact ⟨_, .int i t⟩
  | _, _, _, .str x, r => by obtain ⟨t, rfl⟩ := r; exact ⟨_, .str x t⟩
  | _, _, _, .lst h1 h2, r => by
    cases r
    obtain ⟨its, rs, ⟨o, n, e, c, _, dt⟩, _⟩ := I.list h1
    obtain ⟨as, ra⟩ := I.readsA h2 rs
    exact ⟨_, .list e c dt (by simpa using ra)⟩
  | _, _, _, .tup h1 h2, r => by
    cases r
    obtain ⟨its, rs, ⟨o, e, c, n, dt⟩, _⟩ := I.tuple h1
    obtain ⟨as, ra⟩ := I.readsA h2 rs
    exact ⟨_, .tuple e c dt (by simpa using ra)⟩
theorem Inv.readsA (I : Inv X pins σ H s) : ∀ {vs : List V} {ds : List PyData} {us : List Value}, ShwA X.K H vs ds -> Vals vs us -> ∃ as, ReadsAll s.heap us ds as
  | _, _, _, .nil, r => by cases r; exact ⟨_, .nil⟩
  | _, _, _, .cons h1 h2, r => by
    cases r with
    | cons r1 r2 =>
      obtain ⟨as, ra⟩ := I.reads h1 r1
      obtain ⟨bs, rb⟩ := I.readsA h2 r2
      exact ⟨_, .cons ra rb⟩
end
end
section
variable {X : Cx} {pins : List (Addr × Obj)} {σ : St} {H : Hp} {s : Shared} {te : TE} {e : Expr} {pos : Pos} {k : Nat}
def tFmt (te : TE) : TE := fun σ H Q => te σ H fun v H1 => (∃ x, v = .str x /\ x.length <= sizeLine /\ Q (.str x) H1) \/ (∃ i : Int, v = .int i /\ i.natAbs.log2 < 1920 /\ Q (.str (toString i)) H1)
theorem pe_fmt (he : PE X e te) : PE X (.FormattedValue e (-1) none pos) (tFmt te) := fun pins s σ H Q I h =>
  wpAny_FormattedValue_plain (thn (he pins s σ H _ I h) fun u s1 ⟨v, H1, I1, r, q⟩ => by
    rcases q with ⟨x, rfl, hx, q⟩ | ⟨i, rfl, hi, q⟩
    · obtain ⟨t, rfl⟩ := r
      exact wpAny_formatField_str ⟨.str x, H1, I1, ⟨_, rfl⟩, q⟩ ⟨.str x, H1, I1.tok _, ⟨_, rfl⟩, q⟩ hx
    · obtain ⟨t, rfl⟩ := r
      exact wpAny_formatField_int hi ⟨.str _, H1, I1.tok _, ⟨_, rfl⟩, q⟩)
def tRep (K : PySem.W.Frag) (te : TE) : TE := fun σ H Q => te σ H fun v H1 => ∃ d : PyData, Shw K H1 v d /\ d.showable = true /\ d.hasDict = false /\ d.depth <= 64 /\ d.shown.length <= sizeLine /\ Q (.str d.shown) H1
theorem pe_rep (hr : Room k X.A) (he : PE X e te) : PE X (.FormattedValue e 114 none pos) (tRep X.K te) := fun pins s σ H Q I h =>
  wpAny_FormattedValue_repr (thn (he pins s σ H _ I h) fun u s1 ⟨v, H1, I1, r, d, hw, h1, h2, h3, h4, q⟩ => by
    have fin : ∀ (h' : Heap) (t tk : Nat), (∀ b o, s1.heap.get? b = some o -> h'.get? b = some o) -> wpAny (model X.prog X.w) X.A (formatField (.str d.shown t) Str.empty) (EP X pins σ Q) X.xe { s1 with heap := h', toks := tk } := fun h' t tk kp =>
      have I2 : ∀ tk, Inv X pins σ H1 { s1 with heap := h', toks := tk } := fun tk => I1.un (t' := tk) (Un.kept fun b o e => kp b o e) (fun a o e => (I1.hok a o e).stay (fun b u _ q => kp b u q) (fun _ q => q) fun _ _ q => q)
      wpAny_formatField_str ⟨.str _, H1, I2 _, ⟨_, rfl⟩, q⟩ ⟨.str _, H1, I2 _, ⟨_, rfl⟩, q⟩ h4
    have hu := hr.units
    cases hw with
    | non => cases r; exact pyReprObj_none (fin _ _ _ fun _ _ e => e)
    | bl b => cases r; exact pyReprObj_bool (fin _ _ _ fun _ _ e => e)
    | int i => obtain ⟨t, rfl⟩ := r; exact pyReprObj_int (by simpa [PyData.showable] using h1) (fin _ _ _ fun _ _ e => e)
    | str x => obtain ⟨t, rfl⟩ := r; exact pyReprObj_str (fin _ _ _ fun _ _ e => e) h4
    | lst a1 a2 =>
      obtain ⟨as, rd⟩ := I1.reads (.lst a1 a2) r
      cases r
      exact pyReprObj_of_reads rd h1 (PyData.noDict_hsm h2) hr.gd (by omega) (fun _ _ e => e) (fun h' u tk kp => fin h' u tk kp) h4
    | tup a1 a2 =>
      obtain ⟨as, rd⟩ := I1.reads (.tup a1 a2) r
      cases r
      exact pyReprObj_of_reads rd h1 (PyData.noDict_hsm h2) hr.gd (by omega) (fun _ _ e => e) (fun h' u tk kp => fin h' u tk kp) h4)
def tJoins : List TE -> Str -> TE
  | [], acc => fun _ H Q => Q (.str acc) H
  | t :: ts, acc => fun σ H Q => t σ H fun v H1 => ∃ y, v = .str y /\ (acc ++ y).length <= sizeLine /\ tJoins ts (acc ++ y) σ H1 Q
structure QJ (X : Cx) (es : List Expr) (ts : List TE) : Prop where
  h : ∀ (acc : Str) (pins : List (Addr × Obj)) (s : Shared) (σ : St) (H : Hp) (Q : VK), acc.length <= sizeLine -> Inv X pins σ H s -> tJoins ts acc σ H Q -> Joins (model X.prog X.w) X.A X.xe (evalEach es X.env) acc (fun out s1 => out.length <= sizeLine /\ EP X pins σ Q (.str out s1.toks) { s1 with toks := s1.toks + 1 }) s
theorem qj_nil : QJ X [] [] := ⟨fun acc pins s σ H Q ha I h => ⟨ha, .str acc, H, I.tok _, ⟨_, rfl⟩, h⟩⟩
theorem qj_cons {es : List Expr} {ts : List TE} (he : QE X e te) (hr : QJ X es ts) : QJ X (e :: es) (te :: ts) := ⟨fun acc pins s σ H Q ha I h => by
  show wpAny _ _ (eval e X.env) _ _ _
  refine thn (he.h pins s σ H _ I h) fun u s1 ⟨v, H1, I1, r, y, ev, hy, q⟩ => ?_
  subst ev
  obtain ⟨t, rfl⟩ := r
  exact ⟨y, t, rfl, hy, hr.h _ _ _ _ _ _ hy I1 q⟩⟩
theorem qe_join {e2 : Expr} {es : List Expr} {ts : List TE} (h : QJ X (e :: e2 :: es) ts) : QE X (.JoinedStr (e :: e2 :: es) pos) (tJoins ts Str.empty) := ⟨fun pins s σ H Q I q => wpAny_JoinedStr (h.h _ _ _ _ _ _ (by decide) I q)⟩
theorem qe_fmt (he : QE X e te) : QE X (.FormattedValue e (-1) none pos) (tFmt te) := ⟨pe_fmt he.h⟩
theorem qe_rep (hr : Room k X.A) (he : QE X e te) : QE X (.FormattedValue e 114 none pos) (tRep X.K te) := ⟨pe_rep hr he.h⟩
end
end L2
namespace L2
open PySem PySem.Spec PyProof.Rows
section
variable {X : Cx}
theorem qs_raise {x : Str} {C : Addr} {e : Expr} {es : List Expr} {t : TA} {np cpos pos : Pos} {EX : Hp -> Prop} (hc : X.calm = true) (hg : Gl X x) (hm : X.mg x = some (.ref C)) (he : ExcC X.K C) (ha : QA X (e :: es) t)
    (hx : ∀ pins σ H s h' a vs, Inv X pins σ H s -> Heap.MadeExcOf s.heap h' a (.ref C) vs -> EX H -> X.xe (.ref a) { s with heap := h' })
    (hd : (x == ("__debug__" : Str)) = false := by decide) (hst : starEach (e :: es) X.env = (false, eval e X.env) :: starEach es X.env := by rfl) (hpl : (backTo cpos (starEach es X.env)).any (·.1) = false := by rfl) :
    QS X (.Raise (some (.Call (.Name x np) (e :: es) [] cpos)) none pos) (tRaise EX t) := ⟨ps_raise hc hg hm he ha.h hx hd hst hpl⟩
variable {k : Nat} {f Dc : Addr} {fd : FuncData} {ps : List Str} {sp : Sp} {x dn n : Str} {i : Nat} {p cpos epos np hpos pos : Pos} {e : Expr} {es : List Expr} {t : TA} {ts : TS} {b0 : Stmt} {suite : List Stmt}
theorem qs_try (F : FnOk X.prog X.w X.K X.mg X.base (CXe X.prog X.w) k f fd ps sp) (hr : Room k X.A) (hg : Gl X x) (hm : X.mg x = some (.ref f)) (hk : PySem.W.keepIn X.K (.ref f) = true) (hb : Binds X.K fd ps [])
    (ha : QA X.nox (e :: es) t) (hgD : Gl X dn) (hmD : X.mg dn = some (.ref Dc)) (hD : ExcC X.K Dc) (hN : X.N.Nodup) (hi : X.N[i]? = some n) (hn : X.env.scope.names.lookup n = some .local) (hstk : X.stack = X.env :: X.outer) (hfr : X.env.frame = some X.env.locals) (hex : X.ex = [])
    (hs : ∀ a, QSs (X.hand a) (b0 :: suite) ts)
    (hdb : (x == ("__debug__" : Str)) = false := by decide) (hdd : (dn == ("__debug__" : Str)) = false := by decide) (he : starEach (e :: es) X.env = (false, eval e X.env) :: starEach es X.env := by rfl) (hpl : (backTo cpos (starEach es X.env)).any (·.1) = false := by rfl)
    (hsw : swapsWith (.Call (.Name x p) (e :: es) [] cpos) none epos.line X.env = pure false := by rfl) :
    QS X (.Try [.Expr (.Call (.Name x p) (e :: es) [] cpos) epos] [.ExceptHandler (some (.Name dn np)) (some n) (b0 :: suite) hpos] [] [] pos) (tTry X.K Dc i sp t ts) :=
  ⟨ps_try F hr hg hm hk hb ha.h hgD hmD hD hN hi hn hstk hfr hex (fun a => (hs a).h) hdb hdd he hpl hsw⟩
end
end L2
namespace L2
open PySem PySem.Spec PyProof.Rows
section
variable {κ : Type} [DecidableEq κ]
def valV (kvs : List (κ × V)) (k : κ) : Option V := (kvs.find? fun kv => decide (kv.1 = k)).map (·.2)
def putK (kvs : List (κ × V)) (k : κ) (v : V) : List (κ × V) :=
  if (kvs.any fun kv => decide (kv.1 = k)) = true then kvs.map (fun kv => if kv.1 = k then (kv.1, v) else kv) else kvs ++ [(k, v)]
theorem valV_pos {p : κ × V} {r : List (κ × V)} {k : κ} (e : p.1 = k) : valV (p :: r) k = some p.2 := by simp [valV, List.find?_cons, e]
theorem valV_neg {p : κ × V} {r : List (κ × V)} {k : κ} (e : ¬ p.1 = k) : valV (p :: r) k = valV r k := by simp [valV, List.find?_cons, e]
theorem length_putK (kvs : List (κ × V)) (k : κ) (v : V) : (putK kvs k v).length <= kvs.length + 1 := by
  unfold putK
  split
  · rw [List.length_map]; omega
  · rw [List.length_append, List.length_cons, List.length_nil]; omega
theorem KV.val {kvs : List (κ × V)} {vs : List (κ × Value)} (r : KV kvs vs) (k : κ) : RelO (valV kvs k) (valueAt vs k) := by
  unfold KV at r
  induction r with
  | nil => exact True.intro
  | @cons p q ps qs h t ih =>
    obtain ⟨h1, h2⟩ := h
    by_cases e : p.1 = k
    · have e' : q.1 = k := h1.symm.trans e
      have b : valueAt (q :: qs) k = some q.2 := by simp [valueAt, List.find?_cons, e']
      rw [valV_pos e, b]; exact h2
    · have e' : ¬ q.1 = k := fun z => e (h1.trans z)
      have b : valueAt (q :: qs) k = valueAt qs k := by simp [valueAt, List.find?_cons, e']
      rw [valV_neg e, b]; exact ih
theorem KV.any {kvs : List (κ × V)} {vs : List (κ × Value)} (r : KV kvs vs) (k : κ) : (kvs.any fun kv => decide (kv.1 = k)) = vs.any fun kv => decide (kv.1 = k) := by
  unfold KV at r
  induction r with
  | nil => rfl
  | cons h t ih => rw [List.any_cons, List.any_cons, ih, h.1]
theorem KV.repl {kvs : List (κ × V)} {vs : List (κ × Value)} (r : KV kvs vs) (k : κ) {y : V} {u : Value} (ry : RelV y u) :
    KV (kvs.map fun kv => if kv.1 = k then (kv.1, y) else kv) (vs.map fun kv => if kv.1 = k then (kv.1, u) else kv) := by
  unfold KV at r ⊢
  induction r with
  | nil => exact .nil
  | @cons p q ps qs h t ih =>
    rw [List.map_cons, List.map_cons]
    refine .cons ?_ ih
    obtain ⟨h1, h2⟩ := h
    by_cases e : p.1 = k
    · rw [if_pos e, if_pos (h1.symm.trans e)]; exact ⟨h1, ry⟩
    · rw [if_neg e, if_neg (fun z => e (h1.trans z))]; exact ⟨h1, h2⟩
theorem KV.put {kvs : List (κ × V)} {vs : List (κ × Value)} (r : KV kvs vs) (k : κ) {y : V} {u : Value} (ry : RelV y u) : KV (putK kvs k y) (stored vs k u) := by
  unfold putK stored
  rw [r.any k]
  by_cases e : (vs.any fun kv => decide (kv.1 = k)) = true
  · rw [if_pos e, if_pos e]; exact r.repl k ry
  · rw [if_neg e, if_neg e]; exact Paired.snoc r ⟨rfl, ry⟩
end
theorem kV_is {P : Program} {w : World} {k : Key} {u : Value} (r : RelV (kV k) u) : (mixKind P w).is k u = true := by
  cases k with
  | inl i => obtain ⟨t, e⟩ := (show ∃ t, u = Value.int i t from r); subst e; exact mixKind_int P w i t
  | inr x => obtain ⟨t, e⟩ := (show ∃ t, u = Value.str x t from r); subst e; exact mixKind_str P w x t
theorem items_are {P : Program} {w : World} : ∀ {ks : List Key} {us : List Value}, Vals (ks.map kV) us -> ItemsAre (mixKind P w) ks us
  | [], _, r => by rw [List.map_nil] at r; cases r; exact .nil
  | k :: ks, _, r => by
    rw [List.map_cons] at r
    cases r with
    | cons h t => exact .cons (kV_is h) (items_are t)
abbrev KT (H : Hp) : List (List Key × V) -> List (List Key × Addr × Value) -> Prop := Paired fun p q => p.1 = q.1 /\ H q.2.1 = some (.tup (p.1.map kV)) /\ RelV p.2 q.2.2
theorem KT.val {H : Hp} {kvs : List (List Key × V)} {xs : List (List Key × Addr × Value)} (r : KT H kvs xs) (k : List Key) : RelO (valV kvs k) ((atKey xs k).map (·.2)) := by
  induction r with
  | nil => exact True.intro
  | @cons p q ps qs h t ih =>
    obtain ⟨h1, _, h2⟩ := h
    by_cases e : p.1 = k
    · have e' : q.1 = k := h1.symm.trans e
      have b : atKey (q :: qs) k = some q.2 := by simp [atKey, List.find?_cons, e']
      rw [valV_pos e, b]; exact h2
    · have e' : ¬ q.1 = k := fun z => e (h1.trans z)
      have b : atKey (q :: qs) k = atKey qs k := by simp [atKey, List.find?_cons, e']
      rw [valV_neg e, b]; exact ih
section
variable {P : Program} {w : World} {H : Hp} {h : Heap} {a : Addr}
theorem rd_of {u : HO} (ok : HOk P w H h) (e : Rd H a u) : ObjOk P w H h a u := e.ok ok
theorem dk_rd {kvs : List (Key × V)} (ok : HOk P w H h) (e : Rd H a (.dK kvs)) : kvs.length <= sizeLine /\ (a == sysModules) = false /\ ∃ vs, KV kvs vs /\ h.DictOf (mixKind P w) a vs :=
  show ObjOk P w H h a (.dK kvs) from rd_of ok e
theorem dk_of {kvs : List (Key × V)} (ok : HOk P w H h) (e : H a = some (.dK kvs)) : kvs.length <= sizeLine /\ (a == sysModules) = false /\ ∃ vs, KV kvs vs /\ h.DictOf (mixKind P w) a vs := dk_rd ok (.inl e)
theorem key_of {ks : List Key} (ok : HOk P w H h) (e : H a = some (.tup (ks.map kV))) : (tupleKind (mixKind P w)).is h ks a := by
  obtain ⟨_, its, r, o, h1, h2, n, h3⟩ := (show ObjOk P w H h a (.tup (ks.map kV)) from ok a _ e)
  exact ⟨o, its.toArray, n, h1, h2, h3, by simpa using items_are r⟩
theorem dt_rd {kvs : List (List Key × V)} (ok : HOk P w H h) (e : Rd H a (.dT kvs)) : kvs.length <= sizeLine /\ (a == sysModules) = false /\
    ∃ xs, KT H kvs xs /\ h.DictOfH (tupleKind (mixKind P w)) a xs := by
  obtain ⟨z, y, xs, r, o, es, ep, h1, h2, h3, h4, h5⟩ := (show ObjOk P w H h a (.dT kvs) from rd_of ok e)
  refine ⟨z, y, xs, r, o, es, ep, h1, h2, h3, h4, fun x hx => ?_, h5⟩
  have all : ∀ {l : List (List Key × V)} {m : List (List Key × Addr × Value)}, KT H l m -> ∀ x ∈ m, (tupleKind (mixKind P w)).is h x.1 x.2.1 := by
    intro l m q
    induction q with
    | nil => intro x hx; exact nomatch hx
    | @cons p q ps qs hq t ih =>
      intro x hx
      rcases List.mem_cons.mp hx with e | hx
      · subst e
        exact key_of ok (by rw [<- hq.1]; exact hq.2.1)
      · exact ih x hx
  exact all r x hx
end
def DGet (H : Hp) (a : Addr) (y : V) (r : Option V) : Prop :=
  (∃ kvs k, Rd H a (.dK kvs) /\ y = kV k /\ r = valV kvs k) \/ ∃ kvs k b, Rd H a (.dT kvs) /\ y = .ref b /\ H b = some (.tup (k.map kV)) /\ r = valV kvs k
section
variable {X : Cx} {pins : List (Addr × Obj)} {σ : St} {H : Hp} {s : Shared} {a : Addr} {y v : V} {u r : Value} {o : Option V} {A : Around} {E : Value -> Shared -> Prop}
theorem Inv.big (I : Inv X pins σ H s) : sysModules < s.heap.objs.size := by
  have h : mainGlobals < s.heap.objs.size := (I.mod.glob.keeps I.bk).lt
  exact Nat.lt_trans (by decide) h
theorem d_getItem {Q : Value -> Shared -> Prop} (hu : A.units + 1 < cLine) (I : Inv X pins σ H s) (g : DGet H a y (some v)) (ry : RelV y u) (h : ∀ w' s', Inv X pins σ H s' -> RelV v w' -> Q w' s') :
    wpAny (model X.prog X.w) A (getItem (.ref a) u) Q E s := by
  rcases g with ⟨kvs, k, e, ey, l⟩ | ⟨kvs, k, b, e, ey, eb, l⟩
  · subst ey
    obtain ⟨z, hd, vs, rel, dd⟩ := dk_rd I.hok e
    obtain ⟨w', hw, rw'⟩ := RelO.some_of (v := v) (o := valueAt vs k) (by rw [l]; exact rel.val k)
    exact wpAny_getItem_of (kV_is ry) dd.mapOf hw (h w' _ (I.tok _) rw')
  · subst ey
    cases (show u = Value.ref b from ry)
    obtain ⟨z, hd, xs, rel, dd⟩ := dt_rd I.hok e
    obtain ⟨w', hw, rw'⟩ := RelO.some_of (v := v) (o := (atKey xs k).map (·.2)) (by rw [l]; exact rel.val k)
    obtain ⟨p, hp, hp2⟩ := Option.map_eq_some_iff.mp hw
    refine wpAny_getItem_heap (tupleKind_room_in1 hu) (key_of I.hok eb) dd hp ?_
    rw [hp2]
    exact h w' _ (I.tok _) rw'
theorem d_write {h' : Heap} {t' : Nat} {ob : HO} (I : Inv X pins σ H s) (mu : Mut (H a)) (hs : Heap.SameBut a s.heap h') (he : ∃ q, h'.get? a = some q) (new : ObjOk X.prog X.w (upd H a ob) h' a ob) :
    Inv X pins σ (upd H a ob) { s with heap := h', toks := t' } :=
  I.write (x := a) (e := a) mu (.inl rfl) (fun b q hb z => (hs.2 b hb).trans z) he new
theorem dk_new {P : Program} {w : World} {H' : Hp} {h' : Heap} {kvs : List (Key × V)} {vs : List (Key × Value)} (z : kvs.length <= sizeLine) (hd : (a == sysModules) = false) (rel : KV kvs vs) (dd : h'.DictOf (mixKind P w) a vs) :
    ObjOk P w H' h' a (.dK kvs) := ⟨z, hd, vs, rel, dd⟩
end
section
variable {X : Cx} {pins : List (Addr × Obj)} {σ : St} {H : Hp} {s : Shared} {a : Addr} {kvs : List (Key × V)} {k : Key} {u : Value} {A : Around} {E : Value -> Shared -> Prop}
end
def NoSl (i : Expr) : Prop := ∀ ov iv, subscripted i false ov iv = operate [ov, iv] (getItem ov iv)
theorem subD_of {prog : Program} {w : World} {A : Around} {E : Value -> Shared -> Prop} {s : Shared} {env : Env} {value slice : Expr} {pos : Pos} {T id : String} {Q : Value -> Shared -> Prop}
    (hl : typeLookup (.type T) "__getitem__" = pure (some (.builtin id))) (hs : NoSl slice)
    (h : wpAny (model prog w) A (eval value env) (fun o s₁ => wpAny (model prog w) A (eval slice env) (fun i s₂ => s₂.TypeIs o T /\ wpAny (model prog w) A (getItem o i) Q E s₂) E s₁) E s) :
    wpAny (model prog w) A (eval (.Subscript value slice pos) env) Q E s := by
  refine Subscript_ (wpAny_mono h (fun o s₁ h₁ => wpAny_mono h₁ (fun i s₂ h₂ => ?_) fun _ _ x => x) fun _ _ x => x)
  obtain ⟨hT, h₂⟩ := h₂
  unfold subscriptTail
  refine wpAny_bind ?_
  rw [getitemInPython_of_ne hT.not_modules]
  refine wpAny_bind (wpAny_specialOf hT hl ?_)
  have fin : wpAny (model prog w) A (subscripted slice false o i) (fun r s₃ => wpAny (model prog w) A (letTemporaryGo value o r >>= fun _ => pure r) Q E s₃) E s₂ := by
    rw [hs o i]
    exact wpAny_operating (wpAny_mono h₂ (fun r s₃ h₃ => wpAny_bind (wpAny_letTemporaryGo (wpAny_pure h₃))) fun _ _ x => x)
  first
    | exact wpAny_pure (wpAny_bind fin)
    | exact wpAny_bind (wpAny_pure (wpAny_bind fin))
    | exact wpAny_bind fin
theorem dict_typeIs {X : Cx} {pins : List (Addr × Obj)} {σ : St} {H : Hp} {s : Shared} {a : Addr} {y : V} {o : Option V} (I : Inv X pins σ H s) (g : DGet H a y o) : s.TypeIs (.ref a) "dict" := by
  rcases g with ⟨kvs, k, e, _, _⟩ | ⟨kvs, k, b, e, _, _, _⟩
  · obtain ⟨_, _, vs, _, dd⟩ := dk_rd I.hok e
    exact dd.typeIs
  · obtain ⟨_, _, xs, _, dd⟩ := dt_rd I.hok e
    exact dd.typeIs
def tDGet (td ty : TE) : TE := fun σ H Q => td σ H fun x H1 => ty σ H1 fun y H2 => ∃ a v, x = .ref a /\ DGet H2 a y (some v) /\ Q v H2
section
variable {X : Cx} {o i e value : Expr} {pos pos' tpos : Pos} {td ty tv : TE}
theorem pe_dget (hu : X.A.units + 1 < cLine) (ho : PE X o td) (hi : PE X i ty) (hs : NoSl i) : PE X (.Subscript o i pos) (tDGet td ty) := by
  intro pins s σ H Q I h
  refine subD_of PySem.F.slot_dict_getitem.lookup hs (thn (ho pins s σ H _ I h) fun u s1 ⟨x, H1, I1, rx, q1⟩ => thn (hi pins s1 σ H1 _ I1 q1) fun iv s2 ⟨y, H2, I2, ry, a, v, ex, g, q2⟩ => ?_)
  subst ex
  obtain rfl : u = Value.ref a := rx
  exact ⟨dict_typeIs I2 g, d_getItem hu I2 g ry fun w' s3 I3 rw' => ⟨v, H2, I3, rw', q2⟩⟩
end
theorem dk_empty {P : Program} {w : World} {H : Hp} (h : Heap) (hb : sysModules < h.objs.size) : ObjOk P w H (h.push { cls := .type "dict", data := .dict #[] }) h.objs.size (.dK []) :=
  ⟨Nat.zero_le _, beq_eq_false_iff_ne.mpr (Ne.symm (Nat.ne_of_lt hb)), [], .nil, Heap.DictOf.new h⟩
section
variable {X : Cx} {pos : Pos}
end
def tPairs : List (TE × TE) -> St -> Hp -> (List (V × V) -> Hp -> Prop) -> Prop
  | [], _, H, Q => Q [] H
  | (tk, tv) :: r, σ, H, Q => tk σ H fun x H1 => tv σ H1 fun y H2 => tPairs r σ H2 fun ps H3 => Q ((x, y) :: ps) H3
abbrev VV : List (V × V) -> List (Value × Value) -> Prop := Paired fun p q => RelV p.1 q.1 /\ RelV p.2 q.2
def PPs (X : Cx) (pos : Pos) (keys : List (Option Expr)) (values : List Expr) (trs : List (TE × TE)) : Prop :=
  ∀ (pins : List (Addr × Obj)) (s : Shared) (σ : St) (H : Hp) (Q : List (V × V) -> Hp -> Prop), Inv X pins σ H s -> tPairs trs σ H Q ->
    wpAny (model X.prog X.w) X.A (evalPairs (pairTrees keys values X.env pos)) (fun vs s' => ∃ ps H', Inv X pins σ H' s' /\ VV ps vs /\ Q ps H') X.xe s
theorem pps_nil {X : Cx} {pos : Pos} : PPs X pos [] [] [] := fun pins s σ H Q I h => pairTrees_nil_walk ⟨[], H, I, .nil, h⟩
theorem pps_cons {X : Cx} {pos : Pos} {k v : Expr} {ks : List (Option Expr)} {vs : List Expr} {tk tv : TE} {trs : List (TE × TE)} (hk : PE X k tk) (hv : PE X v tv) (hr : PPs X pos ks vs trs) :
    PPs X pos (some k :: ks) (v :: vs) ((tk, tv) :: trs) := fun pins s σ H Q I h =>
  pairTrees_cons_walk (thn (hk pins s σ H _ I h) fun u s1 ⟨x, H1, I1, rx, q1⟩ => thn (hv pins s1 σ H1 _ I1 q1) fun w2 s2 ⟨y, H2, I2, ry, q2⟩ =>
    thn (hr pins s2 σ H2 _ I2 q2) fun ws s3 ⟨ps, H3, I3, rel, q3⟩ => ⟨(x, y) :: ps, H3, I3, .cons ⟨rx, ry⟩ rel, q3⟩)
def mergeK (kvs more : List (Key × V)) : List (Key × V) := more.foldl (fun acc kv => putK acc kv.1 kv.2) kvs
theorem KV.merge : ∀ {more : List (Key × V)} {rs : List (Key × Value)} {kvs : List (Key × V)} {vs : List (Key × Value)}, KV more rs -> KV kvs vs -> KV (mergeK kvs more) (merged vs rs) := by
  intro more rs kvs vs r
  unfold KV at r
  induction r generalizing kvs vs with
  | nil => intro q; exact q
  | @cons p q ps qs h t ih =>
    intro r0
    have e : KV (putK kvs p.1 p.2) (stored vs q.1 q.2) := by
      have := r0.put p.1 h.2
      rw [<- h.1]; exact this
    exact ih e
theorem length_mergeK : ∀ (more kvs : List (Key × V)), (mergeK kvs more).length <= kvs.length + more.length
  | [], kvs => by show kvs.length <= kvs.length + 0; omega
  | p :: r, kvs => by
    have h1 := length_mergeK r (putK kvs p.1 p.2)
    have h2 := length_putK kvs p.1 p.2
    show (mergeK (putK kvs p.1 p.2) r).length <= _
    rw [List.length_cons]; omega
theorem carries_of {P : Program} {w : World} : ∀ {kvs : List (Key × V)} {ws : List (Value × Value)}, VV (kvs.map fun kv => (kV kv.1, kv.2)) ws -> ∃ rs, Carries (mixKind P w) ws rs /\ KV kvs rs
  | [], _, r => by rw [List.map_nil] at r; cases r; exact ⟨[], True.intro, .nil⟩
  | p :: kvs, _, r => by
    rw [List.map_cons] at r
    cases r with
    | @cons a b as bs h t =>
      obtain ⟨rs, c, q⟩ := carries_of (P := P) (w := w) t
      obtain ⟨b1, b2⟩ := b
      exact ⟨(p.1, b2) :: rs, ⟨kV_is h.1, rfl, c⟩, .cons ⟨rfl, h.2⟩ q⟩
def tDisp (trs : List (TE × TE)) : TE := fun σ H Q => ∀ p, H p = none -> tPairs trs σ (upd H p (.dK [])) fun ps H2 => H2 p = some (.dK []) /\ ∃ kvs : List (Key × V), ps = kvs.map (fun kv => (kV kv.1, kv.2)) /\ kvs.length <= 15 /\ Q (.ref p) (upd H2 p (.dK (mergeK [] kvs)))
theorem pe_disp {X : Cx} {pos : Pos} {keys : List (Option Expr)} {values : List Expr} {trs : List (TE × TE)} (h : PPs X pos keys values trs) (hall : keys.all (·.isSome) = true) (hl : keys.length = values.length) (h0 : keys ≠ [])
    (h15 : keys.length <= 15) : PE X (.Dict keys values pos) (tDisp trs) := by
  intro pins s σ H Q I q
  have hn := I.hok.fresh (Nat.le_refl s.heap.objs.size)
  have I1 := I.laid (a := s.heap.objs.size) (o := .dK []) (h' := s.heap.push { cls := .type "dict", data := .dict #[] }) (t' := s.toks) (fun _ _ q => Heap.get?_push_of_some _ q) (Nat.le_refl _) (dk_empty s.heap I.big)
  refine wpAny_Dict_walk (knd := mixKind X.prog X.w) hall hl h0 h15 (thn (h pins _ σ _ _ I1 (q _ hn)) fun ws s2 ⟨ps, H2, I2, rel, e, kvs, ep, lk, q2⟩ => ?_)
  subst ep
  obtain ⟨rs, c, rk⟩ := carries_of (P := X.prog) (w := X.w) rel
  obtain ⟨z, hd, vs0, r0, dd⟩ := dk_of I2.hok e
  cases r0
  refine ⟨rs, c, dd, fun h' dd' hs => ⟨.ref s.heap.objs.size, _, ?_, rfl, q2⟩⟩
  have hz : (mergeK [] kvs).length <= sizeLine := by
    have h1 := length_mergeK kvs []
    rw [List.length_nil] at h1
    rw [sizeLine_eq]; omega
  have he : ∃ q, h'.get? s.heap.objs.size = some q := let ⟨q, _, _, hq, _⟩ := dd'; ⟨q, hq⟩
  exact d_write I2 (by rw [e]; exact True.intro) hs he (dk_new hz hd (rk.merge .nil) dd')
section
variable {X : Cx} {pins : List (Addr × Obj)} {σ : St} {H : Hp} {s : Shared} {a : Addr} {y d : V} {u r : Value} {o : Option V} {A : Around} {E : Value -> Shared -> Prop}
end
section
variable {X : Cx} {o e f : Expr} {apos cpos : Pos} {td ty tx : TE}
end
section
variable {X : Cx} {pins : List (Addr × Obj)} {σ : St} {H : Hp} {s : Shared} {a : Addr} {kvs : List (Key × V)} {A : Around} {E : Value -> Shared -> Prop}
end
section
variable {X : Cx} {pins : List (Addr × Obj)} {σ : St} {H : Hp} {s : Shared} {a : Addr} {y : V} {u : Value} {A : Around} {E : Value -> Shared -> Prop}
end
end L2
namespace L2
open PySem PySem.Spec PyProof.Rows
section
variable {X : Cx}
end
section
variable {κ : Type} [DecidableEq κ]
end
end L2
namespace L2
open PySem PySem.Spec PyProof.Rows
section
variable {X : Cx}
end
end L2
namespace L2
open PySem PySem.Spec PyProof.Rows
section
variable {X : Cx} {tg : Expr}
end
end L2
namespace L2
open PySem PySem.Spec PySem.Calls PyProof.Rows Builtin Builtin.Str
section
variable {X : Cx}
end
end L2
namespace L2
open PySem PySem.Spec PySem.Calls PyProof.Rows Builtin Builtin.Tuple
theorem noFill_tuple_mul : fillsNumberSlot (.type "tuple") "mul" = pure false :=
  PySem.fillsNumberSlot_seq (id := "tuple.__mul__") (r := some (.builtin "tuple.__rmul__")) PySem.F.slot_tuple_mul.lookup (by decide +kernel) PySem.F.slot_tuple_rmul.lookup (by decide +kernel)
theorem repeat_tuple : seqRepeat? (.type "tuple") = pure (some (.builtin "tuple.__mul__")) := by
  unfold seqRepeat?
  rw [PySem.seqSlot_of (T := "tuple") (name := "__mul__") (id := "tuple.__mul__") PySem.F.slot_tuple_mul.lookup (by decide +kernel), PySem.seqSlot_of (T := "tuple") (name := "__rmul__") (id := "tuple.__rmul__") PySem.F.slot_tuple_rmul.lookup (by decide +kernel)]
  rfl
theorem int_rmul_tuple (a : Int) (t : Tok) (l : Addr) (items : Array Value) (n : Nat) (dd : Option Addr) (sl : Array (Option Value)) :
    Meets (Builtin.«int.__rmul__» ⟨[.int a t, .ref l], []⟩) (fun _ R s => s.heap.get? l = some { cls := .type "tuple", dict := dd, data := .seq items n, slots := sl } /\ R (.ok (.ret Value.notImplemented)) s) :=
  .of_wp fun prog w A R s h => by obtain ⟨hp, g, d, tk, os⟩ := s; obtain ⟨hl, h⟩ := h; wp_walk using wpAny_loadPart' hl; exact ⟨_, rfl, h⟩
section
variable {X : Cx}
end
end L2
namespace L2
open PySem PySem.Spec PyProof.Rows
section
variable {X : Cx} {pins : List (Addr × Obj)} {σ : St} {H : Hp} {s : Shared} {h' : Heap}
theorem Inv.turnedT {t' : Nat} {wr : List Addr} {T : Addr} {vs : List V} {its : List Value} (I : Inv X pins σ H s) (k : ∀ b o, b ∉ wr -> s.heap.get? b = some o -> h'.get? b = some o) (hf : ∀ b ∈ wr, FpOk X pins H b)
    (hT : s.heap.objs.size <= T) (hz : vs.length <= sizeLine) (hv : Vals vs its) (ht : IsTup h' T its.toArray) : Inv X pins σ (upd H T (.tup vs)) { s with heap := h', toks := t' } := by
  have hn : H T = none := I.hok.fresh hT
  have nw : ∀ b u, H b = some u -> b ∉ wr := fun b u e z => by
    have := (hf b z).1
    rw [this] at e
    cases e
  have nT : ∀ b o, s.heap.get? b = some o -> b ≠ T := fun b o e z => by
    subst z
    exact absurd (Nat.lt_of_lt_of_le (Heap.lt_size e) hT) (Nat.lt_irrefl _)
  refine I.step (H' := upd H T (.tup vs)) (g' := s.gens) (d' := s.drawn) (ch := wr) (fun b hb => ?_) (fun b o _ _ hc e _ => k b o hc e) (fun b o _ _ hc e _ => ⟨o.slots, k b o hc e⟩) (fun b o _ e n => by rw [upd_ne (nT b o e)]; exact n)
    (fun b o hc e => ⟨o, k b o hc e⟩) (fun b xs e => by rw [upd_ne (ne_of_none e hn)]; exact e) (fun b o u e => by rw [upd_ne (ne_of_none e hn)]; exact e) (fun b ps e => ⟨#[], by rw [upd_ne (ne_of_none e hn), e]; simp⟩) (fun m hm => ?_) (fun b u e => ?_) I.bare
  · obtain ⟨f0, f1, f2, f3, f4, f5⟩ := hf b hb
    exact ⟨f3, f1, f4, f5⟩
  · obtain ⟨o, es, ep, ho, r⟩ := hm
    exact ⟨o, es, ep, k _ o (fun z => (hf _ z).2.1 rfl) ho, r⟩
  · by_cases hb : b = T
    · subst hb
      rw [upd_same] at e
      cases e
      exact ⟨hz, its, hv, ht⟩
    · rw [upd_ne hb] at e
      refine (I.hok b u e).stay (fun c v hc q => k c v ?_ q) (fun c q => by rw [upd_ne (ne_of_none q hn)]; exact q) fun c xs q => by rw [upd_ne (ne_of_none q hn)]; exact q
      rcases hc with z | z
      · rw [z]; exact nw b u e
      · exact nw c _ z
theorem Inv.turnedL {t' : Nat} {wr : List Addr} (I : Inv X pins σ H s) (k : ∀ b o, b ∉ wr -> s.heap.get? b = some o -> h'.get? b = some o) (hf : ∀ b ∈ wr, FpOk X pins H b) : Inv X pins σ H { s with heap := h', toks := t' } := by
  have nw : ∀ b u, H b = some u -> b ∉ wr := fun b u e z => by
    have := (hf b z).1
    rw [this] at e
    cases e
  refine I.step (g' := s.gens) (d' := s.drawn) (ch := wr) (fun b hb => ?_) (fun b o _ _ hc e _ => k b o hc e) (fun b o _ _ hc e _ => ⟨o.slots, k b o hc e⟩) (fun _ _ _ _ n => n)
    (fun b o hc e => ⟨o, k b o hc e⟩) (fun _ _ e => e) (fun _ _ _ e => e) (fun b ps e => ⟨#[], by rw [e]; simp⟩) (fun m hm => ?_) (fun b u e => ?_) I.bare
  · obtain ⟨f0, f1, f2, f3, f4, f5⟩ := hf b hb
    exact ⟨f3, f1, f4, f5⟩
  · obtain ⟨o, es, ep, ho, r⟩ := hm
    exact ⟨o, es, ep, k _ o (fun z => (hf _ z).2.1 rfl) ho, r⟩
  · refine (I.hok b u e).stay (fun c v hc q => k c v ?_ q) (fun _ q => q) fun _ _ q => q
    rcases hc with z | z
    · rw [z]; exact nw b u e
    · exact nw c _ z
end
def ItW (n : Nat) (G : Hp -> Prop) (R : Nat -> List V -> Prop) : It :=
  ⟨fun i H => i < n /\ G H, fun i H x H' => ∃ T vs, x = .ref T /\ H T = none /\ R i vs /\ H' = upd H T (.tup vs), fun i H => i = n /\ G H⟩
theorem for_wt {n : Nat} {G : Hp -> Prop} {R : Nat -> List V -> Prop} {g : TG} {tb : TS} {D : Ends} {σ : St} {H : Hp} (Pv : Nat -> St -> Hp -> Prop) (h0 : Pv 0 σ H) (hg : ∀ i σ H, i <= n -> Pv i σ H -> G H)
    (hs : ∀ i T vs σ H, i < n -> R i vs -> Pv i σ H -> H T = none -> g (.ref T) σ (upd H T (.tup vs)) fun σ2 H2 => tb { D with nx := Pv (i + 1), ct := Pv (i + 1), bk := D.nx } σ2 H2) (hd : ∀ σ H, Pv n σ H -> D.nx σ H) :
    ∃ W : Nat -> Nat -> St -> Hp -> Prop, (∃ m, W 0 m σ H) /\ ∀ i m σ H, W i m σ H ->
      ((ItW n G R).stop i H /\ D.nx σ H) \/ ((ItW n G R).go i H /\ ∃ N : St -> Hp -> Prop, (∀ σ' H', N σ' H' -> ∃ m', m' < m /\ W (i + 1) m' σ' H') /\ ∀ x H', (ItW n G R).yld i H x H' -> g x σ H' fun σ2 H2 => tb { D with nx := N, ct := N, bk := D.nx } σ2 H2) := by
  refine ⟨fun i m σ H => m = n - i /\ i <= n /\ Pv i σ H, ⟨n, by simp, Nat.zero_le _, h0⟩, ?_⟩
  rintro i m σ H ⟨rfl, hi, p⟩
  have q := hg i σ H hi p
  by_cases hlt : i < n
  · refine .inr ⟨⟨hlt, q⟩, Pv (i + 1), fun σ' H' p' => ⟨n - (i + 1), by omega, rfl, hlt, p'⟩, fun x H' y => ?_⟩
    obtain ⟨T, vs, rfl, hT, r, rfl⟩ := y
    exact hs i T vs σ H hlt r p hT
  · have e : i = n := by omega
    subst e
    exact .inl ⟨⟨rfl, q⟩, hd σ H p⟩
section
variable {X : Cx} {elts : List Expr} {k : Nat} {tpos : Pos}
end
end L2
namespace L2
open PySem PySem.Spec PyProof.Rows
theorem ps_setC {X : Cx} {elt iter : Expr} {ifs : List Expr} {sc : Scope} {pos px py spos : Pos} {t y : Str} {ys : List Str} {js : List Nat} {wi : TI} {tc : TT} {te : TE} {g : TG} (hc : X.calm = true) (hck : compChk X.N X.env.scope sc t ys js = true)
    (hi : PI X (.Name t px) iter wi) (hf : ∀ cl C s H fp, PIf (X.comp sc cl C (t :: ys) s H fp) ifs tc) (he : ∀ cl C s H fp, PE (X.comp sc cl C (t :: ys) s H fp) elt te) (hg : PG X (.Name y py) g)
    (hsw : swapsWith (.ListComp elt [⟨.Name t px, iter, ifs, 0⟩] sc pos) (some (.Name y py)) spos.line X.env = pure true) (hs : ∀ x, foldedSetIterable iter X.env x = pure x := by intro _; rfl) :
    PS X (.Assign [.Name y py] (.ListComp elt [⟨.Name t px, iter, ifs, 0⟩] sc pos) spos) (tAsg (tComp wi js tc te) g) := by
  have ck := compOk_of hck
  intro pins s σ H D0 I h
  have hfr : ∀ x, (x, NameKind.free) ∈ sc.names -> ∃ c, X.env.cells.lookup x = some c := fun x hx => I.ok.has x (.inl (ck.fre _ hx rfl))
  obtain ⟨cl, hcl, cl1, cl2⟩ := clos_ok hfr
  rw [exec_Assign_Name_used _ _ _ _ hsw]
  refine wpAny_bind (wpAny_standAt (wpAny_bind ?_))
  show wpAny _ X.A (do let _ <- comprehension (.ListComp elt [⟨.Name t px, iter, ifs, 0⟩] sc pos) sc X.env _ (newList []) false (eval iter X.env) (some (assign (.Name y py) X.env))) _ _ s
  refine wpAny_bind (wpAny_mono (wpAny_comprehension_free (use := some (assign (.Name y py) X.env)) (Q := fun _ s' => SP X pins D0 .next s') rfl hs hcl ck.kind ck.loc (thn (hi pins s σ H _ I h) fun v s1 h1 => thn h1 fun itv s2 h2 => ?_)) (fun _ s' hq => wpAny_pure (wpAny_pure hq)) fun _ _ e => e)
  obtain ⟨it, fp, tn, J, H2, e, I2, T, st2, f2, hR⟩ := h2
  subst e
  refine wpAny_newObj_type (wpAny_newFunctionEnv ck.ncell (by intro y hy; simp at hy) (fun h1 hns hsb => ?_) ck.kind)
  dsimp only at hns hsb ⊢
  generalize hp : s2.heap.push { cls := .type "list", dict := none, data := .seq ([] : List Value).toArray } = hh at hns hsb ⊢
  have hC : hh.objs.size = s2.heap.objs.size + 1 := by rw [<- hp, Heap.size_push]
  have neD : ∀ {b : Addr}, b < s2.heap.objs.size -> b ≠ s2.heap.objs.size := fun hb => Nat.ne_of_lt hb
  have neC : ∀ {b : Addr}, b < s2.heap.objs.size -> b ≠ hh.objs.size := fun hb => by rw [hC]; exact Nat.ne_of_lt (Nat.lt_succ_of_lt hb)
  have hDC : s2.heap.objs.size ≠ hh.objs.size := by rw [hC]; exact Nat.ne_of_lt (Nat.lt_succ_self _)
  have hCle : s2.heap.objs.size <= hh.objs.size := by rw [hC]; exact Nat.le_succ _
  have old : ∀ b o, s2.heap.get? b = some o -> h1.get? b = some o := fun b o e => hsb.extBut b o (neC (Heap.lt_size e)) (Heap.get?_push_of_some _ (hp ▸ Heap.get?_push_of_some _ e))
  have hnew : h1.get? s2.heap.objs.size = some { cls := .type "list", dict := none, data := .seq ([] : List Value).toArray } := hsb.extBut _ _ hDC (Heap.get?_push_of_some _ (hp ▸ Heap.get?_push_size _ rfl))
  have fpH : ∀ b ∈ fp, ∃ o, s2.heap.get? b = some o := fun b hb => let ⟨o, e, _⟩ := T.obj 0 _ st2 b hb; ⟨o, e⟩
  have fpD : ∀ b ∈ fp, b ≠ s2.heap.objs.size := fun b hb => by obtain ⟨o, e⟩ := fpH b hb; exact neD (Heap.lt_size e)
  have fpC : ∀ b ∈ fp, b ≠ hh.objs.size := fun b hb => by obtain ⟨o, e⟩ := fpH b hb; exact neC (Heap.lt_size e)
  have fpS : ∀ b ∈ fp, b ∉ frs X.stack := fun b hb z => (List.mem_cons.mp (I2.stkSub b z)).elim (f2 b hb).2.1 (f2 b hb).2.2.1
  have hok' : (X.comp sc cl hh.objs.size (t :: ys) s2 H2 fp).Ok := by
    refine ⟨I2.ok.mod, ck.kind, I2.ok.glob, I2.ok.blt, hCle, fun x y c a b => I2.ok.inj x y c (cl1 x c a) (cl1 y c b), fun x hx => ?_, (fun x c z => nomatch z), I2.ok.hd, I2.ok.frames, .inl rfl, fun b hb => ⟨fpC b hb, fun x c a => (f2 b hb).2.2.2.2.1 x c (cl1 x c a)⟩,
      I2.bs, Nat.le_trans I2.ok.bsz I2.sz, fun b o e hb => ?_, fun b hb => fpS b hb, I2.stack, I2.stkFree⟩
    · have hx' : (sc.names.map fun (n, k) => if (k == NameKind.free && X.env.scope.kind == .function && X.env.kindOf n == some .cell) then (n, NameKind.cell) else (n, k)).lookup x = some .cell \/ (sc.names.map fun (n, k) => if (k == NameKind.free && X.env.scope.kind == .function && X.env.kindOf n == some .cell) then (n, NameKind.cell) else (n, k)).lookup x = some .free := hx
      rcases hx' with z | z
      · rcases relabel_inv z with q | ⟨_, q⟩
        · exact absurd rfl (ck.ncell _ (PySem.mem_of_lookup q))
        · exact cl2 x (PySem.mem_of_lookup q)
      · rcases relabel_inv z with q | ⟨q, _⟩
        · exact cl2 x (PySem.mem_of_lookup q)
        · cases q
    · rcases (f2 b hb).2.2.2.1 with z | z
      · exact I2.ok.noex b o e z
      · exact absurd (Nat.lt_of_lt_of_le (Heap.lt_size e) (Nat.le_trans I2.ok.bsz z)) (Nat.lt_irrefl _)
  have Iin : ∀ tk : Nat, Inv (X.comp sc cl hh.objs.size (t :: ys) s2 H2 fp) [] (none :: compS js σ) (upd H2 s2.heap.objs.size (.lst [])) { s2 with heap := h1, toks := tk } := fun tk => by
    refine ⟨hok', rfl, I2.bare, Un.laid old (Nat.le_refl _) I2.fresh, ⟨_, hns, fun i x v e1 e2 e3 => ?_⟩, fun x c e => ?_, ?_, fun x c e => ?_, fun p hp => absurd (show p ∈ ([] : List (Addr × Obj)) from hp) (by simp), I2.hok.laid old (Nat.le_refl _) ⟨Nat.zero_le _, [], 0, .nil, hnew⟩, ?_⟩
    · cases i with
      | zero => simp at e2
      | succ k =>
        have e1' : ys[k]? = some x := e1
        have e2' : (compS js σ)[k]? = some (some v) := by simpa using e2
        unfold compS at e2'
        rw [List.getElem?_map] at e2'
        have q := congrArg (fun l => l[k]?) ck.ysj
        simp only [List.getElem?_map, e1', Option.map_some] at q
        cases hj : js[k]? with
        | none => rw [hj] at q; cases q
        | some j =>
          rw [hj] at q e2'
          have q1 : X.N[j]? = some x := (Option.some.inj q).symm
          have q2 : σ[j]? = some (some v) := by
            have z : (σ[j]?).join = some v := Option.some.inj e2'
            cases hz : σ[j]? with
            | none => rw [hz] at z; cases z
            | some y => rw [hz] at z; exact congrArg some z
          have hf' := ck.ysf x (List.mem_of_getElem? e1')
          have hcell := ck.fre _ (PySem.mem_of_lookup hf') rfl
          obtain ⟨m2, hn2, hl2⟩ := I2.loc
          obtain ⟨u, ru, lk⟩ := hl2 j x v q1 q2 (.inr (.inl hcell))
          refine ⟨u, ru, ?_⟩
          rcases lk with ⟨kk, _⟩ | ⟨_, c, ec, ic⟩
          · have kk' : X.env.scope.names.lookup x = some .local := kk
            have hcell' : X.env.scope.names.lookup x = some .cell := hcell
            rw [hcell'] at kk'; cases kk'
          · obtain ⟨c', ec'⟩ := cl2 x (PySem.mem_of_lookup hf')
            have : c' = c := Option.some.inj ((cl1 x c' ec').symm.trans ec)
            subst this
            refine .inr ⟨relabel_free hf', c', ec', ?_⟩
            obtain ⟨o, ho, hd⟩ := ic
            exact ⟨o, old _ o ho, hd⟩
    · obtain ⟨v, o, ho, hd⟩ := I2.cell x c (cl1 x c e)
      exact ⟨v, o, old _ o ho, hd⟩
    · show upd H2 s2.heap.objs.size _ hh.objs.size = none
      rw [upd_ne (Ne.symm hDC)]
      exact I2.hok.fresh hCle
    · obtain ⟨v, o, ho, hd⟩ := I2.cell x c (cl1 x c e)
      rw [upd_ne (neD (Heap.lt_size ho))]
      exact I2.freeC x c (cl1 x c e)
    · show (none :: compS js σ).length = (t :: ys).length
      have q := congrArg List.length ck.ysj
      simp only [List.length_map] at q
      unfold compS
      simp only [List.length_cons, List.length_map]
      omega
  have st1 : tn 0 h1 := T.keep _ _ _ st2 fun b hb o e => old b o e
  obtain ⟨W, ⟨m0, w0⟩, turn⟩ := hR s2.heap.objs.size I2.fresh
  have fpok : ∀ {H' : Hp}, (∀ b ∈ fp, H' b = none) -> ∀ b ∈ fp, FpOk (X.comp sc cl hh.objs.size (t :: ys) s2 H2 fp) [] H' b := fun hn b hb =>
    ⟨hn b hb, fpC b hb, fpS b hb, .inl hb, fun x c a => (f2 b hb).2.2.2.2.1 x c (cl1 x c a), fun p hp => absurd (show p ∈ ([] : List (Addr × Obj)) from hp) (by simp)⟩
  have ndN : (t :: ys).Nodup := ck.nd
  have loop : ∀ s3 : Shared, s3 = { s2 with heap := h1, toks := s2.toks + ([] : List (Str × Value)).length } ->
      codeAny (model X.prog X.w) X.A (.compLoop (.ListComp elt [⟨.Name t px, iter, ifs, 0⟩] sc pos) 0 (.ref it) (.ref s2.heap.objs.size) (compEnvC sc cl hh.objs.size X.env))
        (compPost (model X.prog X.w) X.A X.xe (some (assign (.Name y py) X.env)) (fun _ s' => SP X pins D0 .next s') (.ref s2.heap.objs.size) hh.objs.size) s3 := by
    rintro s3 rfl
    refine comp_turns (fun n s' => ∃ i acc H', Inv (X.comp sc cl hh.objs.size (t :: ys) s2 H2 fp) [] (none :: compS js σ) H' s' /\ tn i s'.heap /\ (∀ b ∈ fp, H' b = none) /\ W i n acc H') ?_ m0
      ⟨0, [], _, Iin _, st1, fun b hb => by rw [upd_ne (fpD b hb)]; exact (f2 b hb).1, w0⟩
    rintro n s3 ⟨i, acc, H3, I3, st3, fr3, w3⟩
    obtain ⟨hD, hz, alt⟩ := turn i n acc H3 w3
    rcases alt with ⟨stop, q⟩ | ⟨go, step⟩
    · refine thn (T.done (X.comp sc cl hh.objs.size (t :: ys) s2 H2 fp) rfl rfl rfl hc i [] s3 _ H3 _ I3 (fpok fr3) st3 stop) fun r s4 ⟨hr, I4⟩ => ?_
      subst hr
      obtain ⟨m, hn, _⟩ := id I4.loc
      have ltC : ∀ b o, s2.heap.get? b = some o -> b ≠ hh.objs.size := fun b o e => neC (Heap.lt_size e)
      have b4 : Un (frs X.stack) fp H2 H3 s2.heap s4.heap := I4.base
      have I5 : Inv X pins σ H3 s4 := I2.call' (s' := s4) (ch := fp) I4.os ⟨fun b o e n1 n2 n3 => b4.keep b o e n1 n2 n3, fun b o e n1 n2 n3 => b4.slot b o e n1 n2 n3, b4.free, fun b o e n1 => b4.there b o e n1, b4.tups, b4.frzs, b4.tbls⟩ (fun b ob e => I4.hok b ob e) I4.bare
        (fun b hb => ⟨(f2 b hb).2.2.2.1, (f2 b hb).2.1, (f2 b hb).2.2.2.2.1, (f2 b hb).2.2.2.2.2⟩)
      have fC : FpOk X pins H3 hh.objs.size := I2.fpOk hCle I4.free
      obtain ⟨oC, es, ep, hoC, dC, rC⟩ := id hn
      have I6 : Inv X (pins ++ [(hh.objs.size, oC)]) σ H3 s4 := I5.pins_of fun p hp => (List.mem_append.mp hp).elim (fun z => I5.pin p (List.mem_append_right _ z)) fun z => by
        rw [List.mem_singleton.mp z]
        exact ⟨hoC, fC.1, fC.2.1, fC.2.2.1, fun v z => by rw [dC] at z; cases z⟩
      show wpAny _ X.A (assign (.Name y py) X.env (.ref s2.heap.objs.size)) _ _ s4
      refine thn (hg _ s4 σ H3 (.ref s2.heap.objs.size) _ _ I6 rfl q) fun _ s7 ⟨σ7, H7, I7, q7⟩ => ?_
      obtain ⟨p1, p2, p3, p4, p5⟩ := I7.pin (hh.objs.size, oC) (List.mem_append_right _ (List.mem_append_right _ (List.mem_singleton.mpr rfl)))
      refine ⟨m, ⟨oC, es, ep, p1, dC, rC⟩, fun h' sb => ⟨σ7, H7, ?_, q7⟩⟩
      exact I7.unpinned.turned (t' := s7.toks) (fun b o hb e => (sb.2 b hb).trans e) p2 p3 fC.2.2.2.1 fC.2.2.2.2.1 fC.2.2.2.2.2
    · refine thn (T.item (X.comp sc cl hh.objs.size (t :: ys) s2 H2 fp) rfl rfl rfl hc i [] s3 _ H3 _ I3 (fpok fr3) st3 go) fun r s4 ⟨u, hr, h4⟩ => ?_
      subst hr
      refine thn h4 fun _ s5 ⟨x, H5, I5, r5, y5, st5, fr5⟩ => ?_
      have I5' := I5.pinned (fpok fr5) (T.obj _ _ st5)
      refine wpAny_assign_Name (store_ok (i := 0) I5' ndN rfl (.inl (lookup_relabel_local ck.tl)) r5 (fun s6 I6 => ?_) (.inr (lookup_relabel_local ck.tl)))
      have again : ∀ {H7 : Hp} {s7 : Shared} {m' : Nat} {acc' : List V}, Inv (X.comp sc cl hh.objs.size (t :: ys) s2 H2 fp) ([] ++ pinsAt fp s5.heap) (some x :: compS js σ) H7 s7 -> m' < n -> W (i + 1) m' acc' H7 ->
          ∃ m, m < n /\ ∃ i acc H', Inv (X.comp sc cl hh.objs.size (t :: ys) s2 H2 fp) [] (none :: compS js σ) H' s7 /\ tn i s7.heap /\ (∀ b ∈ fp, H' b = none) /\ W i m acc H' := fun {H7 s7 m' acc'} I7 hm w7 => by
        refine ⟨m', hm, i + 1, acc', H7, (I7.unpinned).weak rfl (fun k v e => ?_), T.keep _ _ _ st5 fun b hb o e => (I7.pin (b, o) (List.mem_append_right _ (List.mem_append_right _ (mem_pinsAt hb e)))).1, fun b hb => ?_, w7⟩
        · cases k with
          | zero => simp at e
          | succ k => simpa using e
        · obtain ⟨o, e, d⟩ := T.obj _ _ st5 b hb
          exact (I7.pin (b, o) (List.mem_append_right _ (List.mem_append_right _ (mem_pinsAt hb e)))).2.1
      refine thn (hf _ _ _ _ _ _ s6 _ H5 _ I6 (step x H5 y5)) fun ok s7 ⟨H7, I7, q7⟩ => ?_
      cases ok with
      | false =>
        obtain ⟨m', hm, w7⟩ := q7
        exact again I7 hm w7
      | true =>
        refine thn (he _ _ _ _ _ _ s7 _ H7 _ I7 q7) fun uy s8 ⟨y, H8, I8, r8, hD8, m', hm, w8⟩ => ?_
        refine thn (mt_append (X := X.comp sc cl hh.objs.size (t :: ys) s2 H2 fp) _ s8 _ H8 (.ref s2.heap.objs.size) [y] (.ref s2.heap.objs.size) [uy] (fun _ H9 => W (i + 1) m' (acc ++ [y]) H9) I8 rfl (.cons r8 .nil) ⟨_, acc, y, rfl, rfl, hD8, hz, w8⟩) fun _ s9 ⟨_, H9, I9, _, q9⟩ => ?_
        exact again I9 hm q9
  exact codeAny_compStart_list (loop _ rfl) (T.self _ 0 _ _ _ st1 (loop _ rfl))
theorem qs_setC {X : Cx} {elt iter : Expr} {ifs : List Expr} {sc : Scope} {pos px py spos : Pos} {t y : Str} {ys : List Str} {js : List Nat} {wi : TI} {tc : TT} {te : TE} {g : TG} (hc : X.calm = true) (hck : compChk X.N X.env.scope sc t ys js = true)
    (hi : QI X (.Name t px) iter wi) (hf : ∀ cl C s H fp, QIf (X.comp sc cl C (t :: ys) s H fp) ifs tc) (he : ∀ cl C s H fp, QE (X.comp sc cl C (t :: ys) s H fp) elt te) (hg : QG X (.Name y py) g)
    (hsw : swapsWith (.ListComp elt [⟨.Name t px, iter, ifs, 0⟩] sc pos) (some (.Name y py)) spos.line X.env = pure true) (hs : ∀ x, foldedSetIterable iter X.env x = pure x := by intro _; rfl) :
    QS X (.Assign [.Name y py] (.ListComp elt [⟨.Name t px, iter, ifs, 0⟩] sc pos) spos) (tAsg (tComp wi js tc te) g) := ⟨ps_setC hc hck hi.h (fun cl C s H fp => (hf cl C s H fp).h) (fun cl C s H fp => (he cl C s H fp).h) hg.h hsw hs⟩
end L2
namespace L2
open PySem PySem.Spec PyProof.Rows
section
variable {K : PySem.W.Frag} {a : Addr} {xs ys : List V} {js : List Nat} {g : TG} {n : Nat} {te : TE} {σ : St} {Q : VK} {D : Addr} {H1 : Hp}
end
end L2
namespace L2
open PySem PySem.Spec PyProof.Rows
theorem lri_nolen : typeLookup (.type "list_reverseiterator") "__len__" = pure none := by rw [typeLookup_type, builtinLookup_eq_fast]; kernel_rfl
theorem lri_hint : typeLookup (.type "list_reverseiterator") "__length_hint__" = pure (some (.builtin "list_reverseiterator.__length_hint__")) := by rw [typeLookup_type, builtinLookup_eq_fast]; kernel_rfl
section
variable {prog : Program} {w : World} {A : Around} {E : Value -> Shared -> Prop} {s : Shared}
theorem rev_extend {R : Result -> Shared -> Prop} {it l : Addr} {items : Array Value} (hh : A.handled = none) (hi : s.heap.IsRevIter it l ((items.size : Int) - 1)) (hl : s.heap.IsList l items) (nl : l ≠ it) (S : Addr) (nS : S ≠ it) (nSl : S ≠ l) (c0 : Nat) (hS : s.heap.get? S = some { cls := .type "list", data := .seq #[] c0 })
    (hR : ∀ h' tk acc c', (∀ b o, b ≠ S -> b ≠ it -> s.heap.get? b = some o -> h'.get? b = some o) -> h'.get? S = some { cls := .type "list", dict := none, data := .seq acc c', slots := #[] } -> ItemsOf (fun i v => items[items.size - 1 - i]? = some v) acc items.size -> R (.ok (.ret .none)) { s with heap := h', toks := tk })
    (hn : items.size <= sizeLine) : wpAny (model prog w) A.in1 (Builtin.List.listExtendWith (.ref S) (.ref it) .none) (fun fin s' => match fin with | .done f => R (.ok f) s' | .again c' => c'.quiet = true /\ codeAny (model prog w) A c' R s') (fun e s' => R (.error e) s') s := by
  have W := (Walks.listRev (prog := prog) (w := w) (A := A.in1) hh it l nl items).toS
  have st : (0 : Nat) <= items.size /\ s.heap.IsRevIter it l ((items.size : Int) - 1 - ((0 : Nat) : Int)) /\ s.heap.IsList l items := ⟨Nat.zero_le _, by simpa using hi, hl⟩
  have same : Builtin.List.listSameRef (.ref S) (.ref it) = false := by simp [Builtin.List.listSameRef, nS]
  unfold Builtin.List.listExtendWith
  refine wpAny_bind (wpAny_typeOf hi.typeIs ?_)
  rw [if_neg (by rw [same]; decide)]
  refine wpAny_bind (wpAny_pyIter_revIter hi (wpAny_bind (wpAny_holding ?_)))
  unfold Builtin.List.listLengthHint
  refine wpAny_bind (wpAny_specialOf hi.typeIs lri_nolen (show wpAny _ A.in1 (specialOf (Value.ref it) (Str.ofString "__length_hint__") >>= _) _ _ _ from wpAny_bind (wpAny_specialOf hi.typeIs lri_hint ?_)))
  generalize hid : ("list_reverseiterator.__length_hint__" : String) = id0
  wp_delta
  rw [show splitId id0 = some ("list_reverseiterator", "__length_hint__") from by subst hid; decide +kernel]
  subst hid
  refine wpAny_bind (wpAny_isInstance (b := true) hi.typeIs (by rw [isSubtype_type]; kernel_rfl) (wpAny_pure ?_))
  rw [if_neg (by decide)]
  refine wpAny_pure ⟨plainId_quiet F.plain_extend_loop _, codeAny_extend_loopS W hn S (by simp [nS, nSl]) .none items.size 0 _ #[] c0 rfl (Nat.zero_le _) st hS (ItemsOf.nil _) fun s' acc c' hm hS' ha => ?_⟩
  rw [Moved.eq_with hm]
  refine hR s'.heap s'.toks acc c' (fun b o hb hbi e => hm.heap b o (fun z => ?_) e) hS' ha
  rcases List.mem_cons.mp z with z | z
  · exact hb z
  · exact hbi (List.mem_singleton.mp z)
theorem rev_list {it l : Addr} {items : Array Value} {Q : Value -> Shared -> Prop} (hh : A.handled = none) (hi : s.heap.IsRevIter it l ((items.size : Int) - 1)) (hl : s.heap.IsList l items) (nl : l ≠ it)
    (q : ∀ h' tk acc c', (∀ b o, b ≠ it -> s.heap.get? b = some o -> h'.get? b = some o) -> h'.get? s.heap.objs.size = some { cls := .type "list", dict := none, data := .seq acc c', slots := #[] } -> ItemsOf (fun i v => items[items.size - 1 - i]? = some v) acc items.size -> Q (.ref s.heap.objs.size) { s with heap := h', toks := tk })
    (hn : items.size <= sizeLine) : wpAny (model prog w) A (call (.type "list") [.ref it]) Q E s := by
  refine callType_codes (Q₁ := fun obj s₁ => obj = .ref s.heap.objs.size /\ s₁ = { s with heap := s.heap.push { cls := .type "list", data := .seq #[] } }) F.called_list (F.typeCall_list_1 _) F.entry_list_init (code_list_new _ ⟨rfl, rfl⟩) fun obj s₁ h₁ => ?_
  obtain ⟨rfl, rfl⟩ := h₁
  have hS : (s.heap.push { cls := .type "list", data := .seq #[] }).get? s.heap.objs.size = some { cls := .type "list", data := .seq #[] } := Heap.get?_push_size _ rfl
  have li : it < s.heap.objs.size := let ⟨_, e, _⟩ := hi; Heap.lt_size e
  have ll : l < s.heap.objs.size := let ⟨_, e, _⟩ := hl; Heap.lt_size e
  refine ⟨⟨_, hS, rfl⟩, F.args_list_init_2 _ _, ?_⟩
  show wpAny _ _ (do let old <- Builtin.List.listItems (.ref s.heap.objs.size); Builtin.List.listUpdate (.ref s.heap.objs.size) (fun _ => #[]); letGo old.toList.reverse; Builtin.List.listExtendWith (.ref s.heap.objs.size) (.ref it) .none) _ _ _
  refine wpAny_bind ?_
  unfold Builtin.List.listItems
  refine wpAny_bind (wpAny_seqItems hS rfl (wpAny_pure (show wpAny _ _ (updateSeq s.heap.objs.size (fun _ => #[]) >>= fun _ => letGo (#[] : Array Value).toList.reverse >>= fun _ => Builtin.List.listExtendWith (.ref s.heap.objs.size) (.ref it) .none) _ _ _ from wpAny_bind (wpAny_updateSeq hS rfl (wpAny_bind (wpAny_letGo ?_))))))
  have hS2 := Heap.get?_update_self (Obj.mapSeq (fun _ => (#[] : Array Value))) hS rfl
  have ot : ∀ b o, b ≠ s.heap.objs.size -> s.heap.get? b = some o -> ((s.heap.push { cls := .type "list", data := .seq #[] }).update s.heap.objs.size (Obj.mapSeq (fun _ => (#[] : Array Value)))).get? b = some o := fun b o hb e => (Heap.get?_update_other _ _ (Ne.symm hb)).trans (Heap.get?_push_of_some _ e)
  have ni : it ≠ s.heap.objs.size := Nat.ne_of_lt li
  have nl2 : l ≠ s.heap.objs.size := Nat.ne_of_lt ll
  refine rev_extend (A := A.in1) hh (hi.at fun o e => ot it o ni e) (hl.at fun o e => ot l o nl2 e) nl _ (Ne.symm ni) (Ne.symm nl2) _ hS2 (fun h' tk acc c' hk hS' ha => ⟨rfl, q h' tk acc c' (fun b o hb e => ?_) hS' ha⟩) hn
  have nb : b ≠ s.heap.objs.size := Nat.ne_of_lt (Heap.lt_size e)
  exact hk b o nb hb (ot b o nb e)
end
section
variable {X : Cx} {e : Expr} {te : TE} {p1 p2 q1 q2 : Pos}
def tRevL (K : PySem.W.Frag) (te : TE) : TE := fun σ H Q => te σ H fun x H1 => ∃ l ys, x = .ref l /\ SqL K H1 l ys /\ ∀ r, H1 r = none -> Q (.ref r) (upd H1 r (.lst ys.reverse))
theorem rev_items {vs : List Value} {acc : Array Value} (h : ItemsOf (fun i v => vs.toArray[vs.toArray.size - 1 - i]? = some v) acc vs.toArray.size) : acc.toList = vs.reverse := by
  obtain ⟨h1, h2⟩ := h
  have hz : vs.toArray.size = vs.length := by simp
  rw [hz] at h1 h2
  refine List.ext_getElem? fun i => ?_
  by_cases hi : i < vs.length
  · have e : acc.toList[i]? = some (acc[i]'(by omega)) := by simp [h1, hi]
    have e2 := h2 i (acc[i]'(by omega)) (by simp [h1, hi])
    rw [e, List.getElem?_reverse hi, <- e2]
    simp
  · rw [List.getElem?_eq_none (by simp [h1]; omega), List.getElem?_eq_none (by simp; omega)]
theorem pe_listRev (hc : X.calm = true) (g1 : Gl X "list") (m1 : X.mg "list" = none) (g2 : Gl X "reversed") (m2 : X.mg "reversed" = none) (he : PE X e te)
    (hs2 : starEach [e] X.env = [(false, eval e X.env)] := by rfl) (hs1 : starEach [.Call (.Name "reversed" p2) [e] [] q2] X.env = [(false, eval (.Call (.Name "reversed" p2) [e] [] q2) X.env)] := by rfl) :
    PE X (.Call (.Name "list" p1) [.Call (.Name "reversed" p2) [e] [] q2] [] q1) (tRevL X.K te) := by
  intro pins s σ H Q I h
  refine Call_ (ld_blt I g1 m1 PyProof.Rows.boot_list (PyProof.Rows.callWith_type1 ?_ hs1 rfl))
  rw [hs1]
  show wpAny _ _ (spliced ((false, eval (.Call (.Name "reversed" p2) [e] [] q2) X.env) :: backTo q1 [])) _ _ s
  refine Calls.spliced_cons (Call_ (ld_blt I g2 m2 boot_reversed (PyProof.Rows.callWith_type1 ?_ hs2 rfl)))
  rw [hs2]
  show wpAny _ _ (spliced ((false, eval e X.env) :: backTo q2 [])) _ _ s
  refine Calls.spliced_cons (thn (he pins s σ H _ I h) fun u s1 ⟨x, H1, I1, r1, l, ys, ex, hq, k⟩ => ?_)
  subst ex
  cases r1
  refine Calls.spliced_nil ?_
  obtain ⟨vs, rv, pl, hz⟩ := I1.list hq
  have hl := pl.isList
  have hlen := rv.length
  have ll : l < s1.heap.objs.size := let ⟨_, e, _⟩ := hl; Heap.lt_size e
  refine call_reversed_list hl (Calls.spliced_nil ?_)
  have nl : l ≠ s1.heap.objs.size := Nat.ne_of_lt ll
  refine rev_list (items := vs.toArray) (I1.ok.hd hc) ⟨_, Heap.get?_push_size _ rfl, rfl, rfl⟩ (hl.at fun o e => Heap.get?_push_of_some _ e) nl (fun h' tk acc c' hk hS ha => ?_) (by simp; omega)
  have e := rev_items ha
  have sz : (s1.heap.push (revObj l ((vs.toArray.size : Int) - 1))).objs.size = s1.heap.objs.size + 1 := Heap.size_push ..
  rw [sz] at hS ⊢
  have fr : H1 (s1.heap.objs.size + 1) = none := I1.hok.fresh (Nat.le_succ _)
  refine ⟨.ref (s1.heap.objs.size + 1), _, I1.laid (t' := tk) (fun b u eb => hk b u (Nat.ne_of_lt (Heap.lt_size eb)) (Heap.get?_push_of_some _ eb)) (Nat.le_succ _) (show ObjOk X.prog X.w _ h' _ (.lst ys.reverse) from ⟨by rw [List.length_reverse]; omega, vs.reverse, c', rv.reverse, ?_⟩), rfl, k _ fr⟩
  rw [hS, <- e]
theorem qe_listRev (hc : X.calm = true) (g1 : Gl X "list") (m1 : X.mg "list" = none) (g2 : Gl X "reversed") (m2 : X.mg "reversed" = none) (he : QE X e te)
    (hs2 : starEach [e] X.env = [(false, eval e X.env)] := by rfl) (hs1 : starEach [.Call (.Name "reversed" p2) [e] [] q2] X.env = [(false, eval (.Call (.Name "reversed" p2) [e] [] q2) X.env)] := by rfl) :
    QE X (.Call (.Name "list" p1) [.Call (.Name "reversed" p2) [e] [] q2] [] q1) (tRevL X.K te) := ⟨pe_listRev hc g1 m1 g2 m2 he.h hs2 hs1⟩
end
end L2
namespace TM
open PySem L2
def SameT (H H' : Hp) : Prop := ∀ b xs, H b = some (.tup xs) -> H' b = some (.tup xs)
theorem sameT {H H' : Hp} (e : Same H H') : SameT H H' := fun b xs h => e b _ h
theorem SameT.refl (H : Hp) : SameT H H := fun _ _ h => h
theorem SameT.trans {H H1 H2 : Hp} (a : SameT H H1) (b : SameT H1 H2) : SameT H H2 := fun c xs h => b c xs (a c xs h)
theorem sameT_lst {H : Hp} {r : Addr} {xs ys : List V} (h : H r = some (.lst xs)) : SameT H (upd H r (.lst ys)) := fun b zs q => by
  rw [upd_ne (ne_of q h (fun z => nomatch z))]
  exact q
end TM
namespace L2
open PySem PySem.Spec PyProof.Rows
section
variable {X : Cx} {o e value a : Expr} {f : Str} {pos pos' tpos : Pos} {ta tv : TE}
end
section
variable {X : Cx} {CX : CXT} {k : Nat} {f C : Addr} {fd : FuncData} {ps : List Str} {sp : Sp} {ds : List Value} {dvs : List V} {E : XK} {x m : Str} {p pos apos : Pos} {e o : Expr} {es : List Expr} {ta : TE} {t : TA}
end
end L2
namespace TM
open PySem L2
theorem app_list (a b : Str) : (a ++ b).cps.toList = a.cps.toList ++ b.cps.toList := by
  show (a.cps ++ b.cps).toList = _
  simp
theorem len_list (a : Str) : a.length = a.cps.toList.length := by simp [Str.length]
def mkS (l : List Nat) : Str := ⟨l.toArray⟩
theorem mk_list (l : List Nat) : (mkS l).cps.toList = l := by simp [mkS]
theorem str_ext {a b : Str} (h : a.cps.toList = b.cps.toList) : a = b := by
  cases a with | mk x => cases b with | mk y => exact congrArg Str.mk (Array.toList_inj.mp h)
def letOk (c : Nat) : Bool := decide (97 <= c) && decide (c <= 122)
end TM
namespace TM
open PySem L2
open PySem.Builtin.Str (strSub occurrences partsBetween)
end TM
namespace L2
open PySem PySem.Spec PyProof.Rows
open PySem.Builtin.Str (strSub occurrences)
section
variable {X : Cx}
def rInsert : V -> List V -> Hp -> VK -> Prop := fun x vs H Q => ∃ l xs k y, x = .ref l /\ vs = [.int k, y] /\ H l = some (.lst xs) /\ 0 <= k /\ k <= xs.length /\ xs.length < sizeLine /\ Q .non (upd H l (.lst (xs.take k.toNat ++ y :: xs.drop k.toNat)))
theorem mt_insert : MtM X "list.insert" rInsert := by
  intro pins s σ H x vs v us Q I rx rv h
  obtain ⟨l, xs, k, y, rfl, rfl, hH, h0, hk, hz, q⟩ := h
  cases rx
  cases rv with
  | cons rk rr =>
    obtain ⟨t, rfl⟩ := rk
    obtain ⟨u, rfl, ru⟩ := Vals.one rr
    obtain ⟨z, its, n, r, hl, e⟩ := I.lstM hH
    have hlen := r.length
    have hfit : ¬ (!Builtin.List.listFitsIndex k) = true := by
      have hs : (sizeLine : Int) < 2 ^ 63 := by decide
      have := fitsIndex_both (k := k) (by omega) (by omega)
      rw [this]
      decide
    refine call_meets F.slot_list_insert ⟨_, e, rfl⟩ F.entry_list_insert (F.args_list_insert_3 _ _ _) (AutoListH.list_insert_list_int_val_1 l its.toArray n k t u hfit (by rw [List.size_toArray]; omega)) ⟨e, ?_⟩
    refine ⟨.non, _, I.lset (its' := its.take k.toNat ++ u :: its.drop k.toNat) hH e ?_ (Vals.append (r.take _) (.cons ru (r.drop _))) ?_, rfl, q⟩
    · show (its.toArray.extract 0 (if k < 0 then (k + ((its.toArray.size : Nat) : Int)).toNat else min k.toNat its.toArray.size)).push u ++ its.toArray.extract (if k < 0 then (k + ((its.toArray.size : Nat) : Int)).toNat else min k.toNat its.toArray.size) = _
      rw [if_neg (by omega)]
      have em : min k.toNat its.toArray.size = k.toNat := by rw [List.size_toArray]; omega
      rw [em]
      apply Array.toList_inj.mp
      simp
      rw [List.take_of_length_le (by simp)]
    · rw [List.length_append, List.length_cons, List.length_take, List.length_drop]
      omega
end
section
variable {X : Cx} {tg : Expr}
end
theorem qe_bmC {X : L2.Cx} {K : PySem.W.Frag} {o : PySem.Expr} {e : PySem.Expr} {es : List PySem.Expr} {to : L2.TE} {t : L2.TA} {name : PySem.Str} {apos : PySem.Pos} {cpos : PySem.Pos} {T : String} {id : String} {r : L2.V -> List L2.V -> L2.Hp -> L2.VK -> Prop} (hK : X.K = K) (pa : PySem.PlainAttrs T) (slot : PySem.Slot T name id) (hty : PySem.typeOf (PySem.Value.builtin id) = Pure.pure (PySem.Value.type "method_descriptor")) (hm : L2.MtR X id r) (ho : QE X o to) (ha : QA X (e :: es) t) (hbase : PySem.attributeBase o name (L2.Cx.env X) (PySem.eval o (L2.Cx.env X)) = PySem.eval o (L2.Cx.env X) := by rfl) (hfew : (((List.all (PySem.backTo cpos (PySem.starEach (e :: es) (L2.Cx.env X))) fun (x : Bool × PySem.Sem PySem.Value) => !Prod.fst x) && List.all (PySem.backToKw cpos (PySem.keywordEach [] (L2.Cx.env X))) fun (x : Option PySem.Str × PySem.Sem PySem.Value) => Option.isSome (Prod.fst x)) && Decidable.decide ((List.length (e :: es) + List.length ([] : List PySem.Keyword) + if List.isEmpty ([] : List PySem.Keyword) = Bool.true then 0 else 1) < 30)) = Bool.true := by rfl) (hline : (PySem.Pos.endLine apos == PySem.Pos.line cpos) = Bool.true := by rfl) (hs : PySem.starEach (e :: es) (L2.Cx.env X) = (Bool.false, PySem.eval e (L2.Cx.env X)) :: PySem.starEach es (L2.Cx.env X) := by rfl) (hplain : (List.any (PySem.backTo cpos (PySem.starEach es (L2.Cx.env X))) fun (x : Bool × PySem.Sem PySem.Value) => Prod.fst x) = Bool.false := by rfl) : QE X (PySem.Expr.Call (PySem.Expr.Attribute o name apos) (e :: es) [] cpos) (L2.tBM K T r to t) := by
  subst hK
  exact qe_bm pa slot hty hm ho ha hbase hfew hline hs hplain
end L2
namespace TM
open PySem L2
inductive L2R {α : Type} (R : α -> V -> Prop) : List α -> List V -> Prop
  | nil : L2R R [] []
  | cons {a : α} {v : V} {as : List α} {vs : List V} : R a v -> L2R R as vs -> L2R R (a :: as) (v :: vs)
namespace L2R
variable {α : Type} {R R' : α -> V -> Prop}
theorem imp (h : ∀ a v, R a v -> R' a v) : ∀ {as : List α} {vs : List V}, L2R R as vs -> L2R R' as vs
  | _, _, .nil => .nil
  | _, _, .cons x y => .cons (h _ _ x) (imp h y)
theorem len : ∀ {as : List α} {vs : List V}, L2R R as vs -> vs.length = as.length
  | _, _, .nil => rfl
  | _, _, .cons _ y => by rw [List.length_cons, List.length_cons, len y]
theorem get : ∀ {as : List α} {vs : List V} {i : Nat} {v : V}, L2R R as vs -> vs[i]? = some v -> ∃ a, as[i]? = some a /\ R a v
  | _, _, i, v, .nil, e => by simp at e
  | _, _, 0, v, .cons (a := a) x y, e => by
    simp at e
    subst e
    exact ⟨a, rfl, x⟩
  | _, _, i + 1, v, .cons x y, e => by
    obtain ⟨b, hb, r⟩ := get (i := i) y (by simpa using e)
    exact ⟨b, by simpa using hb, r⟩
theorem app : ∀ {as bs : List α} {vs us : List V}, L2R R as vs -> L2R R bs us -> L2R R (as ++ bs) (vs ++ us)
  | _, _, _, _, .nil, g => g
  | _, _, _, _, .cons x y, g => .cons x (app y g)
theorem one {a : α} {v : V} (h : R a v) : L2R R [a] [v] := .cons h .nil
theorem snoc {as : List α} {vs : List V} {a : α} {v : V} (h : L2R R as vs) (g : R a v) : L2R R (as ++ [a]) (vs ++ [v]) := h.app (one g)
theorem nil_of {vs : List V} (h : L2R R [] vs) : vs = [] := by cases h; rfl
theorem inv_cons {a : α} {as : List α} {vs : List V} (h : L2R R (a :: as) vs) : ∃ v r, vs = v :: r /\ R a v /\ L2R R as r := by
  cases h with
  | cons x y => exact ⟨_, _, rfl, x, y⟩
end L2R
section
variable {H H' : Hp}
end
def NmOk (z : Str) : Prop := z.cps.toList ≠ [] /\ z.cps.toList.length <= 8 /\ ∀ c ∈ z.cps.toList, letOk c = true
end TM
namespace L2
open PySem PySem.Spec PyProof.Rows TM
theorem take_snocA {α : Type} {xs : List α} {i : Nat} {x : α} (h : xs[i]? = some x) : xs.take (i + 1) = xs.take i ++ [x] := by
  rw [List.take_succ, h]
  rfl
section
variable {K : PySem.W.Frag} {a : Addr} {xs : List V} {js : List Nat} {g : TG} {n : Nat} {te : TE} {σ : St} {Q : VK} {D : Addr} {H1 : Hp} {α : Type} {R : Hp -> α -> V -> Prop} {as : List α}
def OffD (D : Addr) (R : Hp -> α -> V -> Prop) : Prop := ∀ H H' acc b v, H D = some (.lst acc) -> (∀ c o, c ≠ D -> H c = some o -> H' c = some o) -> R H b v -> R H' b v
theorem OffD.ofT (h : ∀ H H' b v, SameT H H' -> R H b v -> R H' b v) : OffD D R := fun H H' acc b v d k r => h H H' b v (fun c ys e => k c _ (fun z => by rw [z, d] at e; cases e) e) r
theorem comp_lstR (st : OffD D R) (hz : xs.length < sizeLine) (hlen : as.length = xs.length) (ha : SqL K H1 a xs) (hD : H1 D = none)
    (he : ∀ (i : Nat) (x : V) (b : α) (H : Hp), xs[i]? = some x -> as[i]? = some b -> Same H1 H -> (∃ acc, H D = some (.lst acc)) -> ∀ Q' : VK, (∀ y H', Same H H' -> R H' b y -> Q' y H') -> te (some x :: compS js σ) H Q')
    (hq : ∀ ys H', Same H1 H' -> H' D = some (.lst ys) -> L2R (R H') as ys -> Q (.ref D) H') : CompW (Itl K a) js tYes te σ Q D H1 := by
  refine comp_lst (K := K) (a := a) (xs := xs) (fun i acc H => i <= xs.length /\ Same H1 H /\ H D = some (.lst acc) /\ L2R (R H) (as.take i) acc) hz ⟨Nat.zero_le _, same_new hD _, upd_same, .nil⟩ (fun i acc H ⟨l, s, d, r⟩ => ⟨d, ?_, Same.seq s ha⟩) ?_ ?_
  · rw [r.len, List.length_take]
    omega
  · rintro i m x acc H hi ⟨l, s, d, r⟩ hm
    have hlt := lt_of_some hi
    obtain ⟨b, hb⟩ := some_of_lt (xs := as) (i := i) (by omega)
    refine he i x b H hi hb s ⟨_, d⟩ _ fun y H4 s4 r4 => ⟨s4 _ _ d, xs.length - (i + 1), by omega, rfl, hlt, hlt, same_upd hD (s.trans s4), upd_same, ?_⟩
    have k : ∀ c o, c ≠ D -> H4 c = some o -> upd H4 D (.lst (acc ++ [y])) c = some o := fun c o hc e => by rw [upd_ne hc]; exact e
    rw [take_snocA hb]
    exact (r.imp fun b v r => st _ _ _ b v (s4 _ _ d) k (st _ _ _ b v d (fun c o _ e => s4 c o e) r)).snoc (st _ _ _ b y (s4 _ _ d) k r4)
  · rintro acc H ⟨l, s, d, r⟩
    rw [List.take_of_length_le (by omega)] at r
    exact hq acc H s d r
end
end L2
namespace L2
open PySem PySem.Spec PyProof.Rows
end L2
namespace L2
open PySem PySem.Spec PyProof.Rows
section
variable {prog : Program} {w : World} {A : Around} {E : Value -> Shared -> Prop} {s : Shared}
end
end L2
namespace L2
open PySem PySem.Spec PyProof.Rows
section
variable {prog : Program} {w : World} {A : Around} {E : Value -> Shared -> Prop} {s : Shared}
end
section
variable {X : Cx} {e : Expr} {te : TE} {p1 p2 q1 q2 : Pos}
end
end L2
namespace L2
open PySem PySem.Spec PyProof.Rows
section
variable {X : Cx} {elts : List Expr} {k : Nat} {tpos : Pos}
end
end L2
namespace L2
open PySem PySem.Spec PyProof.Rows
section
variable {X : Cx}
theorem qe_dget {o i : Expr} {pos : Pos} {td ty : TE} (hu : X.A.units + 1 < cLine) (ho : QE X o td) (hi : QE X i ty) (hs : NoSl i := by intro _ _; rfl) : QE X (.Subscript o i pos) (tDGet td ty) := ⟨pe_dget hu ho.h hi.h hs⟩
end
end L2
namespace L2
open PySem PySem.Spec PyProof.Rows
section
variable {X : Cx}
theorem op_neNil (hu : X.A.units + 64 < cLine) : OpR X (compareOp .NotEq) (fun x y H Q => ∃ a b xs, x = .ref a /\ y = .ref b /\ SqL X.K H a xs /\ SqL X.K H b [] /\ Q (.bl (!decide (xs = []))) H) := by
  intro pins s σ H x y v u Q I rx ry h
  obtain ⟨a, b, xs, e1, e2, ha, hb, q⟩ := h
  by_cases hx : xs = []
  · subst hx
    refine op_neD hu pins s σ H x y v u Q I rx ry ⟨a, b, [], [], [], [], e1, e2, .inr ⟨ha, hb⟩, isds_nil, isds_nil, by unfold depDs; omega, ?_⟩
    have e : (!(eqDs [] [])) = !decide (([] : List V) = []) := by unfold eqDs; rfl
    rw [e]
    exact q
  · subst e1 e2
    cases rx
    cases ry
    obtain ⟨us, r1, p1, _⟩ := I.list ha
    obtain ⟨ws, r2, p2, _⟩ := I.list hb
    cases r2
    have hne : us ≠ [] := fun z => hx ((Vals.nil_iff r1).mp z)
    refine SeqAt.RcNeAt.lists_lengths p1.isList p2.isList (by simpa using hne) (by omega) _ _ _ _ ⟨.bl _, H, I, ?_, q⟩
    rw [decide_eq_false hx]
    rfl
theorem all_nilT (us : List Value) (f : Nat -> Bool) : ((List.range (min us.toArray.size ([] : List Value).toArray.size)).all f && us.toArray.size == ([] : List Value).toArray.size) = decide (us = []) := by
  cases us with
  | nil => rfl
  | cons x xs =>
    have : min (x :: xs).toArray.size ([] : List Value).toArray.size = 0 := by simp
    rw [this]
    rfl
theorem op_eqNilT (hu : X.A.units + 64 < cLine) : OpR X (compareOp .Eq) (fun x y H Q => ∃ a b xs, x = .ref a /\ y = .ref b /\ SqT X.K H a xs /\ SqT X.K H b [] /\ Q (.bl (decide (xs = []))) H) := by
  intro pins s σ H x y v u Q I rx ry h
  obtain ⟨a, b, xs, rfl, rfl, ha, hb, q⟩ := h
  cases rx
  cases ry
  obtain ⟨us, r1, p1, _⟩ := I.tuple ha
  obtain ⟨ws, r2, p2, _⟩ := I.tuple hb
  cases r2
  refine SeqAt.eq_tupleAt (e := fun _ => true) (show s.heap.IsTuple a us.toArray from p1) (show s.heap.IsTuple b ([] : List Value).toArray from p2) (by omega) (fun j _ h2 => absurd h2 (Nat.not_lt_zero _)) ?_
  rw [all_nilT]
  refine ⟨.bl _, H, I, ?_, q⟩
  have e : decide (xs = []) = decide (us = []) := by
    by_cases hx : xs = []
    · rw [decide_eq_true hx, decide_eq_true ((Vals.nil_iff r1).mpr hx)]
    · rw [decide_eq_false hx, decide_eq_false (fun z => hx ((Vals.nil_iff r1).mp z))]
  rw [e]
  rfl
theorem op_neNilT (hu : X.A.units + 64 < cLine) : OpR X (compareOp .NotEq) (fun x y H Q => ∃ a b xs, x = .ref a /\ y = .ref b /\ SqT X.K H a xs /\ SqT X.K H b [] /\ Q (.bl (!decide (xs = []))) H) := by
  intro pins s σ H x y v u Q I rx ry h
  obtain ⟨a, b, xs, rfl, rfl, ha, hb, q⟩ := h
  cases rx
  cases ry
  obtain ⟨us, r1, p1, _⟩ := I.tuple ha
  obtain ⟨ws, r2, p2, _⟩ := I.tuple hb
  cases r2
  refine SeqAt.RcNeAt.tuples (e := fun _ => true) (show s.heap.IsTuple a us.toArray from p1) (show s.heap.IsTuple b ([] : List Value).toArray from p2) (by omega) (fun j _ h2 => absurd h2 (Nat.not_lt_zero _)) _ _ _ _ ?_
  rw [all_nilT]
  refine ⟨.bl _, H, I, ?_, q⟩
  have e : decide (xs = []) = decide (us = []) := by
    by_cases hx : xs = []
    · rw [decide_eq_true hx, decide_eq_true ((Vals.nil_iff r1).mpr hx)]
    · rw [decide_eq_false hx, decide_eq_false (fun z => hx ((Vals.nil_iff r1).mp z))]
  rw [e]
  rfl
end
theorem rvOther {n : String} (h : n = "reversed" \/ n = "range_iterator") : ["enumerate", "zip", "dict_itemiterator", "dict_reverseitemiterator", "odict_iterator", "itertools.zip_longest", "itertools.pairwise"].contains n = false := by
  rcases h with rfl | rfl <;> decide
section
variable {X : Cx} {tg e : Expr} {te : TE} {p q : Pos}
end
theorem sub_ri : isSubtype (.type "range_iterator") (.type "reversed") = pure false := by rw [isSubtype_type]; kernel_rfl
section
variable {prog : Program} {w : World} {A : Around} {E : Value -> Shared -> Prop} {s : Shared}
def rgi (n : Nat) : Obj := { cls := .type "range_iterator", data := .fields #[rawInt ((n : Int) - 1), rawInt n, rawInt (-1)] }
theorem rg_rev {r : Addr} {n : Nat} {t u v : Tok} {Q : Value -> Shared -> Prop} (hr : IsRange s.heap r 0 (n : Int) 1 t u v) (hn : n <= 100000) (h : Q (.ref s.heap.objs.size) { s with heap := s.heap.push (rgi n) }) :
    wpAny (model prog w) A (call (.builtin "range.__reversed__") [.ref r]) Q E s := by
  have hT : s.TypeIs (.ref r) "range" := ⟨_, hr, rfl⟩
  refine wpAny_call_entry F.slot_range_reversed hT F.entry_range_reversed ?_ (F.args_range_reversed_1 _)
  unfold Builtin.«range.__reversed__»
  refine wpAny_bind (wpAny_of_eq (a := Value.ref r) rfl ?_)
  have hsz : Builtin.Range.rangeSize 0 (n : Int) 1 = n := by
    unfold Builtin.Range.rangeSize
    rw [if_pos (by decide)]
    split <;> omega
  have hsm : (Builtin.Range.rangeFitsLong 0 && Builtin.Range.rangeFitsLong (n : Int) && Builtin.Range.rangeFitsLong 1 && Builtin.Range.rangeFitsLong (-1) && Builtin.Range.rangeFitsLong (0 - 1) && Builtin.Range.rangeFitsLong (Builtin.Range.rangeSize 0 (n : Int) 1)) = true := by
    rw [hsz]
    simp only [Builtin.Range.rangeFitsLong, Bool.and_eq_true, decide_eq_true_eq]
    omega
  have hf : wpAny (model prog w) A.in1 (Builtin.Range.rangeFields (.ref r)) (fun x s' => x = (0, (n : Int), 1) /\ s' = s) (fun _ _ => False) s := by
    unfold Builtin.Range.rangeFields
    refine wpAny_bind (wpAny_field hr rfl (x := .int 0 t) rfl (wpAny_bind (wpAny_of_eq (a := some 0) rfl ?_)))
    refine wpAny_bind (wpAny_field hr rfl (x := .int n u) rfl (wpAny_bind (wpAny_of_eq (a := some (n : Int)) rfl ?_)))
    refine wpAny_bind (wpAny_field hr rfl (x := .int 1 v) rfl (wpAny_bind (wpAny_of_eq (a := some 1) rfl ?_)))
    exact wpAny_pure ⟨rfl, rfl⟩
  refine wpAny_bind (wpAny_mono hf (fun x s' hx => ?_) fun _ _ z => z.elim)
  obtain ⟨rfl, rfl⟩ := hx
  dsimp only
  rw [hsm, hsz]
  refine wpAny_bind (wpAny_newObj_type (wpAny_pure ⟨_, rfl, ?_⟩) (by size_fits))
  have e : (0 : Int) + ((n : Int) - 1) * 1 = (n : Int) - 1 := by omega
  show Q _ { s' with heap := s'.heap.push { cls := .type "range_iterator", data := .fields #[rawInt (0 + ((n : Int) - 1) * 1), rawInt n, rawInt (-1)] } }
  rw [e]
  exact h
theorem rg_new {r : Addr} {n : Nat} {t u v : Tok} {Q₁ : Value -> Shared -> Prop} (hr : IsRange s.heap r 0 (n : Int) 1 t u v) (hn : n <= 100000) (h : Q₁ (.ref s.heap.objs.size) { s with heap := s.heap.push (rgi n) }) :
    codeAny (model prog w) A (.call (.builtin "reversed.__new__") ⟨[.type "reversed", .ref r], []⟩) (wants Q₁ E) s := by
  have hT : s.TypeIs (.ref r) "range" := ⟨_, hr, rfl⟩
  refine codeAny_of_tree (show wpAny _ A.in1 (do checkBuiltinCall "reversed.__new__" ⟨[.type "reversed", .ref r], []⟩; again (.builtin "reversed.__new__" ⟨[.type "reversed", .ref r], []⟩)) _ _ s from wpAny_bind (wpAny_of_eq (F.newCall_reversed_1 _) (wpAny_pure ⟨plainId_quiet F.plain_reversed_new _, codeAny_builtin F.entry_reversed_new ?_⟩)))
  rw [Around.under_plainId F.plain_reversed_new _, Builtin.«reversed.__new__»]
  refine wpAny_bind (wpAny_of_eq (newClass_reversed _) (show wpAny _ _ (_ >>= _) _ _ _ from wpAny_bind (wpAny_of_eq (a := ()) (by first | rfl | kernel_rfl) (wpAny_bind (wpAny_of_eq (a := ()) (by first | rfl | kernel_rfl) ?_)))))
  refine (show wpAny _ _ (_ >>= _) _ _ _ from wpAny_bind (wpAny_specialOf hT F.slot_range_reversed.lookup (show wpAny _ _ (_ >>= _) _ _ _ from wpAny_bind (wpAny_of_eq (F.slot_range_reversed.bind _) ?_))))
  show wpAny _ _ (if (Value.builtin "range.__reversed__" == Value.none) = true then _ else _) _ _ _
  rw [if_neg (by decide)]
  refine wpAny_bind (wpAny_rule (wpAny_bind (m := runValue (.call (.builtin "range.__reversed__") ⟨[.ref r], []⟩)) (show wpAny _ _ (call (.builtin "range.__reversed__") [.ref r]) _ _ _ from rg_rev hr hn ?_)))
  first | exact wpAny_pure h | exact wpAny_bind (wpAny_pure (wpAny_pure h))
theorem rg_call {r : Addr} {n : Nat} {t u v : Tok} {Q : Value -> Shared -> Prop} (hr : IsRange s.heap r 0 (n : Int) 1 t u v) (hn : n <= 100000) (h : Q (.ref s.heap.objs.size) { s with heap := s.heap.push (rgi n) }) : wpAny (model prog w) A (call (.type "reversed") [.ref r]) Q E s := by
  refine callType_other (T := "reversed") (U := "range_iterator") (Q₁ := fun obj s₁ => obj = .ref s.heap.objs.size /\ s₁ = { s with heap := s.heap.push (rgi n) }) (by decide +kernel) F.create_reversed ⟨_, _, F.mro_reversed⟩ F.made_reversed sub_ri (F.typeCall_reversed_1 _) (rg_new hr hn ⟨rfl, rfl⟩) ?_
  intro obj s₁ hq
  obtain ⟨e1, e2⟩ := hq
  subst e1 e2
  exact ⟨⟨_, Heap.get?_push_size _ rfl, rfl⟩, h⟩
end
def ItRR (n : Nat) : It := ⟨fun i _ => i < n, fun i H x H' => H' = H /\ x = .int ((n : Int) - 1 - (i : Nat)), fun i _ => n <= i⟩
theorem turn_revR {P : Program} {w : World} {K : PySem.W.Frag} {tg : Expr} (it : Addr) (n : Nat) : Turn P w K tg (ItRR n) [it] it (fun i h => IsRangeIter h it (((n : Int) - 1) + (i : Nat) * (-1)) ((n : Int) - (i : Nat)) (-1)) where
  mem := by simp
  obj := fun i h st b hb => by
    have e : b = it := by simpa using hb
    subst e
    exact ⟨_, st, fun v z => by
      have z' : Data.fields _ = Data.cell v := z
      cases z'⟩
  keep := fun i h h' st k => k it (by simp) _ st
  item := by
    intro X hP hw hK hc i pins s σ H E I hf st hg
    subst hP hw hK
    obtain ⟨f0, f1, f2, f3, f4, f5⟩ := hf it (by simp)
    have W := Walks.range (prog := X.prog) (w := X.w) (I.ok.hd hc) it ((n : Int) - 1) (-1) n
    refine W.item i s _ _ hg st fun v h' tk hv st' kk => ?_
    obtain ⟨t, rfl⟩ := hv
    have I1 : Inv X pins σ H { s with heap := h', toks := tk } := I.turned (fun b o hb e => kk b o (by simpa using hb) e) f0 f1 f3 f4 f5
    have e1 : ((n : Int) - 1) + (i : Nat) * (-1) = (n : Int) - 1 - (i : Nat) := by omega
    refine ⟨_, rfl, go_of (s := { s with heap := h', toks := tk }) (n := "range_iterator") st' rfl rfl (rvOther (.inr rfl)) ⟨.int (((n : Int) - 1) + (i : Nat) * (-1)), H, I1, ⟨t, rfl⟩, ⟨rfl, by rw [e1]⟩, st', fun b hb => (hf b hb).1⟩⟩
  done := by
    intro X hP hw hK hc i pins s σ H E I hf st hg
    subst hP hw hK
    obtain ⟨f0, f1, f2, f3, f4, f5⟩ := hf it (by simp)
    exact wpAny_pyNext_range_end (I.ok.hd hc) st (by have : n <= i := hg; omega) fun h' eb => ⟨rfl, I.turned (t' := s.toks) (fun b o hb e => eb b o hb e) f0 f1 f3 f4 f5⟩
  self := fun _ _ _ _ _ st h => wpAny_pyIter_rangeiter st h
section
variable {X : Cx} {tg e : Expr} {te : TE} {p1 p2 q1 q2 : Pos}
def iRevR (te : TE) : TI := fun σ H R => te σ H fun x H1 => ∃ n : Nat, x = .int (n : Int) /\ n <= 100000 /\ R (ItRR n) H1
theorem pi_revR (hc : X.calm = true) (g1 : Gl X "reversed") (m1 : X.mg "reversed" = none) (g2 : Gl X "range") (m2 : X.mg "range" = none) (he : PE X e te)
    (hs2 : starEach [e] X.env = [(false, eval e X.env)] := by rfl) (hs1 : starEach [.Call (.Name "range" p2) [e] [] q2] X.env = [(false, eval (.Call (.Name "range" p2) [e] [] q2) X.env)] := by rfl) :
    PI X tg (.Call (.Name "reversed" p1) [.Call (.Name "range" p2) [e] [] q2] [] q1) (iRevR te) := by
  intro pins s σ H R I h
  refine Call_ (ld_blt I g1 m1 boot_reversed (PyProof.Rows.callWith_type1 ?_ hs1 rfl))
  rw [hs1]
  show wpAny _ _ (spliced ((false, eval (.Call (.Name "range" p2) [e] [] q2) X.env) :: backTo q1 [])) _ _ s
  refine Calls.spliced_cons (Call_ (ld_blt I g2 m2 boot_range (PyProof.Rows.callWith_type1 ?_ hs2 rfl)))
  rw [hs2]
  show wpAny _ _ (spliced ((false, eval e X.env) :: backTo q2 [])) _ _ s
  refine Calls.spliced_cons (thn (he pins s σ H _ I h) fun u s1 ⟨x, H1, I1, r1, n, ex, hn, k⟩ => ?_)
  subst ex
  obtain ⟨t, rfl⟩ := r1
  refine Calls.spliced_nil ?_
  refine call_range_1 (Calls.spliced_nil ?_)
  have I2 : Inv X pins σ H1 { s1 with heap := s1.heap.push { cls := .type "range", data := .fields #[.int 0 s1.toks, .int n t, .int 1 (s1.toks + 1)] }, toks := s1.toks + 1 + 1 } := I1.kept fun b o e => Heap.get?_push_of_some _ e
  refine rg_call (s := { s1 with heap := s1.heap.push { cls := .type "range", data := .fields #[.int 0 s1.toks, .int n t, .int 1 (s1.toks + 1)] }, toks := s1.toks + 1 + 1 }) (IsRange.new ..) hn ?_
  have st : IsRangeIter ((s1.heap.push { cls := .type "range", data := .fields #[.int 0 s1.toks, .int n t, .int 1 (s1.toks + 1)] }).push (rgi n)) (s1.heap.push { cls := .type "range", data := .fields #[.int 0 s1.toks, .int n t, .int 1 (s1.toks + 1)] }).objs.size (((n : Int) - 1) + ((0 : Nat) : Int) * (-1)) ((n : Int) - ((0 : Nat) : Int)) (-1) := by
    have e1 : ((n : Int) - 1) + ((0 : Nat) : Int) * (-1) = (n : Int) - 1 := by simp
    have e2 : (n : Int) - ((0 : Nat) : Int) = n := by simp
    rw [e1, e2]
    exact Heap.get?_push_size _ rfl
  refine wpAny_pyIter_rangeiter st ⟨_, [(s1.heap.push { cls := .type "range", data := .fields #[.int 0 s1.toks, .int n t, .int 1 (s1.toks + 1)] }).objs.size], _, _, H1, rfl, I2.kept (t' := s1.toks + 1 + 1) fun b o e => Heap.get?_push_of_some _ e, turn_revR _ n, st, fun b hb => ?_, k⟩
  have e : b = (s1.heap.push { cls := .type "range", data := .fields #[.int 0 s1.toks, .int n t, .int 1 (s1.toks + 1)] }).objs.size := by simpa using hb
  subst e
  exact I2.fpOk (Nat.le_refl _) (I2.hok.fresh (Nat.le_refl _))
theorem qi_revR (hc : X.calm = true) (g1 : Gl X "reversed") (m1 : X.mg "reversed" = none) (g2 : Gl X "range") (m2 : X.mg "range" = none) (he : QE X e te)
    (hs2 : starEach [e] X.env = [(false, eval e X.env)] := by rfl) (hs1 : starEach [.Call (.Name "range" p2) [e] [] q2] X.env = [(false, eval (.Call (.Name "range" p2) [e] [] q2) X.env)] := by rfl) :
    QI X tg (.Call (.Name "reversed" p1) [.Call (.Name "range" p2) [e] [] q2] [] q1) (iRevR te) := ⟨pi_revR hc g1 m1 g2 m2 he.h hs2 hs1⟩
theorem for_revR {n : Nat} {g : TG} {tb : TS} {D : Ends} {σ : St} {H : Hp} (Pv : Nat -> St -> Hp -> Prop) (h0 : Pv 0 σ H)
    (hs : ∀ i σ H, i < n -> Pv i σ H -> g (.int ((n : Int) - 1 - (i : Nat))) σ H fun σ2 H2 => tb { D with nx := Pv (i + 1), ct := Pv (i + 1), bk := D.nx } σ2 H2) (hd : ∀ σ H, Pv n σ H -> D.nx σ H) :
    ∃ W : Nat -> Nat -> St -> Hp -> Prop, (∃ m, W 0 m σ H) /\ ∀ i m σ H, W i m σ H ->
      ((ItRR n).stop i H /\ D.nx σ H) \/ ((ItRR n).go i H /\ ∃ N : St -> Hp -> Prop, (∀ σ' H', N σ' H' -> ∃ m', m' < m /\ W (i + 1) m' σ' H') /\ ∀ x H', (ItRR n).yld i H x H' -> g x σ H' fun σ2 H2 => tb { D with nx := N, ct := N, bk := D.nx } σ2 H2) := by
  refine ⟨fun i m σ H => m = n - i /\ i <= n /\ Pv i σ H, ⟨n, by simp, Nat.zero_le _, h0⟩, ?_⟩
  rintro i m σ H ⟨rfl, hi, p⟩
  by_cases hlt : i < n
  · refine .inr ⟨hlt, Pv (i + 1), fun σ' H' q => ⟨n - (i + 1), by omega, rfl, hlt, q⟩, ?_⟩
    rintro x H' ⟨rfl, rfl⟩
    exact hs i σ H' hlt p
  · have e : i = n := by omega
    subst e
    exact .inl ⟨Nat.le_refl _, hd σ H p⟩
end
end L2
namespace L2
open PySem PySem.Spec PyProof.Rows
section
variable {X : Cx} {Dc : Addr} {dn n : Str} {i : Nat} {np hpos : Pos} {ts : TS} {b0 : Stmt} {suite : List Stmt} {pins : List (Addr × Obj)} {σ : St} {H1 : Hp} {s1 s' : Shared} {D : Ends} {ev : Value} {Q : Flow -> Shared -> Prop}
variable {k : Nat} {f : Addr} {fd : FuncData} {ps : List Str} {sp : Sp} {x : Str} {p cpos epos : Pos} {e : Expr} {es : List Expr} {t : TA} {EX : XK} {N : Hp -> Prop} {H : Hp} {s : Shared}
end
section
variable {X : Cx} {Dc : Addr} {dn n : Str} {i : Nat} {np hpos pos ipos : Pos} {ts : TS} {b0 : Stmt} {suite : List Stmt} {c : Expr} {tc : TT}
  {k1 k2 : Nat} {f1 f2 : Addr} {fd1 fd2 : FuncData} {ps1 ps2 : List Str} {sp1 sp2 : Sp} {x1 x2 : Str} {p1 p2 c1 c2 q1 q2 : Pos} {e1 e2 : Expr} {es1 es2 : List Expr} {t1 t2 : TA}
end
end L2
namespace L2
open PySem PySem.Spec PyProof.Rows
section
variable {prog : Program} {w : World} {A : Around} {E : Value -> Shared -> Prop} {s : Shared}
theorem tupNext_yes {it t : Addr} {i : Nat} {vs : Array Value} {x : Value} {Q : Value -> Shared -> Prop} (hi : s.heap.IsTupleIter it t i) (ht : s.heap.IsTuple t vs) (hx : vs[i]? = some x)
    (q : ∀ h', h'.IsTupleIter it t (i + 1) -> Heap.SameBut it s.heap h' -> Q x { s with heap := h' }) : wpAny (model prog w) A (Builtin.SmallTypes.nextOf (.ref it)) Q E s := by
  obtain ⟨o, ho, hc, hd⟩ := id hi
  obtain ⟨ot, hot, _, nt, hdt⟩ := ht
  unfold Builtin.SmallTypes.nextOf
  refine wpAny_bind (wpAny_callSpecial?_slot (name := Str.ofString "__next__") hi.typeIs F.slot_tuple_iterator_next (wpAny_call_entry F.slot_tuple_iterator_next hi.typeIs F.entry_tuple_iterator_next ?_ (F.args_tuple_iterator_next_1 _)))
  show wpAny _ _ (field (.ref it) 0 >>= _) _ _ s
  refine wpAny_bind (wpAny_field ho hd (x := .ref t) rfl (show wpAny _ _ (if (Value.ref t == Value.none) = true then _ else _) _ _ s from ?_))
  rw [if_neg (show ¬ ((Value.ref t == Value.none) = true) from Bool.false_ne_true)]
  show wpAny _ _ (field (.ref it) 1 >>= _) _ _ s
  refine wpAny_bind (wpAny_field ho hd (x := .int i 0) rfl (show wpAny _ _ (seqItems? (.ref t) >>= _) _ _ s from wpAny_bind (wpAny_seqItems hot hdt ?_)))
  simp only [Int.toNat_natCast, hx]
  refine wpAny_bind (wpAny_setField ho hd (by simp) (wpAny_pure ⟨x, rfl, wpAny_pure (q _ ⟨_, Heap.get?_update_self _ ho (Obj.isFreed_of_fields (Obj.data_mapFields hd _)), (Obj.cls_mapFields ..).trans hc, ?_⟩ (Heap.SameBut.update ..))⟩))
  rw [Obj.data_mapFields hd]
  simp [rawInt]
theorem tupNext_no {it t : Addr} {i : Nat} {vs : Array Value} {Q : Value -> Shared -> Prop} (hh : A.handled = none) (hi : s.heap.IsTupleIter it t i) (ht : s.heap.IsTuple t vs) (hx : vs[i]? = none)
    (q : ∀ h' e, Heap.ExtBut it s.heap h' -> (∃ o, h'.get? e = some o /\ o.cls = .type "StopIteration") -> E (.ref e) { s with heap := h' }) : wpAny (model prog w) A (Builtin.SmallTypes.nextOf (.ref it)) Q E s := by
  obtain ⟨o, ho, hc, hd⟩ := id hi
  obtain ⟨ot, hot, _, nt, hdt⟩ := ht
  unfold Builtin.SmallTypes.nextOf
  refine wpAny_bind (wpAny_callSpecial?_slot (name := Str.ofString "__next__") hi.typeIs F.slot_tuple_iterator_next (wpAny_call_entry F.slot_tuple_iterator_next hi.typeIs F.entry_tuple_iterator_next ?_ (F.args_tuple_iterator_next_1 _)))
  show wpAny _ _ (field (.ref it) 0 >>= _) _ _ s
  refine wpAny_bind (wpAny_field ho hd (x := .ref t) rfl (show wpAny _ _ (if (Value.ref t == Value.none) = true then _ else _) _ _ s from ?_))
  rw [if_neg (show ¬ ((Value.ref t == Value.none) = true) from Bool.false_ne_true)]
  show wpAny _ _ (field (.ref it) 1 >>= _) _ _ s
  refine wpAny_bind (wpAny_field ho hd (x := .int i 0) rfl (show wpAny _ _ (seqItems? (.ref t) >>= _) _ _ s from wpAny_bind (wpAny_seqItems hot hdt ?_)))
  simp only [Int.toNat_natCast, hx]
  refine wpAny_bind (wpAny_rule (wpAny_bind (wpAny_setField ho hd (by simp) (show wpAny _ _ (newExc (.type "StopIteration") [] >>= _) _ _ _ from wpAny_bind ?_))))
  simp only [newExc, newTuple]
  refine wpAny_bind (wpAny_newObj_type (wpAny_bind (m := firstArgMember _ _) (wpAny_of_eq (a := Value.none) (by first | rfl | (simp only [firstArgMember]; rfl)) (wpAny_newObj_type ?_ (by size_fits)))) (by size_fits))
  simp only [raiseNew]
  refine wpAny_bind (wpAny_handled ?_)
  first | rw [show A.in1.handled = none from hh] | rw [hh]
  exact wpAny_bind (wpAny_pure (wpAny_throw (q _ _ (((Heap.SameBut.update ..).extBut.push _).push _) ⟨_, Heap.get?_push_size _ rfl, rfl⟩)))
theorem itAt {h h' : Heap} {it t : Addr} {i : Nat} (x : h.IsTupleIter it t i) (k : ∀ o, h.get? it = some o -> h'.get? it = some o) : h'.IsTupleIter it t i := let ⟨o, ho, r⟩ := x; ⟨o, k o ho, r⟩
theorem tpAt {h h' : Heap} {t : Addr} {vs : Array Value} (x : h.IsTuple t vs) (k : ∀ o, h.get? t = some o -> h'.get? t = some o) : h'.IsTuple t vs := let ⟨o, ho, r⟩ := x; ⟨o, k o ho, r⟩
end
section
variable {X : Cx} {elts : List Expr} {k : Nat} {tpos : Pos}
end
end L2
namespace L2
open PySem PySem.Spec PyProof.Rows
abbrev kwS (k : Tok) : List (Str × Value) := [(Str.ofString "start", .int 1 k)]
theorem e1_type (a : Value) (k : Tok) : checkTypeCall "enumerate" ⟨[a], kwS k⟩ = pure () := by kernel_rfl
theorem e1_newc (a : Value) (k : Tok) : checkBuiltinCall "enumerate.__new__" ⟨[.type "enumerate", a], kwS k⟩ = pure () := by kernel_rfl
theorem e1_args (o a : Value) (k : Tok) : argsOk "object.__init__" ⟨[o, a], kwS k⟩ := by
  unfold argsOk
  rw [signature?_of (id := "object.__init__") (n := ['_', '_', 't', 'i', 'n', 'i', '_', '_']) (o := ['t', 'c', 'e', 'j', 'b', 'o']) (by kernel_rfl) F.owner_object]
  kernel_rfl
theorem e1_make (l : Addr) (vs : Array Value) (k : Tok) :
    Meets (Builtin.«enumerate.__new__» ⟨[.type "enumerate", .ref l], kwS k⟩) (fun _ R s => s.heap.IsTuple l vs /\
      ∀ h0 h1 h2, h0 = s.heap -> h1 = h0.push { cls := .type "tuple_iterator", data := .fields #[.ref l, .int 0 0] } -> h2 = h1.push { cls := .type "enumerate", data := .fields #[.none, .bool false, .ref h0.objs.size, rawInt 1, .none, .none] } -> R (.ok (.ret (.ref h1.objs.size))) { s with heap := h2 }) :=
  .of_wp fun prog w A R s h => by
    obtain ⟨hp, g, d, tk, os⟩ := s
    obtain ⟨hl1, h⟩ := h
    have hsub := sub_enumerate
    have hL1 : Heap.IsTuple (Shared.heap ⟨hp, g, d, tk, os⟩) l vs := hl1
    have h := h _ _ _ rfl rfl rfl
    wp_walk
    refine wpAny_stack_any fun st => wpAny_pure ?_
    split
    · rename_i c _ _ _ _ _
      cases (c == Value.type "enumerate")
      · wp_walk using wpAny_pyIter_tuple hL1
        exact ⟨_, rfl, h⟩
      · wp_walk using wpAny_pyIter_tuple hL1
        exact ⟨_, rfl, h⟩
    · wp_walk using wpAny_pyIter_tuple hL1
      exact ⟨_, rfl, h⟩
theorem e1_init {T newId : String} {self a : Value} {k : Tok} (hl : typeLookup (.type T) "__init__" = pure (some (.builtin "object.__init__")))
    (hm : Bind.madeBy (.type T) = pure (some newId)) (hne : (some newId != some "object.__new__") = true) :
    Meets (Builtin.«object.__init__» ⟨[self, a], kwS k⟩) (fun _ R s => s.TypeIs self T /\ R (.ok (.ret .none)) s) := by
  refine Meets.of_wp fun prog w A R s hs => ?_
  obtain ⟨hT, hq⟩ := hs
  repeat any_goals (first | assumption | wp_step)
  exact ⟨_, rfl, hq⟩
end L2
namespace L2
open PySem PySem.Spec PyProof.Rows
section
variable {prog : Program} {w : World} {A : Around} {E : Value -> Shared -> Prop} {s : Shared}
theorem e1_call {l : Addr} {vs : Array Value} {k : Tok} {Q : Value -> Shared -> Prop} (g1 : s.heap.IsTuple l vs)
    (q : ∀ h', IsEnum h' (s.heap.objs.size + 1) s.heap.objs.size 1 .none -> h'.IsTupleIter s.heap.objs.size l 0 -> (∀ c o, s.heap.get? c = some o -> h'.get? c = some o) -> Q (.ref (s.heap.objs.size + 1)) { s with heap := h' }) :
    wpAny (model prog w) A (call (.type "enumerate") [.ref l] (kwS k)) Q E s := by
  obtain ⟨c, tl, hmro⟩ := F.called_enumerate.mro
  have hmade := F.called_enumerate.made
  have hsub := F.called_enumerate.sub
  have hct := e1_type (.ref l) k
  refine wpAny_call (codeAny_of_tree (show wpAny _ _ (callAny (.type "enumerate") _) _ _ _ from wpAny_pure ⟨Code.quiet_builtin _ (by decide +kernel), codeAny_builtin F.entry_type_call ?_⟩))
  rw [Around.under_plain (weight_type_call_type "enumerate" [.ref l] (kwS k)) rfl]
  have h1 := F.called_enumerate.notType
  have h2 := F.called_enumerate.canCreate
  repeat any_goals (first | assumption | wp_step)
  have hS : (s.heap.push { cls := .type "tuple_iterator", data := .fields #[.ref l, .int 0 0] }).objs.size = s.heap.objs.size + 1 := Heap.size_push ..
  refine codeAny_mono (codeAny_call_builtin F.called_enumerate.plain F.entry_enumerate_new (wpAny_of_eq (e1_newc (.ref l) k) (e1_make l vs k prog w A.in1 (wants (fun obj s₁ => s₁.TypeIs obj "enumerate" /\ Q obj s₁) E) s ⟨g1, fun h0 h1 h2 e0 e1 e2 => ?_⟩))) fun r s₁ hr => ?_
  · subst e0 e1 e2
    have he : IsEnum ((s.heap.push { cls := .type "tuple_iterator", data := .fields #[.ref l, .int 0 0] }).push { cls := .type "enumerate", data := .fields #[.none, .bool false, .ref s.heap.objs.size, rawInt 1, .none, .none] }) (s.heap.objs.size + 1) s.heap.objs.size 1 .none := by
      have := Heap.get?_push_size (s.heap.push { cls := .type "tuple_iterator", data := .fields #[.ref l, .int 0 0] }) (o := { cls := .type "enumerate", data := .fields #[.none, .bool false, .ref s.heap.objs.size, rawInt 1, .none, .none] }) rfl
      rw [hS] at this
      exact this
    show _ /\ _
    rw [hS]
    exact ⟨⟨_, he, rfl⟩, q _ he ⟨_, Heap.get?_push_of_some _ (Heap.get?_push_size _ rfl), rfl, rfl⟩ fun c o x => Heap.get?_push_of_some _ (Heap.get?_push_of_some _ x)⟩
  · cases r with
    | error e => exact hr
    | ok fl =>
      cases fl with
      | ret obj =>
        obtain ⟨hT, hq⟩ := hr
        have hli := F.called_enumerate.init.lookup
        have hbi := F.called_enumerate.init.bind obj
        repeat any_goals (first | assumption | wp_step)
        refine codeAny_mono (codeAny_call_builtin F.called_enumerate.init.plain F.entry_object_init (F.called_enumerate.init.check _ _ _ _ _ _ _ _ hT (e1_args obj (.ref l) k) (e1_init F.called_enumerate.init.lookup F.called_enumerate.made (by decide) prog w A.in1 (wants (fun r s₂ => r = .none /\ Q obj s₂) E) s₁ ⟨hT, rfl, hq⟩))) fun r₂ s₂ hr₂ => ?_
        cases r₂ with
        | error e => exact hr₂
        | ok fl₂ =>
          cases fl₂ with
          | ret r =>
            obtain ⟨rfl, hq⟩ := hr₂
            repeat any_goals (first | assumption | wp_step)
          | _ => exact hr₂.elim
      | _ => exact hr.elim
theorem callWith_tkw {M : Model} {A : Around} {E : Value -> Shared -> Prop} {s : Shared} {env : Env} {pos : Pos} {T : String} {e : Expr} {kws : List Keyword} {Q : Value -> Shared -> Prop}
    (h : wpAny M A (spliced (backTo pos (starEach [e] env))) (fun vs s₁ => wpAny M A (evalAll ((backToKw pos (keywordEach kws env)).map (·.2))) (fun kvs s₂ => wpAny M A (call (.type T) vs (((backToKw pos (keywordEach kws env)).filterMap (·.1)).zip kvs)) Q E s₂) E s₁) E s)
    (he : backTo pos (starEach [e] env) = (false, eval e env) :: backTo pos (starEach [] env)) (hp : (backTo pos (starEach [e] env)).any (·.1) = false)
    (ha : (backToKw pos (keywordEach kws env)).all (·.1.isSome) = true) (hk : (backToKw pos (keywordEach kws env)).any (·.1.isNone) = false) :
    wpAny M A (callWith pos (.type T) [] (backTo pos (starEach [e] env)) (backToKw pos (keywordEach kws env))) Q E s := by
  have g : wpAny M A (evalArgs (.type T) true (backTo pos (starEach [e] env)) (backToKw pos (keywordEach kws env))) (fun a s₁ => wpAny M A (call (.type T) ([] ++ a.pos) a.kw) Q E s₁) E s := by
    rw [he] at h ⊢
    exact evalArgs_kwB ha h
  unfold callWith
  refine wpAny_bind (wpAny_holding (wpAny_mono g (fun a s₁ h₁ => wpAny_bind (wpAny_standAt ?_)) fun _ _ x => x))
  rw [hp, hk]
  exact wpAny_bind (wpAny_pure (wpAny_bind (wpAny_mono h₁ (fun r s₂ hr => wpAny_bind (wpAny_holding (wpAny_point (wpAny_pure hr)))) fun _ _ x => x)))
end
theorem drawsT {prog : Program} {w : World} {A : Around} (hh : A.handled = none) (it t : Addr) (hne : t ≠ it) (vs : Array Value) :
    Draws prog w A it [it, t] (vs.size + 1) (fun j v => ∃ i, j = i + 1 /\ vs[i]? = some v) (fun j h => ∃ i, j = i + 1 /\ h.IsTupleIter it t i /\ h.IsTuple t vs) where
  live := fun j h ⟨i, _, ⟨o, ho, _⟩, _⟩ => ⟨o, ho⟩
  frame := fun j h h' ⟨i, e, hi, ht⟩ k => ⟨i, e, itAt hi fun o x => k it (by simp) o x, tpAt ht fun o x => k t (by simp) o x⟩
  item := fun j s Q E hj ⟨i, e, hi, ht⟩ hQ => by
    have hlt : i < vs.size := by omega
    have hx : vs[i]? = some vs[i] := Array.getElem?_eq_getElem hlt
    refine tupNext_yes hi ht hx fun h' hi' hs => hQ _ h' s.toks ⟨i, e, hx⟩ ⟨i + 1, by omega, hi', tpAt ht fun o x => (hs.2 t hne).trans x⟩ hs
  done := fun s Q E ⟨i, e, hi, ht⟩ hE => tupNext_no hh hi ht (Array.getElem?_eq_none (by omega)) hE
def rEn1 (xs : List V) : Nat -> List V -> Prop := fun i vs => ∃ x, xs[i]? = some x /\ vs = [.int ((i : Int) + 1), x]
theorem turn_en1 {P : Program} {w : World} {K : PySem.W.Frag} {elts : List Expr} {k : Nat} {pos : Pos} (xs : List V) {e it l : Addr} (ne : e ≠ it) (le : l ≠ e) (li : l ≠ it) :
    Turn P w K (.Tuple elts k pos) (ItW xs.length (fun H => SqT K H l xs) (rEn1 xs)) [e, it] e (fun i h => (∃ old, IsEnum h e it ((i + 1 : Nat) : Int) old) /\ h.IsTupleIter it l i) where
  mem := by simp
  obj := fun i h ht b hb => by
    obtain ⟨⟨old, he⟩, o, ho, c, d⟩ := ht
    rcases List.mem_cons.mp hb with z | z
    · rw [z]
      exact ⟨_, he, fun v z => by cases z⟩
    · rw [List.mem_singleton.mp z]
      exact ⟨o, ho, fun v z => by rw [d] at z; cases z⟩
  keep := fun i h h' ht k => by
    obtain ⟨⟨old, he⟩, o, ho, r⟩ := ht
    exact ⟨⟨old, k e (by simp) _ he⟩, o, k it (by simp) o ho, r⟩
  item := by
    intro X hP hw hK hc i pins s σ H E I hf ht ⟨hi, hG⟩
    have hh := I.ok.hd hc
    subst hP hw hK
    obtain ⟨vs, rv, pl, hz⟩ := I.tuple hG
    have hlen := rv.length
    have W := WalksT.enumerateD (drawsT (prog := X.prog) (w := X.w) (A := X.A.in1) hh it l li vs.toArray) e ne (by simp [ne, le.symm]) (by simp)
    refine W.item (i + 1) s _ _ (by rw [List.size_toArray]; omega) ⟨ht.1, i, rfl, ht.2, pl⟩ fun T vals h1 tk hv hT ht1 hm k1 => ?_
    refine ⟨_, rfl, W.go elts k pos (i + 1) T _ _ _ hm fun h2 S2 k2 => ?_⟩
    obtain ⟨t, v, ⟨i', ei, hx⟩, rfl⟩ := hv
    have ei' : i' = i := by omega
    subst ei'
    obtain ⟨x, hx'⟩ := some_of_lt hi
    obtain ⟨v', hv', rx⟩ := rv.get hx'
    have ev : v' = v := by
      have : vs[i']? = some v := by simpa using hx
      rw [hv'] at this
      exact Option.some.inj this
    subst ev
    have nT : T ∉ [e, it] := W.apart (i' + 1) T _ hm
    have t2 : IsTup h2 T [Value.int ((i' : Int) + 1) t, v'].toArray := by
      rw [show (i' : Int) + 1 = ((i' + 1 : Nat) : Int) by omega]
      obtain ⟨o, ho, c, m, d⟩ := ht1
      exact ⟨o, k2 T o nT ho, c, m, by rw [d]⟩
    obtain ⟨S2a, i2, e2, S2b, S2c⟩ := S2
    have e2' : i2 = i' + 1 := by omega
    subst e2'
    refine ⟨.ref T, upd H T (.tup [.int ((i' : Int) + 1), x]), I.turnedT (wr := [e, it]) (fun b o hb q => k2 b o hb (k1 b o hb q)) hf hT (by show 2 <= sizeLine; decide) (.cons ⟨t, rfl⟩ (.cons rx .nil)) t2, rfl, ⟨T, _, rfl, I.hok.fresh hT, ⟨x, hx', rfl⟩, rfl⟩, ⟨S2a, S2b⟩, fun b hb => ?_⟩
    have f := (hf b hb).1
    have hb2 : ∃ o, s.heap.get? b = some o := by
      obtain ⟨⟨old, he⟩, o, ho, c, d⟩ := ht
      rcases List.mem_cons.mp hb with z | z
      · rw [z]; exact ⟨_, he⟩
      · rw [List.mem_singleton.mp z]; exact ⟨o, ho⟩
    obtain ⟨o, ho⟩ := hb2
    have nb : b ≠ T := fun z => by
      subst z
      exact absurd (Nat.lt_of_lt_of_le (Heap.lt_size ho) hT) (Nat.lt_irrefl _)
    rw [upd_ne nb]
    exact f
  done := by
    intro X hP hw hK hc i pins s σ H E I hf ht ⟨hi, hG⟩
    have hh := I.ok.hd hc
    subst hP hw hK hi
    obtain ⟨vs, rv, pl, hz⟩ := I.tuple hG
    have hlen := rv.length
    have W := WalksT.enumerateD (drawsT (prog := X.prog) (w := X.w) (A := X.A.in1) hh it l li vs.toArray) e ne (by simp [ne, le.symm]) (by simp)
    have e1 : vs.toArray.size = xs.length := by rw [List.size_toArray]; omega
    refine W.done s _ _ ?_ fun h1 tk k1 => ⟨rfl, I.turnedL (wr := [e, it]) k1 fun b hb => hf b hb⟩
    rw [e1]
    exact ⟨ht.1, _, rfl, ht.2, pl⟩
  self := fun A i s Q E ht q => by
    obtain ⟨⟨old, he⟩, _⟩ := ht
    exact wpAny_pyIter_enum he q
section
variable {X : Cx} {elts : List Expr} {k : Nat} {tpos : Pos}
def iEn1 (K : PySem.W.Frag) (te : TE) : TI := fun σ H R => te σ H fun x H1 => ∃ l xs, x = .ref l /\ SqT K H1 l xs /\ R (ItW xs.length (fun H => SqT K H l xs) (rEn1 xs)) H1
theorem pi_en1 {e : Expr} {te : TE} {p pos kp cp : Pos} {j : Nat} (hg : Gl X "enumerate") (hm : X.mg "enumerate" = none) (he : PE X e te) (hst : starEach [e] X.env = [(false, eval e X.env)] := by rfl) : PI X (.Tuple elts k tpos) (.Call (.Name "enumerate" p) [e] [⟨some "start", .Constant (.int 1) j cp, kp⟩] pos) (iEn1 X.K te) := by
  intro pins s σ H R I h
  refine wpAny_Call_Name_kw (ld_blt I hg hm boot_enumerate ?_)
  refine callWith_tkw ?_ (by rw [hst]; rfl) (by rw [hst]; rfl) rfl rfl
  rw [hst]
  refine Calls.spliced_cons (thn (he pins s σ H _ I h) fun u s1 ⟨x, H1, I1, r1, l, xs, ex, hq, q⟩ => Calls.spliced_nil (kws_cons (wpAny_Constant_int (kws_nil ?_))))
  subst ex
  cases r1
  have I2 := I1.tok (s1.toks + 1)
  obtain ⟨vs, rv, pl, hz⟩ := I2.tuple hq
  have ll : l < s1.heap.objs.size := let ⟨_, e, _⟩ := pl; Heap.lt_size e
  refine e1_call (s := { s1 with toks := s1.toks + 1 }) pl fun h' he hi kp => wpAny_pyIter_enum he ?_
  have I3 : Inv X pins σ H1 { s1 with heap := h', toks := s1.toks + 1 } := I2.kept (t' := s1.toks + 1) kp
  refine ⟨s1.heap.objs.size + 1, [s1.heap.objs.size + 1, s1.heap.objs.size], _, _, H1, rfl, I3, turn_en1 xs (Nat.succ_ne_self _) (Nat.ne_of_lt (Nat.lt_succ_of_lt ll)) (Nat.ne_of_lt ll), ⟨⟨_, he⟩, hi⟩, fun b hb => ?_, q⟩
  have hb' : b = s1.heap.objs.size + 1 \/ b = s1.heap.objs.size := by simpa using hb
  rcases hb' with z | z <;> subst z
  · exact I1.fpOk (Nat.le_succ _) (I1.hok.fresh (Nat.le_succ _))
  · exact I1.fpOk (Nat.le_refl _) (I1.hok.fresh (Nat.le_refl _))
theorem qi_en1 {e : Expr} {te : TE} {p pos kp cp : Pos} {j : Nat} (hg : Gl X "enumerate") (hm : X.mg "enumerate" = none) (he : QE X e te) (hst : starEach [e] X.env = [(false, eval e X.env)] := by rfl) : QI X (.Tuple elts k tpos) (.Call (.Name "enumerate" p) [e] [⟨some "start", .Constant (.int 1) j cp, kp⟩] pos) (iEn1 X.K te) := ⟨pi_en1 hg hm he.h hst⟩
end
end L2
namespace L2
open PySem PySem.Spec PyProof.Rows
section
variable {X : Cx}
end
end L2
namespace L2
open PySem PySem.Spec PyProof.Rows
section
variable {prog : Program} {w : World} {A : Around} {E : Value -> Shared -> Prop} {s : Shared}
end
section
variable {X : Cx} {e : Expr} {te : TE} {p1 p2 q1 q2 : Pos}
end
end L2
namespace TR
open PySem L2 TM
inductive Tr where
  | node (nm : Str) (mk : Int) (bs : List Tr)
def Tr.nm : Tr -> Str
  | .node n _ _ => n
def Tr.mk' : Tr -> Int
  | .node _ m _ => m
def Tr.bs : Tr -> List Tr
  | .node _ _ b => b
mutual
def size : Tr -> Nat
  | .node _ _ bs => 1 + sizes bs
def sizes : List Tr -> Nat
  | [] => 0
  | t :: ts => size t + sizes ts
end
mutual
def deep : Tr -> Nat
  | .node _ _ bs => 1 + deeps bs
def deeps : List Tr -> Nat
  | [] => 0
  | t :: ts => max (deep t) (deeps ts)
end
mutual
def TrIs (H : Hp) : Tr -> V -> Prop
  | .node nm mk bs, v => ∃ p b vs, v = .ref p /\ H p = some (.tup [.str nm, .int mk, .ref b]) /\ H b = some (.tup vs) /\ TrsIs H bs vs
def TrsIs (H : Hp) : List Tr -> List V -> Prop
  | [], vs => vs = []
  | t :: ts, vs => ∃ v r, vs = v :: r /\ TrIs H t v /\ TrsIs H ts r
end
theorem trs_l2r {H : Hp} : ∀ {ts : List Tr} {vs : List V}, TrsIs H ts vs -> L2R (TrIs H) ts vs
  | [], vs, h => by unfold TrsIs at h; subst h; exact .nil
  | t :: ts, vs, h => by unfold TrsIs at h; obtain ⟨v, r, rfl, h1, h2⟩ := h; exact .cons h1 (trs_l2r h2)
theorem trs_of {H : Hp} : ∀ {ts : List Tr} {vs : List V}, L2R (TrIs H) ts vs -> TrsIs H ts vs
  | _, _, .nil => by unfold TrsIs; rfl
  | _, _, .cons x y => by unfold TrsIs; exact ⟨_, _, rfl, x, trs_of y⟩
mutual
theorem TrIs.same {H H' : Hp} (e : SameT H H') : ∀ (t : Tr) {v : V}, TrIs H t v -> TrIs H' t v
  | .node nm mk bs, v, h => by
    unfold TrIs at h ⊢
    obtain ⟨p, b, vs, rfl, h1, h2, h3⟩ := h
    exact ⟨p, b, vs, rfl, e _ _ h1, e _ _ h2, TrsIs.same e bs h3⟩
theorem TrsIs.same {H H' : Hp} (e : SameT H H') : ∀ (ts : List Tr) {vs : List V}, TrsIs H ts vs -> TrsIs H' ts vs
  | [], vs, h => by unfold TrsIs at h ⊢; exact h
  | t :: ts, vs, h => by
    unfold TrsIs at h ⊢
    obtain ⟨v, r, rfl, h1, h2⟩ := h
    exact ⟨v, r, rfl, TrIs.same e t h1, TrsIs.same e ts h2⟩
end
theorem TrIs.op {H : Hp} {t : Tr} {v : V} (h : TrIs H t v) : ∃ p b vs, v = .ref p /\ H p = some (.tup [.str t.nm, .int t.mk', .ref b]) /\ H b = some (.tup vs) /\ L2R (TrIs H) t.bs vs := by
  cases t with
  | node nm mk bs =>
    unfold TrIs at h
    obtain ⟨p, b, vs, rfl, h1, h2, h3⟩ := h
    exact ⟨p, b, vs, rfl, h1, h2, trs_l2r h3⟩
theorem TrIs.cl {H : Hp} {nm : Str} {mk : Int} {bs : List Tr} {p b : Addr} {vs : List V} (h1 : H p = some (.tup [.str nm, .int mk, .ref b])) (h2 : H b = some (.tup vs)) (h3 : L2R (TrIs H) bs vs) : TrIs H (.node nm mk bs) (.ref p) := by
  unfold TrIs
  exact ⟨p, b, vs, rfl, h1, h2, trs_of h3⟩
theorem size_eq (t : Tr) : size t = 1 + sizes t.bs := by cases t; rw [size]; rfl
theorem deep_eq (t : Tr) : deep t = 1 + deeps t.bs := by cases t; rw [deep]; rfl
theorem sizes_mem : ∀ {ts : List Tr} {t : Tr}, t ∈ ts -> size t <= sizes ts
  | [], _, h => nomatch h
  | x :: ts, t, h => by
    unfold sizes
    rcases List.mem_cons.mp h with rfl | h
    · omega
    · have := sizes_mem h; omega
theorem deeps_mem : ∀ {ts : List Tr} {t : Tr}, t ∈ ts -> deep t <= deeps ts
  | [], _, h => nomatch h
  | x :: ts, t, h => by
    unfold deeps
    rcases List.mem_cons.mp h with rfl | h
    · omega
    · have := deeps_mem h; omega
theorem size_pos (t : Tr) : 1 <= size t := by rw [size_eq]; omega
theorem sizes_len : ∀ ts : List Tr, ts.length <= sizes ts
  | [] => Nat.zero_le _
  | t :: ts => by
    unfold sizes
    have := sizes_len ts
    have := size_pos t
    rw [List.length_cons]
    omega
theorem bs_len {t : Tr} {k : Nat} (h : size t <= k) : t.bs.length < k := by
  have := sizes_len t.bs
  rw [size_eq] at h
  omega
theorem size_br {t u : Tr} (h : u ∈ t.bs) : size u < size t := by
  have := sizes_mem h
  rw [size_eq t]
  omega
theorem deep_br {t u : Tr} (h : u ∈ t.bs) : deep u < deep t := by
  have := deeps_mem h
  rw [deep_eq t]
  omega
mutual
theorem deep_size : ∀ t : Tr, deep t <= size t
  | .node _ _ bs => by rw [deep, size]; have := deeps_sizes bs; omega
theorem deeps_sizes : ∀ ts : List Tr, deeps ts <= sizes ts
  | [] => by rw [deeps, sizes]; exact Nat.le_refl _
  | t :: ts => by rw [deeps, sizes]; have := deep_size t; have := deeps_sizes ts; omega
end
theorem sizes_take : ∀ (i : Nat) (ts : List Tr), sizes (ts.take i) <= sizes ts
  | 0, ts => by rw [List.take_zero, sizes]; exact Nat.zero_le _
  | i + 1, [] => by rw [List.take_nil]; exact Nat.le_refl _
  | i + 1, t :: ts => by rw [List.take_succ_cons, sizes, sizes]; have := sizes_take i ts; omega
mutual
def pths : Tr -> List (List Int)
  | .node _ _ bs => [] :: pthss 1 bs
def pthss (k : Int) : List Tr -> List (List Int)
  | [] => []
  | t :: ts => (pths t).map (k :: ·) ++ pthss (k + 1) ts
end
theorem pths_eq (t : Tr) : pths t = [] :: pthss 1 t.bs := by cases t; rw [pths]; rfl
mutual
theorem pths_len : ∀ t : Tr, (pths t).length = size t
  | .node _ _ bs => by rw [pths, size, List.length_cons, pthss_len bs]; omega
theorem pthss_len : ∀ (ts : List Tr) {k : Int}, (pthss k ts).length = sizes ts
  | [], k => by rw [pthss, sizes]; rfl
  | t :: ts, k => by rw [pthss, sizes, List.length_append, List.length_map, pths_len t, pthss_len ts]
end
theorem pthss_app : ∀ (ts us : List Tr) (k : Int), pthss k (ts ++ us) = pthss k ts ++ pthss (k + ts.length) us
  | [], us, k => by rw [List.nil_append, pthss]; simp
  | t :: ts, us, k => by
    rw [List.cons_append, pthss, pthss, pthss_app ts us, List.append_assoc]
    have : k + 1 + (ts.length : Int) = k + ((t :: ts).length : Int) := by rw [List.length_cons]; omega
    rw [this]
theorem pthss_snoc (ts : List Tr) (t : Tr) : pthss 1 (ts ++ [t]) = pthss 1 ts ++ (pths t).map ((1 + (ts.length : Int)) :: ·) := by
  rw [pthss_app, pthss, pthss, List.append_nil]
mutual
theorem pths_short : ∀ (t : Tr) {p : List Int}, p ∈ pths t -> p.length < deep t
  | .node _ _ bs, p, h => by
    rw [pths] at h
    rw [deep]
    rcases List.mem_cons.mp h with rfl | h
    · show 0 < 1 + deeps bs
      omega
    · have := pthss_short bs h
      omega
theorem pthss_short : ∀ (ts : List Tr) {k : Int} {p : List Int}, p ∈ pthss k ts -> p.length <= deeps ts
  | [], k, p, h => by rw [pthss] at h; cases h
  | t :: ts, k, p, h => by
    rw [pthss] at h
    rw [deeps]
    rcases List.mem_append.mp h with h | h
    · obtain ⟨q, hq, rfl⟩ := List.mem_map.mp h
      have := pths_short t hq
      rw [List.length_cons]
      omega
    · have := pthss_short ts h
      omega
end
def PthIs (H : Hp) (p : List Int) (v : V) : Prop := ∃ a, v = .ref a /\ H a = some (.tup (p.map V.int))
theorem PthIs.same {H H' : Hp} (e : SameT H H') {p : List Int} {v : V} (h : PthIs H p v) : PthIs H' p v := by
  obtain ⟨a, x, y⟩ := h
  exact ⟨a, x, e _ _ y⟩
def atT : List Int -> Tr -> Option Tr
  | [], t => some t
  | k :: ks, t => if 1 <= k then (t.bs[(k - 1).toNat]?).bind (atT ks) else none
theorem atT_app : ∀ (p q : List Int) (t : Tr), atT (p ++ q) t = (atT p t).bind (atT q)
  | [], q, t => rfl
  | k :: p, q, t => by
    rw [List.cons_append]
    unfold atT
    split
    · cases t.bs[(k - 1).toNat]? with
      | none => rfl
      | some c => exact atT_app p q c
    · rfl
theorem atT_cons {k : Int} {ks : List Int} {t u : Tr} (h : atT (k :: ks) t = some u) : 1 <= k /\ k <= t.bs.length /\ ∃ c, t.bs[(k - 1).toNat]? = some c /\ c ∈ t.bs /\ atT ks c = some u := by
  unfold atT at h
  split at h
  · rename_i h1
    cases hc : t.bs[(k - 1).toNat]? with
    | none => rw [hc] at h; cases h
    | some c =>
      rw [hc] at h
      have := lt_of_some (xs := t.bs) hc
      exact ⟨h1, by omega, c, rfl, List.mem_of_getElem? hc, h⟩
  · cases h
theorem atT_size : ∀ {p : List Int} {t u : Tr}, atT p t = some u -> size u <= size t
  | [], t, u, h => by cases h; exact Nat.le_refl _
  | k :: p, t, u, h => by
    obtain ⟨_, _, c, _, hm, h'⟩ := atT_cons h
    have := atT_size h'
    have := size_br hm
    omega
theorem atT_deep : ∀ {p : List Int} {t u : Tr}, atT p t = some u -> deep u + p.length <= deep t
  | [], t, u, h => by cases h; exact Nat.le_refl _
  | k :: p, t, u, h => by
    obtain ⟨_, _, c, _, hm, h'⟩ := atT_cons h
    have := atT_deep h'
    have := deep_br hm
    rw [List.length_cons]
    omega
def putT : List Int -> Tr -> Tr -> Option Tr
  | [], _, b => some b
  | k :: ks, t, b => if 1 <= k then (t.bs[(k - 1).toNat]?).bind fun c => (putT ks c b).map fun c' => .node t.nm t.mk' (t.bs.set (k - 1).toNat c') else none
theorem putT_cons {k : Int} {ks : List Int} {t b r : Tr} (h : putT (k :: ks) t b = some r) : 1 <= k /\ k <= t.bs.length /\ ∃ c c', t.bs[(k - 1).toNat]? = some c /\ c ∈ t.bs /\ putT ks c b = some c' /\ r = .node t.nm t.mk' (t.bs.set (k - 1).toNat c') := by
  unfold putT at h
  split at h
  · rename_i h1
    cases hc : t.bs[(k - 1).toNat]? with
    | none => rw [hc] at h; cases h
    | some c =>
      rw [hc] at h
      have h : (putT ks c b).map (fun c' => Tr.node t.nm t.mk' (t.bs.set (k - 1).toNat c')) = some r := h
      obtain ⟨c', hc', e⟩ := Option.map_eq_some_iff.mp h
      have := lt_of_some (xs := t.bs) hc
      exact ⟨h1, by omega, c, c', rfl, List.mem_of_getElem? hc, hc', e.symm⟩
  · cases h
theorem putT_some : ∀ {p : List Int} {t b u : Tr}, atT p t = some u -> ∃ r, putT p t b = some r
  | [], t, b, u, h => ⟨b, rfl⟩
  | k :: p, t, b, u, h => by
    obtain ⟨h1, _, c, hc, _, h'⟩ := atT_cons h
    obtain ⟨r, hr⟩ := putT_some (b := b) h'
    refine ⟨.node t.nm t.mk' (t.bs.set (k - 1).toNat r), ?_⟩
    unfold putT
    rw [if_pos h1, hc]
    show (putT p c b).map _ = _
    rw [hr]
    rfl
def kidsP (p : List Int) : Int -> List Tr -> List (List Int × Tr)
  | _, [] => []
  | k, t :: ts => (p ++ [k], t) :: kidsP p (k + 1) ts
mutual
def nds (p : List Int) : Tr -> List (List Int × Tr)
  | .node nm mk bs => (p, .node nm mk bs) :: ndss p 1 bs
def ndss (p : List Int) (k : Int) : List Tr -> List (List Int × Tr)
  | [] => []
  | t :: ts => nds (p ++ [k]) t ++ ndss p (k + 1) ts
end
theorem nds_eq (p : List Int) (t : Tr) : nds p t = (p, t) :: ndss p 1 t.bs := by cases t; rw [nds]; rfl
theorem ndss_eq (p : List Int) : ∀ (ts : List Tr) (k : Int), ndss p k ts = (kidsP p k ts).flatMap fun x => nds x.1 x.2
  | [], k => by rw [ndss, kidsP]; rfl
  | t :: ts, k => by rw [ndss, kidsP, List.flatMap_cons, ndss_eq p ts]
theorem kidsP_len (p : List Int) : ∀ (ts : List Tr) (k : Int), (kidsP p k ts).length = ts.length
  | [], k => rfl
  | t :: ts, k => by rw [kidsP, List.length_cons, List.length_cons, kidsP_len p ts]
theorem kidsP_get (p : List Int) : ∀ (ts : List Tr) (k : Int) {i : Nat} {t : Tr}, ts[i]? = some t -> (kidsP p k ts)[i]? = some (p ++ [k + i], t)
  | [], k, i, t, h => by simp at h
  | t' :: ts, k, 0, t, h => by
    rw [kidsP]
    simp at h ⊢
    exact h
  | t' :: ts, k, i + 1, t, h => by
    rw [kidsP, List.getElem?_cons_succ, kidsP_get p ts (k + 1) (by simpa using h)]
    have : k + 1 + (i : Int) = k + ((i + 1 : Nat) : Int) := by omega
    rw [this]
mutual
theorem nds_len : ∀ (t : Tr) {p : List Int}, (nds p t).length = size t
  | .node _ _ bs, p => by rw [nds, size, List.length_cons, ndss_len bs]; omega
theorem ndss_len : ∀ (ts : List Tr) {p : List Int} {k : Int}, (ndss p k ts).length = sizes ts
  | [], p, k => by rw [ndss, sizes]; rfl
  | t :: ts, p, k => by rw [ndss, sizes, List.length_append, nds_len t, ndss_len ts]
end
mutual
theorem nds_at : ∀ (t : Tr) {p q : List Int} {u : Tr}, (q, u) ∈ nds p t -> ∃ r, q = p ++ r /\ atT r t = some u
  | .node nm mk bs, p, q, u, h => by
    rw [nds] at h
    rcases List.mem_cons.mp h with h | h
    · cases h
      exact ⟨[], by simp, rfl⟩
    · obtain ⟨j, c, r, hc, e, h'⟩ := ndss_at bs h
      refine ⟨(1 + (j : Int)) :: r, e, ?_⟩
      unfold atT
      rw [if_pos (by omega)]
      have : ((1 : Int) + j - 1).toNat = j := by omega
      rw [this]
      show (bs[j]?).bind _ = _
      rw [hc]
      exact h'
theorem ndss_at : ∀ (ts : List Tr) {p q : List Int} {u : Tr} {k : Int}, (q, u) ∈ ndss p k ts -> ∃ (j : Nat) (c : Tr) (r : List Int), ts[j]? = some c /\ q = p ++ (k + j) :: r /\ atT r c = some u
  | [], p, q, u, k, h => by rw [ndss] at h; cases h
  | t :: ts, p, q, u, k, h => by
    rw [ndss] at h
    rcases List.mem_append.mp h with h | h
    · obtain ⟨r, e, h'⟩ := nds_at t h
      exact ⟨0, t, r, rfl, by rw [e]; simp, h'⟩
    · obtain ⟨j, c, r, hc, e, h'⟩ := ndss_at ts h
      refine ⟨j + 1, c, r, by simpa using hc, ?_, h'⟩
      rw [e]
      have : k + 1 + (j : Int) = k + ((j + 1 : Nat) : Int) := by omega
      rw [this]
end
def NdIs (H : Hp) (x : List Int × Tr) (v : V) : Prop := ∃ a b u, v = .ref a /\ H a = some (.tup [.ref b, u]) /\ H b = some (.tup (x.1.map V.int)) /\ TrIs H x.2 u
theorem NdIs.same {H H' : Hp} (e : SameT H H') {x : List Int × Tr} {v : V} (h : NdIs H x v) : NdIs H' x v := by
  obtain ⟨a, b, u, h1, h2, h3, h4⟩ := h
  exact ⟨a, b, u, h1, e _ _ h2, e _ _ h3, TrIs.same e _ h4⟩
section
variable {most n : Nat} {R : Nat -> Rw} {tr : Nat -> Tr}
end
end TR
namespace L2
open PySem PySem.Spec PyProof.Rows
theorem noteFrame_eq {e : Value} {env env' : Env} (h : env.frame = env'.frame) : noteFrame e env = noteFrame e env' := by
  unfold noteFrame PySem.frameOf
  rw [h]
theorem frames_at {h h' base : Heap} : ∀ {l : List Env}, h.FunFrames base l -> (∀ b ∈ frs l, h'.get? b = h.get? b) -> h'.FunFrames base l
  | [], _, _ => trivial
  | env :: rest, x, k => by
    obtain ⟨x1, ⟨L, o, x2, x3, x4, x5⟩, x6⟩ := x
    exact ⟨x1, ⟨L, o, x2, x3, (k L (by rw [frs_cons x2]; exact List.mem_cons_self)).trans x4, x5⟩, frames_at x6 fun b hb => k b (by rw [frs_cons x2]; exact List.mem_cons_of_mem _ hb)⟩
def FlyA (B : Heap) (l : List Env) (e : Addr) (cls a0 fl : Value) (h : Heap) : Prop := B.StaysIn h /\ B.get? e = none /\ h.FunFrames B l /\ h.TracedAtW B e cls a0 fl
theorem setFlight_held {M : Model} {A : Around} {E : Value -> Shared -> Prop} {s : Shared} {B : Heap} {l : List Env} {e L : Addr} {cls a0 fl : Value} {Q : Unit -> Shared -> Prop} (R : FlyA B l e cls a0 fl s.heap)
    (q : ∀ h', FlyA B l e cls a0 (rawInt L) h' -> s.heap.UpToSlots h' -> Q () { s with heap := h' }) : wpAny M A (setFlight (.ref e) (some L)) Q E s := by
  obtain ⟨r1, r2, r3, oe, vs, T, oT, ts, he, hcl, hd, h1, nT, ne, hT, dT, h3⟩ := R
  have z3 : 3 < ts.size := (Array.getElem?_eq_some_iff.mp h3).1
  have oth : ∀ b, b ≠ T -> (s.heap.update T (Obj.mapFields (·.setIfInBounds 3 (rawInt L)))).get? b = s.heap.get? b := fun b hb => Heap.get?_update_other _ _ (Ne.symm hb)
  have nrec : ∀ b o, s.heap.get? b = some o -> (∀ vs, o.data ≠ .fields vs) -> b ≠ T := fun b o hb hn z => by
    rw [z, hT] at hb
    cases hb
    exact hn ts dT
  unfold setFlight
  refine wpAny_bind (wpAny_field he hd h1 ?_)
  rw [if_pos (by simp)]
  refine wpAny_setField hT dT z3 (q _ ⟨fun b o x => (oth b fun z => by rw [z, nT] at x; cases x).trans (r1 b o x), r2, r3.of_keeps fun b o hb hn => ⟨o, (oth b (nrec b o hb hn)).trans hb, rfl⟩, ?_⟩ fun b o hb hn => ⟨o.slots, (oth b (nrec b o hb hn)).trans hb⟩)
  exact ⟨oe, vs, T, _, _, (oth e (Ne.symm ne)).trans he, hcl, hd, h1, nT, ne, Heap.get?_update_self _ hT (Obj.isFreed_of_fields (Obj.data_mapFields dT _)), Obj.data_mapFields dT _, by simp [z3]⟩
structure XB (X : Cx) (C : Addr) (cls : Value) (a : Addr) (H' : Hp) (B : Heap) (a0 fl : Value) (s' : Shared) : Prop where
  os : s'.os = X.s₀.os
  bare : AllBare s'.gens
  un : Un X.fs [] X.H₀ H' X.s₀.heap s'.heap
  hok : HOk X.prog X.w H' s'.heap
  new : X.s₀.heap.get? a = none
  free : H' a = none
  ffr : ∀ b ∈ frs (X.env :: X.outer), H' b = none
  cfr : C ∉ frs (X.env :: X.outer)
  c0 : X.s₀.heap.get? C = none
  cH : H' C = none
  cB : B.get? C = none
  fly : FlyA B (X.env :: X.outer) a cls a0 fl s'.heap
  big : ∀ b o, s'.heap.get? b = some o -> b ∉ frs (X.env :: X.outer) -> (H' b ≠ none \/ ∃ o', X.s₀.heap.get? b = some o') -> B.get? b = some o
section
variable {X : Cx} {C a : Addr} {cls a0 fl fl' : Value} {H' : Hp} {B h' : Heap} {s' : Shared}
theorem XB.there (x : XB X C cls a H' B a0 fl s') {b : Addr} (hb : H' b ≠ none \/ ∃ o', X.s₀.heap.get? b = some o') : ∃ ob, s'.heap.get? b = some ob := by
  rcases hb with hb | ⟨o', hb⟩
  · cases q : H' b with
    | none => exact absurd q hb
    | some u => exact (x.hok b u q).there
  · exact x.un.there b o' hb (by simp)
theorem XB.turn (x : XB X C cls a H' B a0 fl s') (hf : X.env.frame = some X.env.locals) (ab : X.s₀.heap.objs.size <= X.env.locals) (f2 : FlyA B (X.env :: X.outer) a cls a0 fl' h') (up : s'.heap.UpToSlots h') : XB X C cls a H' B a0 fl' { s' with heap := h' } := by
  have nL : ∀ o, X.s₀.heap.get? X.env.locals ≠ some o := fun o z => absurd (Nat.lt_of_lt_of_le (Heap.lt_size z) ab) (Nat.lt_irrefl _)
  have slots : ∀ b o, s'.heap.get? b = some o -> b ∈ frs (X.env :: X.outer) -> ∃ sl, h'.get? b = some { o with slots := sl } := fun b o e hb => by
    obtain ⟨_, o', e', nf⟩ := x.fly.2.2.1.mem hb
    rw [e] at e'
    cases e'
    exact up b o e nf
  have hfs : ∀ b ∈ frs (X.env :: X.outer), b ∈ X.fs \/ ∀ o, X.s₀.heap.get? b ≠ some o := fun b hb => by
    rw [frs_cons hf] at hb
    rcases List.mem_cons.mp hb with rfl | hb
    · exact .inr nL
    · exact .inl hb
  have hsub : ∀ b ∈ X.fs, b ∈ frs (X.env :: X.outer) := fun b hb => by
    rw [frs_cons hf]
    exact List.mem_cons_of_mem _ hb
  refine ⟨x.os, x.bare, x.un.fly hfs f2.1 x.big slots hsub, x.hok.fly x.ffr f2.1 (fun b o e n hb => x.big b o e n (.inl hb)), x.new, x.free, x.ffr, x.cfr, x.c0, x.cH, x.cB, f2, fun b o e n hb => ?_⟩
  obtain ⟨ob, e1⟩ := x.there hb
  have e2 := x.big b ob e1 n hb
  have e3 := f2.1 b ob e2
  rw [e] at e3
  cases e3
  exact e2
theorem XB.cut (x : XB X C cls a H' B a0 fl s') {m : Str -> Option Value} (hn : s'.heap.Ns C m) (sb : Heap.SameBut C s'.heap h') : XB X C cls a H' B a0 fl { s' with heap := h' } := by
  obtain ⟨oC, es, ep, hoC, dC, _⟩ := hn
  have k : ∀ b, b ≠ C -> h'.get? b = s'.heap.get? b := fun b hb => sb.2 b hb
  have c0 : ∀ b o, X.s₀.heap.get? b = some o -> b ≠ C := fun b o e z => by rw [z, x.c0] at e; cases e
  refine ⟨x.os, x.bare, ⟨fun b o q n hb hx => (k b (c0 b o q)).trans (x.un.keep b o q n hb hx), fun b o q n hb hx => ?_, x.un.free, fun b o q hx => ?_, x.un.tups, x.un.frzs, x.un.tbls⟩, fun b ob e => ?_, x.new, x.free, x.ffr, x.cfr, x.c0, x.cH, x.cB, ?_, fun b o e n hb => ?_⟩
  · obtain ⟨sl, e⟩ := x.un.slot b o q n hb hx
    exact ⟨sl, (k b (c0 b o q)).trans e⟩
  · obtain ⟨o', e⟩ := x.un.there b o q hx
    exact ⟨o', (k b (c0 b o q)).trans e⟩
  · refine (x.hok b ob e).stay (fun c w' hc' q' => (k c ?_).trans q') (fun _ q' => q') fun _ _ q' => q'
    rintro rfl
    rcases hc' with rfl | hc'
    · rw [x.cH] at e; cases e
    · rw [x.cH] at hc'; cases hc'
  · obtain ⟨f1, f2, f3, oe, vs, T, oT, ts, he, hcl, hd, h1, nT, ne, hT, dT, h3⟩ := x.fly
    have neC : a ≠ C := fun z => by rw [z, hoC] at he; cases he; rw [dC] at hd; cases hd
    have nTC : T ≠ C := fun z => by rw [z, hoC] at hT; cases hT; rw [dC] at dT; cases dT
    exact ⟨fun b o e => (k b fun z => by rw [z, x.cB] at e; cases e).trans (f1 b o e), f2, frames_at f3 fun b hb => k b fun z => x.cfr (z ▸ hb), oe, vs, T, oT, ts, (k a neC).trans he, hcl, hd, h1, nT, ne, (k T nTC).trans hT, dT, h3⟩
  · have nb : b ≠ C := fun z => by
      rcases hb with hb | ⟨o', hb⟩
      · exact hb (z ▸ x.cH)
      · exact c0 b o' hb z
    exact x.big b o ((k b nb).symm.trans e) n hb
end
section
variable {P : Program} {w : World} {K : PySem.W.Frag} {mg : Str -> Option Value} {base : Heap} {N : List Str} {qual : Str} {scope : Scope} {f : Addr} {cd : Value} {A : Around} {outer : List Env} {s₀ : Shared} {H₀ : Hp} {E : XK}
abbrev cxE (P : Program) (w : World) (K : PySem.W.Frag) (mg : Str -> Option Value) (base : Heap) (N : List Str) (qual : Str) (scope : Scope) (f : Addr) (cd : Value) (A : Around) (outer : List Env) (s₀ : Shared) (H₀ : Hp) (E : XK) : Cx := cxOf (CXe P w) P w K mg base N qual scope f cd A outer s₀ H₀ E
def Cx.compE (X : Cx) (E : XK) (sc : Scope) (cl : List (Str × Addr)) (C : Addr) (N : List Str) (s : Shared) (H : Hp) (fp : List Addr) : Cx :=
  { X.comp sc cl C N s H fp with xe := fun e s' => ∃ a cls H' B a0 m, e = .ref a /\ XB X C cls a H' B a0 .none s' /\ s'.heap.Ns C m /\ E cls none H' }
structure Blk (X : Cx) (C : Addr) (s : Shared) (H : Hp) (fp : List Addr) : Prop where
  inv : ∃ pins σ, Inv X pins σ H s /\ ∀ b ∈ fp, FpOk X pins H b
  c : s.heap.objs.size <= C
  st : X.stack = X.env :: X.outer
  fr : X.env.frame = some X.env.locals
  ex : X.ex = []
theorem pass_blk {X : Cx} {sc : Scope} {cl : List (Str × Addr)} {C : Addr} {N' : List Str} {s : Shared} {H : Hp} {fp : List Addr} (b : Blk X C s H fp) : Passes (CXe X.prog X.w) (X.compE E sc cl C N' s H fp) E := fun pins σ H1 s1 e s' I h => by
  obtain ⟨a, cls, H', rfl, x, q⟩ := h
  obtain ⟨⟨pins0, σ0, I2, f2⟩, hC, hs, hf, hex⟩ := b
  have bs : Un (frs X.stack) fp H H1 s.heap s1.heap := I.base
  have I5 : Inv X pins0 σ0 H1 s1 := I2.call' (s' := s1) (ch := fp) I.os bs I.hok I.bare (fun b hb => ⟨(f2 b hb).2.2.2.1, (f2 b hb).2.1, (f2 b hb).2.2.2.2.1, (f2 b hb).2.2.2.2.2⟩)
  have x' : XO X.prog X.w X.stack H1 s1 cls a H' s' := x
  rw [hs] at x'
  obtain ⟨B, a0, fly, big⟩ := x'.fly
  have ub : Un X.fs [] X.H₀ H1 X.s₀.heap s1.heap := by have := I5.base; rw [hex] at this; exact this
  have nL : ∀ o, X.s₀.heap.get? X.env.locals ≠ some o := fun o z => absurd (Nat.lt_of_lt_of_le (Heap.lt_size z) I2.ok.above) (Nat.lt_irrefl _)
  have hfree : ∀ b ∈ frs (X.env :: X.outer), H1 b = none := by rw [<- hs]; exact I5.stkFree
  have hFF : s1.heap.FunFrames X.base (X.env :: X.outer) := by rw [<- hs]; exact I5.stack
  have hsub : ∀ b ∈ X.fs, b ∈ frs (X.env :: X.outer) := fun b hb => by
    rw [frs_cons hf]
    exact List.mem_cons_of_mem _ hb
  have ut : Un X.fs [] X.H₀ H' X.s₀.heap s'.heap := by
    have nofr : ∀ b o, X.s₀.heap.get? b = some o -> b ∉ X.fs -> b ∉ frs (X.env :: X.outer) := fun b o q hb z => by
      rw [frs_cons hf] at z
      rcases List.mem_cons.mp z with rfl | z
      · exact nL o q
      · exact hb z
    refine ⟨fun b o q n hb hx => x'.un.keep b o (ub.keep b o q n hb hx) (ub.free b o q n hx) (nofr b o q hb) (by simp), fun b o q n hb hx => ?_, fun b o q n hx => ?_, fun b o q hx => ?_, fun b xs q => x'.un.tups b xs (ub.tups b xs q), fun b o u q => x'.un.frzs b o u (ub.frzs b o u q), fun b ps q => ?_⟩
    · obtain ⟨sl, e⟩ := ub.slot b o q n hb hx
      obtain ⟨sl', e'⟩ := x'.un.slot b _ e (ub.free b o q n hx) (hsub b hb) (by simp)
      exact ⟨sl', e'⟩
    · obtain ⟨o', e⟩ := ub.there b o q hx
      exact x'.un.free b o' e (ub.free b o q n hx) (by simp)
    · obtain ⟨o', e⟩ := ub.there b o q hx
      exact x'.un.there b o' e (by simp)
    · obtain ⟨m1, e1⟩ := ub.tbls b ps q
      obtain ⟨m2, e2⟩ := x'.un.tbls b _ e1
      exact ⟨m1 ++ m2, by rw [e2, Array.append_assoc]⟩
  have hfree' : ∀ b ∈ frs (X.env :: X.outer), H' b = none := fun b hb => by
    obtain ⟨_, o, e, _⟩ := hFF.mem hb
    exact x'.un.free b o e (hfree b hb) (by simp)
  obtain ⟨m, hn, _⟩ := id I.loc
  have hn : s1.heap.Ns C m := hn
  obtain ⟨oC, es, ep, hoC, dC, rC⟩ := id hn
  have cfr : C ∉ frs (X.env :: X.outer) := fun z => by
    rw [<- hs] at z
    obtain ⟨_, o, e, _⟩ := (show s.heap.FunFrames X.base X.stack from I2.stack).mem z
    exact absurd (Nat.lt_of_lt_of_le (Heap.lt_size e) hC) (Nat.lt_irrefl _)
  have c0 : X.s₀.heap.get? C = none := by
    cases q : X.s₀.heap.get? C with
    | none => rfl
    | some o => exact absurd (Nat.lt_of_lt_of_le (Heap.lt_size q) (Nat.le_trans I2.sz hC)) (Nat.lt_irrefl _)
  have hCH : H1 C = none := I.free
  have cH : H' C = none := x'.un.free C oC hoC hCH (by simp)
  have hoC' : s'.heap.get? C = some oC := x'.un.keep C oC hoC hCH cfr (by simp)
  have stays : (PySem.W.hideAll B [C]).StaysIn B := fun b o e => PySem.W.of_hideAll _ e
  have hid : (PySem.W.hideAll B [C]).get? C = none := by
    cases q : (PySem.W.hideAll B [C]).get? C with
    | none => rfl
    | some o => exact absurd q (by show (B.hide C).get? C ≠ some o; rw [Heap.hide_self]; exact fun z => nomatch z)
  refine ⟨a, cls, H', PySem.W.hideAll B [C], a0, m, rfl, ⟨x'.os.trans I5.os, x'.bare, ut, x'.hok, ?_, x'.free, hfree', cfr, c0, cH, hid, PySem.W.flyingW_base stays fly, fun b o e n hb => ?_⟩, ⟨oC, es, ep, hoC', dC, rC⟩, q⟩
  · cases q : X.s₀.heap.get? a with
    | none => rfl
    | some o =>
      obtain ⟨o', e⟩ := ub.there a o q (by simp)
      have := x'.new
      rw [e] at this
      cases this
  · have nb : b ∉ [C] := fun z => by
      rw [List.mem_singleton.mp z] at hb
      rcases hb with hb | ⟨o', hb⟩
      · exact hb cH
      · rw [c0] at hb; cases hb
    refine PySem.W.hideAll_get _ (big b o ?_ n e) nb
    rcases hb with hb | ⟨o', hb⟩
    · exact .inl hb
    · exact .inr (ub.there b o' hb (by simp))
theorem noteFrame_any {M : Model} {A : Around} {E : Value -> Shared -> Prop} {s : Shared} {B : Heap} {env : Env} {outer : List Env} {e L : Addr} {cls a0 fl : Value} {Q : Unit -> Shared -> Prop} (hfr : A.frames = some (env :: outer)) (hf : env.frame = some L) (R : FlyA B (env :: outer) e cls a0 fl s.heap) (hne : fl ≠ rawInt L)
    (q : ∀ h', FlyA B (env :: outer) e cls a0 (rawInt L) h' -> s.heap.UpToSlots h' -> Q () { s with heap := h' }) : wpAny M A (noteFrame (.ref e) env) Q E s := by
  obtain ⟨r1, r2, r3, oe, vs, T, oT, ts, he, ⟨hcl, h0⟩, hd, h1, nT, ne, hT, dT, h3⟩ := R
  subst hcl
  have oth : ∀ b, b ≠ T -> (s.heap.update T (Obj.mapFields (·.setIfInBounds 3 Value.none))).get? b = s.heap.get? b := fun b hb => Heap.get?_update_other _ _ (Ne.symm hb)
  have nrec : ∀ b o, s.heap.get? b = some o -> (∀ vs, o.data ≠ .fields vs) -> b ≠ T := fun b o hb hn z => by
    rw [z, hT] at hb
    cases hb
    exact hn ts dT
  unfold noteFrame
  simp only [hf]
  refine wpAny_bind (wpAny_field he hd h1 ?_)
  rw [if_pos (by simp)]
  refine wpAny_bind (wpAny_field hT dT h3 ?_)
  rw [if_neg (by simpa using hne)]
  refine wpAny_bind (wpAny_setField hT dT (Array.getElem?_eq_some_iff.mp h3).1 ?_)
  refine wpAny_entryW hfr (r3.of_keeps fun b o hb hn => ⟨o, (oth b (nrec b o hb hn)).trans hb, rfl⟩) hf ((oth e (Ne.symm ne)).trans he) (fun b o x => (oth b fun z => by rw [z, nT] at x; cases x).trans (r1 b o x)) r2 hd (Array.getElem?_eq_some_iff.mp h1).1 h0 fun h' y => ?_
  obtain ⟨x1, x2, x3, x4⟩ := y
  exact q h' ⟨x1, r2, x2, x3⟩ fun b o hb hn => x4 b o ((oth b (nrec b o hb hn)).trans hb) hn
theorem leave_any {cls : Value} {C a : Addr} {H' : Hp} {B : Heap} {a0 fl : Value} {s' : Shared} (ab : s₀.heap.objs.size <= (cxE P w K mg base N qual scope f cd A outer s₀ H₀ E).env.locals) (hfr : (cxE P w K mg base N qual scope f cd A outer s₀ H₀ E).A.frames = some ((cxE P w K mg base N qual scope f cd A outer s₀ H₀ E).env :: outer))
    (x : XB (cxE P w K mg base N qual scope f cd A outer s₀ H₀ E) C cls a H' B a0 fl s') (q : E cls none H') : (cxE P w K mg base N qual scope f cd A outer s₀ H₀ E).xe (.ref a) s' := by
  have nL : ∀ o, s₀.heap.get? (cxE P w K mg base N qual scope f cd A outer s₀ H₀ E).env.locals ≠ some o := fun o z => absurd (Nat.lt_of_lt_of_le (Heap.lt_size z) ab) (Nat.lt_irrefl _)
  have fin : ∀ h', FlyA B ((cxE P w K mg base N qual scope f cd A outer s₀ H₀ E).env :: outer) a cls a0 (rawInt (cxE P w K mg base N qual scope f cd A outer s₀ H₀ E).env.locals) h' -> s'.heap.UpToSlots h' ->
      wpAny (model P w) (cxE P w K mg base N qual scope f cd A outer s₀ H₀ E).A (setFlight (.ref a) none) (fun _ s'' => CXe P w outer H₀ s₀ E (.ref a) s'') (fun e' s'' => CXe P w outer H₀ s₀ E e' s'') { s' with heap := h' } := fun h1 f1 u1 => by
    refine wpAny_landsW (s := { s' with heap := h1 }) f1 fun h2 f2 u2 => ?_
    have y := (x.turn rfl ab f1 u1).turn rfl ab (fl' := .none) f2 u2
    obtain ⟨k1, k2, ⟨_, _, k3⟩, k4⟩ := f2
    refine ⟨a, cls, H', rfl, ⟨y.os, y.bare, y.un, y.hok, y.new, y.free, B, a0, ⟨k1, k2, k3, k4⟩, fun b o hb hn e => y.big b o e (fun z => ?_) hb⟩, q⟩
    rw [frs_cons (L := (cxE P w K mg base N qual scope f cd A outer s₀ H₀ E).env.locals) rfl] at z
    rcases List.mem_cons.mp z with rfl | z
    · rcases hb with hb | ⟨o', hb⟩
      · exact hb (y.ffr _ (by rw [frs_cons (L := (cxE P w K mg base N qual scope f cd A outer s₀ H₀ E).env.locals) rfl]; exact List.mem_cons_self))
      · exact nL o' hb
    · exact hn z
  show wpAny (model P w) (cxE P w K mg base N qual scope f cd A outer s₀ H₀ E).A (leaving (cxE P w K mg base N qual scope f cd A outer s₀ H₀ E).env (.ref a)) _ _ s'
  unfold leaving
  by_cases e : fl = rawInt (cxE P w K mg base N qual scope f cd A outer s₀ H₀ E).env.locals
  · subst e
    exact wpAny_bind (wpAny_noteFrame_againW rfl x.fly.2.2.2 (fin _ x.fly (Heap.UpToSlots.refl _)))
  · exact wpAny_bind (noteFrame_any hfr rfl x.fly e fin)
theorem blk_out {cls : Value} {C a : Addr} {H' : Hp} {B : Heap} {a0 : Value} {m : Str -> Option Value} {s' : Shared} {Q : Value -> Shared -> Prop} {acc : Value} {env' : Env} (ab : s₀.heap.objs.size <= (cxE P w K mg base N qual scope f cd A outer s₀ H₀ E).env.locals) (hfr : (cxE P w K mg base N qual scope f cd A outer s₀ H₀ E).A.frames = some ((cxE P w K mg base N qual scope f cd A outer s₀ H₀ E).env :: outer))
    (he' : env'.frame = (cxE P w K mg base N qual scope f cd A outer s₀ H₀ E).env.frame)
    (x : XB (cxE P w K mg base N qual scope f cd A outer s₀ H₀ E) C cls a H' B a0 .none s') (hn : s'.heap.Ns C m) (q : E cls none H') {R : Result -> Shared -> Prop}
    (hR : ∀ s'', compPost (model P w) (cxE P w K mg base N qual scope f cd A outer s₀ H₀ E).A (cxE P w K mg base N qual scope f cd A outer s₀ H₀ E).xe none Q acc C (.error (.ref a)) s'' -> R (.error (.ref a)) s'') :
    notedBy (model P w) (cxE P w K mg base N qual scope f cd A outer s₀ H₀ E).A env' (fun e s'' => R (.error e) s'') (.ref a) s' := by
  show wpAny _ _ (noteFrame (.ref a) env') (fun _ s'' => R (.error (.ref a)) s'') _ s'
  rw [noteFrame_eq he']
  refine wpAny_looks_onW hfr rfl x.fly fun h1 f1 u1 => hR _ ?_
  have x1 := x.turn rfl ab f1 u1
  refine ⟨m, u1.ns hn, fun h2 sb cenv _ => ?_⟩
  have x2 := x1.cut (u1.ns hn) sb
  obtain ⟨_, _, _, oe, vs, T, oT, ts, he, _, hd, h1', _⟩ := id x2.fly
  unfold PySem.passOn
  refine wpAny_bind (wpAny_field he hd h1' ?_)
  rw [if_neg (by simp)]
  have fin : ∀ fl', ∀ h3, FlyA B ((cxE P w K mg base N qual scope f cd A outer s₀ H₀ E).env :: outer) a cls a0 fl' h3 -> Heap.UpToSlots h2 h3 -> (cxE P w K mg base N qual scope f cd A outer s₀ H₀ E).xe (.ref a) { s' with heap := h3 } := fun fl' h3 f3 u3 => leave_any ab hfr (x2.turn rfl ab f3 u3) q
  have go : wpAny (model P w) (cxE P w K mg base N qual scope f cd A outer s₀ H₀ E).A (setFlight (.ref a) cenv.frame >>= fun _ => (throw (.ref a) : Sem Value)) (fun _ _ => False) (cxE P w K mg base N qual scope f cd A outer s₀ H₀ E).xe { s' with heap := h2 } := by
    cases cenv.frame with
    | none => exact wpAny_bind (wpAny_setFlight_noneW (s := { s' with heap := h2 }) x2.fly.1 x2.fly.2.2.1 x2.fly.2.2.2 fun h3 k1 k2 k3 k4 => wpAny_throw (fin .none h3 ⟨k1, x2.fly.2.1, k2, k3⟩ fun b o hb hn => ⟨o.slots, k4 b o hb hn⟩))
    | some L' => exact wpAny_bind (setFlight_held (s := { s' with heap := h2 }) (L := L') x2.fly fun h3 f3 u3 => wpAny_throw (fin _ h3 f3 u3))
  first
    | exact go
    | exact wpAny_bind (wpAny_pure go)
end
def OutB (X : Cx) (E : XK) : Prop := X.Ok -> ∀ (C a : Addr) (cls : Value) (H' : Hp) (B : Heap) (a0 : Value) (m : Str -> Option Value) (s' : Shared) (Q : Value -> Shared -> Prop) (acc : Value) (env' : Env) (R : Result -> Shared -> Prop), env'.frame = X.env.frame -> XB X C cls a H' B a0 .none s' -> s'.heap.Ns C m -> E cls none H' ->
  (∀ s'', compPost (model X.prog X.w) X.A X.xe none Q acc C (.error (.ref a)) s'' -> R (.error (.ref a)) s'') -> notedBy (model X.prog X.w) X.A env' (fun e s'' => R (.error e) s'') (.ref a) s'
theorem outB {P : Program} {w : World} {K : PySem.W.Frag} {mg : Str -> Option Value} {base : Heap} {N : List Str} {qual : Str} {scope : Scope} {f : Addr} {cd : Value} {A : Around} {outer : List Env} {s₀ : Shared} {H₀ : Hp} {E : XK} : OutB (cxE P w K mg base N qual scope f cd A outer s₀ H₀ E) E :=
  fun ok C a cls H' B a0 m s' Q acc env' R he x hn q hR => blk_out ok.above ok.frames he x hn q hR
theorem comp_turnsE {prog : Program} {w : World} {A : Around} {R : Result -> Shared -> Prop} {s : Shared} {elt target iter : Expr} {ifs : List Expr} {scope : Scope} {pos : Pos} {it acc : Value} {env : Env} (EI : Value -> Shared -> Prop) (err : ∀ e s', EI e s' -> notedBy (model prog w) A env (fun x s'' => R (.error x) s'') e s') (J : Nat -> Shared -> Prop)
    (turn : ∀ n s0, J n s0 -> wpAny (model prog w) A (pyNext it) (fun r s1 => match r with
      | none => R (.ok .next) s1
      | some v => wpAny (model prog w) A (letOwnedTupleGo target it v) (fun _ s2 => wpAny (model prog w) A (assign target env v) (fun _ s3 =>
          wpAny (model prog w) A (forIn ifs true fun c r => if r = true then do let ok <- isTrue c env (eval c env); pure (ForInStep.yield ok) else pure (ForInStep.yield r)) (fun ok s4 =>
            if ok = true then wpAny (model prog w) A (eval elt env) (fun x s5 =>
              wpAny (model prog w) A (call (.builtin "list.append") [acc, x]) (fun _ s6 => ∃ m, m < n /\ J m s6) EI s5) EI s4
            else ∃ m, m < n /\ J m s4) EI s3) EI s2) EI s1) EI s0)
    (n : Nat) (h : J n s) : codeAny (model prog w) A (.compLoop (.ListComp elt [⟨target, iter, ifs, 0⟩] scope pos) 0 it acc env) R s := by
  have up : ∀ {α : Type} {t : Sem α} {Q Q' : α -> Shared -> Prop} {s0 : Shared}, wpAny (model prog w) A t Q EI s0 -> (∀ a s', Q a s' -> Q' a s') -> wpAny (model prog w) A t Q' (notedBy (model prog w) A env (fun x s'' => R (.error x) s'')) s0 :=
    fun h0 hq => wpAny_mono h0 hq err
  refine codeAny_loop rfl J ?_ n h
  intro k s0 hJ
  show wpAny _ A ((compTurn (.ListComp elt [⟨target, iter, ifs, 0⟩] scope pos) 0 it acc env).onRaise (fun x => do noteFrame x env; theTreesLotGoes x)) _ _ s0
  refine wpAny_noted ?_
  rw [compTurn_list]
  refine wpAny_bind (wpAny_standAt (wpAny_bind (up (turn k s0 hJ) fun r s1 h1 => ?_)))
  cases r with
  | none => exact wpAny_pure h1
  | some v =>
    refine wpAny_bind (up h1 fun _ s2 h2 => wpAny_bind (up h2 fun _ s3 h3 => wpAny_bind (up h3 fun ok s4 h4 => ?_)))
    cases ok with
    | false => exact wpAny_pure ⟨rfl, h4⟩
    | true => exact wpAny_bind (wpAny_bind (up h4 fun x s5 h5 => wpAny_bind (up h5 fun _ s6 h6 => wpAny_pure (wpAny_pure ⟨rfl, h6⟩))))
theorem pe_compE {X : Cx} {E : XK} {elt iter : Expr} {ifs : List Expr} {sc : Scope} {pos px : Pos} {t : Str} {ys : List Str} {js : List Nat} {wi : TI} {tc : TT} {te : TE} (ob : OutB X E) (hst : X.stack = X.env :: X.outer) (hfr0 : X.env.frame = some X.env.locals) (hex0 : X.ex = []) (hc : X.calm = true) (hck : compChk X.N X.env.scope sc t ys js = true)
    (hi : PI X (.Name t px) iter wi) (hf : ∀ cl C s H fp, PIf (X.compE E sc cl C (t :: ys) s H fp) ifs tc) (he : ∀ cl C s H fp, Blk X C s H fp -> PE (X.compE E sc cl C (t :: ys) s H fp) elt te)
    (hs : ∀ x, foldedSetIterable iter X.env x = pure x := by intro _; rfl) : PE X (.ListComp elt [⟨.Name t px, iter, ifs, 0⟩] sc pos) (tComp wi js tc te) := by
  have ck := compOk_of hck
  intro pins s σ H Q I h
  have hfr : ∀ x, (x, NameKind.free) ∈ sc.names -> ∃ c, X.env.cells.lookup x = some c := fun x hx => I.ok.has x (.inl (ck.fre _ hx rfl))
  obtain ⟨cl, hcl, cl1, cl2⟩ := clos_ok hfr
  rw [eval_ListComp]
  refine wpAny_comprehension_free (use := none) rfl hs hcl ck.kind ck.loc (thn (hi pins s σ H _ I h) fun v s1 h1 => thn h1 fun itv s2 h2 => ?_)
  obtain ⟨it, fp, tn, J, H2, e, I2, T, st2, f2, hR⟩ := h2
  subst e
  refine wpAny_newObj_type (wpAny_newFunctionEnv ck.ncell (by intro y hy; simp at hy) (fun h1 hns hsb => ?_) ck.kind)
  dsimp only at hns hsb ⊢
  generalize hp : s2.heap.push { cls := .type "list", dict := none, data := .seq ([] : List Value).toArray } = hh at hns hsb ⊢
  have hC : hh.objs.size = s2.heap.objs.size + 1 := by rw [<- hp, Heap.size_push]
  have neD : ∀ {b : Addr}, b < s2.heap.objs.size -> b ≠ s2.heap.objs.size := fun hb => Nat.ne_of_lt hb
  have neC : ∀ {b : Addr}, b < s2.heap.objs.size -> b ≠ hh.objs.size := fun hb => by rw [hC]; exact Nat.ne_of_lt (Nat.lt_succ_of_lt hb)
  have hDC : s2.heap.objs.size ≠ hh.objs.size := by rw [hC]; exact Nat.ne_of_lt (Nat.lt_succ_self _)
  have hCle : s2.heap.objs.size <= hh.objs.size := by rw [hC]; exact Nat.le_succ _
  have old : ∀ b o, s2.heap.get? b = some o -> h1.get? b = some o := fun b o e => hsb.extBut b o (neC (Heap.lt_size e)) (Heap.get?_push_of_some _ (hp ▸ Heap.get?_push_of_some _ e))
  have hnew : h1.get? s2.heap.objs.size = some { cls := .type "list", dict := none, data := .seq ([] : List Value).toArray } := hsb.extBut _ _ hDC (Heap.get?_push_of_some _ (hp ▸ Heap.get?_push_size _ rfl))
  have fpH : ∀ b ∈ fp, ∃ o, s2.heap.get? b = some o := fun b hb => let ⟨o, e, _⟩ := T.obj 0 _ st2 b hb; ⟨o, e⟩
  have fpD : ∀ b ∈ fp, b ≠ s2.heap.objs.size := fun b hb => by obtain ⟨o, e⟩ := fpH b hb; exact neD (Heap.lt_size e)
  have fpC : ∀ b ∈ fp, b ≠ hh.objs.size := fun b hb => by obtain ⟨o, e⟩ := fpH b hb; exact neC (Heap.lt_size e)
  have fpS : ∀ b ∈ fp, b ∉ frs X.stack := fun b hb z => (List.mem_cons.mp (I2.stkSub b z)).elim (f2 b hb).2.1 (f2 b hb).2.2.1
  have hok' : (X.compE E sc cl hh.objs.size (t :: ys) s2 H2 fp).Ok := by
    refine ⟨I2.ok.mod, ck.kind, I2.ok.glob, I2.ok.blt, hCle, fun x y c a b => I2.ok.inj x y c (cl1 x c a) (cl1 y c b), fun x hx => ?_, (fun x c z => nomatch z), I2.ok.hd, I2.ok.frames, .inl rfl, fun b hb => ⟨fpC b hb, fun x c a => (f2 b hb).2.2.2.2.1 x c (cl1 x c a)⟩,
      I2.bs, Nat.le_trans I2.ok.bsz I2.sz, fun b o e hb => ?_, fun b hb => fpS b hb, I2.stack, I2.stkFree⟩
    · have hx' : (sc.names.map fun (n, k) => if (k == NameKind.free && X.env.scope.kind == .function && X.env.kindOf n == some .cell) then (n, NameKind.cell) else (n, k)).lookup x = some .cell \/ (sc.names.map fun (n, k) => if (k == NameKind.free && X.env.scope.kind == .function && X.env.kindOf n == some .cell) then (n, NameKind.cell) else (n, k)).lookup x = some .free := hx
      rcases hx' with z | z
      · rcases relabel_inv z with q | ⟨_, q⟩
        · exact absurd rfl (ck.ncell _ (PySem.mem_of_lookup q))
        · exact cl2 x (PySem.mem_of_lookup q)
      · rcases relabel_inv z with q | ⟨q, _⟩
        · exact cl2 x (PySem.mem_of_lookup q)
        · cases q
    · rcases (f2 b hb).2.2.2.1 with z | z
      · exact I2.ok.noex b o e z
      · exact absurd (Nat.lt_of_lt_of_le (Heap.lt_size e) (Nat.le_trans I2.ok.bsz z)) (Nat.lt_irrefl _)
  have Iin : ∀ tk : Nat, Inv (X.compE E sc cl hh.objs.size (t :: ys) s2 H2 fp) [] (none :: compS js σ) (upd H2 s2.heap.objs.size (.lst [])) { s2 with heap := h1, toks := tk } := fun tk => by
    refine ⟨hok', rfl, I2.bare, Un.laid old (Nat.le_refl _) I2.fresh, ⟨_, hns, fun i x v e1 e2 e3 => ?_⟩, fun x c e => ?_, ?_, fun x c e => ?_, fun p hp => absurd (show p ∈ ([] : List (Addr × Obj)) from hp) (by simp), I2.hok.laid old (Nat.le_refl _) ⟨Nat.zero_le _, [], 0, .nil, hnew⟩, ?_⟩
    · cases i with
      | zero => simp at e2
      | succ k =>
        have e1' : ys[k]? = some x := e1
        have e2' : (compS js σ)[k]? = some (some v) := by simpa using e2
        unfold compS at e2'
        rw [List.getElem?_map] at e2'
        have q := congrArg (fun l => l[k]?) ck.ysj
        simp only [List.getElem?_map, e1', Option.map_some] at q
        cases hj : js[k]? with
        | none => rw [hj] at q; cases q
        | some j =>
          rw [hj] at q e2'
          have q1 : X.N[j]? = some x := (Option.some.inj q).symm
          have q2 : σ[j]? = some (some v) := by
            have z : (σ[j]?).join = some v := Option.some.inj e2'
            cases hz : σ[j]? with
            | none => rw [hz] at z; cases z
            | some y => rw [hz] at z; exact congrArg some z
          have hf' := ck.ysf x (List.mem_of_getElem? e1')
          have hcell := ck.fre _ (PySem.mem_of_lookup hf') rfl
          obtain ⟨m2, hn2, hl2⟩ := I2.loc
          obtain ⟨u, ru, lk⟩ := hl2 j x v q1 q2 (.inr (.inl hcell))
          refine ⟨u, ru, ?_⟩
          rcases lk with ⟨kk, _⟩ | ⟨_, c, ec, ic⟩
          · have kk' : X.env.scope.names.lookup x = some .local := kk
            have hcell' : X.env.scope.names.lookup x = some .cell := hcell
            rw [hcell'] at kk'; cases kk'
          · obtain ⟨c', ec'⟩ := cl2 x (PySem.mem_of_lookup hf')
            have : c' = c := Option.some.inj ((cl1 x c' ec').symm.trans ec)
            subst this
            refine .inr ⟨relabel_free hf', c', ec', ?_⟩
            obtain ⟨o, ho, hd⟩ := ic
            exact ⟨o, old _ o ho, hd⟩
    · obtain ⟨v, o, ho, hd⟩ := I2.cell x c (cl1 x c e)
      exact ⟨v, o, old _ o ho, hd⟩
    · show upd H2 s2.heap.objs.size _ hh.objs.size = none
      rw [upd_ne (Ne.symm hDC)]
      exact I2.hok.fresh hCle
    · obtain ⟨v, o, ho, hd⟩ := I2.cell x c (cl1 x c e)
      rw [upd_ne (neD (Heap.lt_size ho))]
      exact I2.freeC x c (cl1 x c e)
    · show (none :: compS js σ).length = (t :: ys).length
      have q := congrArg List.length ck.ysj
      simp only [List.length_map] at q
      unfold compS
      simp only [List.length_cons, List.length_map]
      omega
  have st1 : tn 0 h1 := T.keep _ _ _ st2 fun b hb o e => old b o e
  obtain ⟨W, ⟨m0, w0⟩, turn⟩ := hR s2.heap.objs.size I2.fresh
  have fpok : ∀ {H' : Hp}, (∀ b ∈ fp, H' b = none) -> ∀ b ∈ fp, FpOk (X.compE E sc cl hh.objs.size (t :: ys) s2 H2 fp) [] H' b := fun hn b hb =>
    ⟨hn b hb, fpC b hb, fpS b hb, .inl hb, fun x c a => (f2 b hb).2.2.2.2.1 x c (cl1 x c a), fun p hp => absurd (show p ∈ ([] : List (Addr × Obj)) from hp) (by simp)⟩
  have ndN : (t :: ys).Nodup := ck.nd
  have loop : ∀ s3 : Shared, s3 = { s2 with heap := h1, toks := s2.toks + ([] : List (Str × Value)).length } ->
      codeAny (model X.prog X.w) X.A (.compLoop (.ListComp elt [⟨.Name t px, iter, ifs, 0⟩] sc pos) 0 (.ref it) (.ref s2.heap.objs.size) (compEnvC sc cl hh.objs.size X.env))
        (compPost (model X.prog X.w) X.A X.xe none (EP X pins σ Q) (.ref s2.heap.objs.size) hh.objs.size) s3 := by
    rintro s3 rfl
    have blk : Blk X hh.objs.size s2 H2 fp := ⟨⟨pins, σ, I2, f2⟩, hCle, hst, hfr0, hex0⟩
    refine comp_turnsE (X.compE E sc cl hh.objs.size (t :: ys) s2 H2 fp).xe (fun e s' ⟨a, cls, H', B, a0, m, e1, x1, n1, q1⟩ => by subst e1; exact ob I2.ok _ _ _ _ _ _ _ _ (EP X pins σ Q) (.ref s2.heap.objs.size) (compEnvC sc cl hh.objs.size X.env) _ rfl x1 n1 q1 fun _ z => z) (fun n s' => ∃ i acc H', Inv (X.compE E sc cl hh.objs.size (t :: ys) s2 H2 fp) [] (none :: compS js σ) H' s' /\ tn i s'.heap /\ (∀ b ∈ fp, H' b = none) /\ W i n acc H') ?_ m0
      ⟨0, [], _, Iin _, st1, fun b hb => by rw [upd_ne (fpD b hb)]; exact (f2 b hb).1, w0⟩
    rintro n s3 ⟨i, acc, H3, I3, st3, fr3, w3⟩
    obtain ⟨hD, hz, alt⟩ := turn i n acc H3 w3
    rcases alt with ⟨stop, q⟩ | ⟨go, step⟩
    · refine thn (T.done (X.compE E sc cl hh.objs.size (t :: ys) s2 H2 fp) rfl rfl rfl hc i [] s3 _ H3 _ I3 (fpok fr3) st3 stop) fun r s4 ⟨hr, I4⟩ => ?_
      subst hr
      obtain ⟨m, hn, _⟩ := id I4.loc
      refine ⟨m, hn, fun h' sb => ⟨.ref s2.heap.objs.size, H3, ?_, rfl, q⟩⟩
      have ltC : ∀ b o, s2.heap.get? b = some o -> b ≠ hh.objs.size := fun b o e => neC (Heap.lt_size e)
      have b4 : Un (frs X.stack) fp H2 H3 s2.heap s4.heap := I4.base
      refine I2.call' (s' := { s4 with heap := h' }) (ch := fp) I4.os ⟨fun b o e n1 n2 n3 => (sb.2 b (ltC b o e)).trans (b4.keep b o e n1 n2 n3), fun b o e n1 n2 n3 => ?_, b4.free, fun b o e n1 => ?_, b4.tups, b4.frzs, b4.tbls⟩ (fun b ob e => ?_) I4.bare
        (fun b hb => ⟨(f2 b hb).2.2.2.1, (f2 b hb).2.1, (f2 b hb).2.2.2.2.1, (f2 b hb).2.2.2.2.2⟩)
      · obtain ⟨sl, e1⟩ := b4.slot b o e n1 n2 n3
        exact ⟨sl, (sb.2 b (ltC b o e)).trans e1⟩
      · obtain ⟨o', e1⟩ := b4.there b o e n1
        exact ⟨o', (sb.2 b (ltC b o e)).trans e1⟩
      · have hfree : H3 hh.objs.size = none := I4.free
        refine (I4.hok b ob e).stay (fun c w' hc' q' => (sb.2 c ?_).trans q') (fun _ q' => q') fun _ _ q' => q'
        rintro rfl
        rcases hc' with rfl | hc'
        · rw [hfree] at e; cases e
        · rw [hfree] at hc'; cases hc'
    · refine thn (T.item (X.compE E sc cl hh.objs.size (t :: ys) s2 H2 fp) rfl rfl rfl hc i [] s3 _ H3 _ I3 (fpok fr3) st3 go) fun r s4 ⟨u, hr, h4⟩ => ?_
      subst hr
      refine thn h4 fun _ s5 ⟨x, H5, I5, r5, y5, st5, fr5⟩ => ?_
      have I5' := I5.pinned (fpok fr5) (T.obj _ _ st5)
      refine wpAny_assign_Name (store_ok (i := 0) I5' ndN rfl (.inl (lookup_relabel_local ck.tl)) r5 (fun s6 I6 => ?_) (.inr (lookup_relabel_local ck.tl)))
      have again : ∀ {H7 : Hp} {s7 : Shared} {m' : Nat} {acc' : List V}, Inv (X.compE E sc cl hh.objs.size (t :: ys) s2 H2 fp) ([] ++ pinsAt fp s5.heap) (some x :: compS js σ) H7 s7 -> m' < n -> W (i + 1) m' acc' H7 ->
          ∃ m, m < n /\ ∃ i acc H', Inv (X.compE E sc cl hh.objs.size (t :: ys) s2 H2 fp) [] (none :: compS js σ) H' s7 /\ tn i s7.heap /\ (∀ b ∈ fp, H' b = none) /\ W i m acc H' := fun {H7 s7 m' acc'} I7 hm w7 => by
        refine ⟨m', hm, i + 1, acc', H7, (I7.unpinned).weak rfl (fun k v e => ?_), T.keep _ _ _ st5 fun b hb o e => (I7.pin (b, o) (List.mem_append_right _ (List.mem_append_right _ (mem_pinsAt hb e)))).1, fun b hb => ?_, w7⟩
        · cases k with
          | zero => simp at e
          | succ k => simpa using e
        · obtain ⟨o, e, d⟩ := T.obj _ _ st5 b hb
          exact (I7.pin (b, o) (List.mem_append_right _ (List.mem_append_right _ (mem_pinsAt hb e)))).2.1
      refine thn (hf _ _ _ _ _ _ s6 _ H5 _ I6 (step x H5 y5)) fun ok s7 ⟨H7, I7, q7⟩ => ?_
      cases ok with
      | false =>
        obtain ⟨m', hm, w7⟩ := q7
        exact again I7 hm w7
      | true =>
        refine thn (he _ _ _ _ _ blk _ s7 _ H7 _ I7 q7) fun uy s8 ⟨y, H8, I8, r8, hD8, m', hm, w8⟩ => ?_
        refine thn (mt_append (X := X.compE E sc cl hh.objs.size (t :: ys) s2 H2 fp) _ s8 _ H8 (.ref s2.heap.objs.size) [y] (.ref s2.heap.objs.size) [uy] (fun _ H9 => W (i + 1) m' (acc ++ [y]) H9) I8 rfl (.cons r8 .nil) ⟨_, acc, y, rfl, rfl, hD8, hz, w8⟩) fun _ s9 ⟨_, H9, I9, _, q9⟩ => ?_
        exact again I9 hm q9
  exact codeAny_compStart_list (loop _ rfl) (T.self _ 0 _ _ _ st1 (loop _ rfl))
theorem qe_compE {X : Cx} {E : XK} {elt iter : Expr} {ifs : List Expr} {sc : Scope} {pos px : Pos} {t : Str} {ys : List Str} {js : List Nat} {wi : TI} {tc : TT} {te : TE} (ob : OutB X E) (hst : X.stack = X.env :: X.outer) (hfr0 : X.env.frame = some X.env.locals) (hex0 : X.ex = []) (hc : X.calm = true) (hck : compChk X.N X.env.scope sc t ys js = true)
    (hi : QI X (.Name t px) iter wi) (hf : ∀ cl C s H fp, QIf (X.compE E sc cl C (t :: ys) s H fp) ifs tc) (he : ∀ cl C s H fp, Blk X C s H fp -> QE (X.compE E sc cl C (t :: ys) s H fp) elt te)
    (hs : ∀ x, foldedSetIterable iter X.env x = pure x := by intro _; rfl) : QE X (.ListComp elt [⟨.Name t px, iter, ifs, 0⟩] sc pos) (tComp wi js tc te) := ⟨pe_compE ob hst hfr0 hex0 hc hck hi.h (fun cl C s H fp => (hf cl C s H fp).h) (fun cl C s H fp b => (he cl C s H fp b).h) hs⟩
end L2
namespace L2
open PySem PySem.Spec PyProof.Rows
section
variable {X : Cx} {k : Nat} {f Dc : Addr} {fd : FuncData} {ps : List Str} {sp : Sp} {x dn n y : Str} {i j : Nat} {p cpos epos np hpos pos yp : Pos} {e : Expr} {es : List Expr} {t : TA} {ts : TS} {b0 : Stmt} {suite : List Stmt}
end
end L2
namespace L2
open PySem PySem.Spec PyProof.Rows
structure Det {α : Type} (t : Sem α) : Prop where
  out : ∀ (M : Model) (Γ : PySem.Ctx) (Q Q' : α -> Pos -> Shared -> Prop) (E E' : Value -> Pos -> Shared -> Prop) (p : Pos) (s : Shared), Sem.wp M Γ t Q E p s -> Sem.wp M Γ t Q' E' p s -> Sem.wp M Γ t (fun a p s => Q a p s /\ Q' a p s) (fun e p s => E e p s /\ E' e p s) p s
namespace Det
variable {α β : Type}
theorem pure (a : α) : Det (Pure.pure a : Sem α) := ⟨fun _ _ _ _ _ _ _ _ h h' => ⟨h, h'⟩⟩
theorem unsupported (w : String) : Det (PySem.unsupported w : Sem α) := ⟨fun _ _ _ _ _ _ _ _ h _ => h.elim⟩
theorem bind {m : Sem α} {f : α -> Sem β} (hm : Det m) (hf : ∀ a, Det (f a)) : Det (m >>= f) := ⟨fun M Γ Q Q' E E' p s h h' => by
  rw [Sem.wp_bind'] at h h' ⊢
  exact Sem.wp_mono M Γ m (fun a p' s' x => (hf a).out M Γ Q Q' E E' p' s' x.1 x.2) (fun _ _ _ x => x) p s (hm.out M Γ _ _ E E' p s h h')⟩
theorem ite {c : Prop} [Decidable c] {t u : Sem α} (ht : Det t) (hu : Det u) : Det (if c then t else u) := by split <;> assumption
theorem load (a : Addr) : Det (PySem.load a) := ⟨fun _ _ _ _ _ _ _ _ h h' => by
  unfold PySem.load at h h' ⊢
  rw [Sem.wp_load] at h h' ⊢
  obtain ⟨o, e, q⟩ := h
  obtain ⟨o', e', q'⟩ := h'
  rw [e] at e'
  cases e'
  exact ⟨o, e, q, q'⟩⟩
theorem update (a : Addr) (f : Obj -> Obj) : Det (PySem.update a f) := ⟨fun _ _ _ _ _ _ _ _ h h' => ⟨h.1, h.2, h'.2⟩⟩
theorem stack : Det PySem.stack := ⟨fun _ _ _ _ _ _ _ _ h h' => ⟨h, h'⟩⟩
theorem alloc (o : Obj) : Det (PySem.alloc o) := ⟨fun _ _ _ _ _ _ _ _ h h' => ⟨h, h'⟩⟩
theorem field (v : Value) (i : Nat) : Det (PySem.field v i) := ⟨fun M Γ Q Q' E E' p s h h' => by
  rw [wp_field_iff] at h h' ⊢
  obtain ⟨a, o, vs, x, rfl, ho, hd, hx, q⟩ := h
  obtain ⟨a', o', vs', x', e', ho', hd', hx', q'⟩ := h'
  cases e'
  rw [ho] at ho'
  cases ho'
  rw [hd] at hd'
  cases hd'
  rw [hx] at hx'
  cases hx'
  exact ⟨a, o, vs, x, rfl, ho, hd, hx, q, q'⟩⟩
theorem setField (v : Value) (i : Nat) (x : Value) : Det (PySem.setField v i x) := ⟨fun M Γ Q Q' E E' p s h h' => by
  rw [wp_setField_iff] at h h' ⊢
  obtain ⟨a, o, vs, rfl, ho, hd, hi, q⟩ := h
  obtain ⟨a', o', vs', e', ho', hd', hi', q'⟩ := h'
  cases e'
  exact ⟨a, o, vs, rfl, ho, hd, hi, q, q'⟩⟩
end Det
theorem det_behind (env : Env) (outer : List Env) : Det (behindIsImport env outer) := by
  unfold behindIsImport
  repeat' with_reducible first | assumption | exact Det.pure _ | exact Det.unsupported _ | exact Det.field _ _ | exact Det.setField _ _ _ | exact Det.load _ | exact Det.update _ _ | exact Det.stack | exact Det.alloc _ | apply Det.ite | apply Det.bind | intro _ | split
theorem det_under : Det underTheClaimsCaller := by
  unfold underTheClaimsCaller
  repeat' with_reducible first | assumption | exact Det.pure _ | exact Det.unsupported _ | exact Det.field _ _ | exact Det.setField _ _ _ | exact Det.load _ | exact Det.update _ _ | exact Det.stack | exact Det.alloc _ | apply Det.ite | apply Det.bind | intro _ | split
theorem det_kept (env : Env) (i : Bool) (l : List Env) : Det (keptBack env i l) := by
  have := det_under
  cases l <;> unfold keptBack <;> (repeat' with_reducible first | assumption | exact Det.pure _ | exact Det.unsupported _ | exact Det.field _ _ | exact Det.setField _ _ _ | exact Det.load _ | exact Det.update _ _ | exact Det.stack | exact Det.alloc _ | apply Det.ite | apply Det.bind | intro _ | split)
theorem det_ready : ∀ l : List Env, Det (readyFrames l)
  | [] => Det.pure _
  | env :: outer => by
    have ih := det_ready outer
    have h1 := det_behind env outer
    have h2 := fun i => det_kept env i outer
    unfold readyFrames
    repeat' with_reducible first | assumption | exact Det.pure _ | exact Det.unsupported _ | exact Det.field _ _ | exact Det.setField _ _ _ | exact Det.load _ | exact Det.update _ _ | exact Det.stack | exact Det.alloc _ | apply Det.ite | apply Det.bind | intro _ | split
    all_goals first | exact h2 _ | skip
theorem det_frameObject (l : List Env) : Det (frameObject l) := by
  cases l with
  | nil => exact Det.pure _
  | cons env outer =>
    have := det_ready (env :: outer)
    unfold frameObject
    repeat' with_reducible first | assumption | exact Det.pure _ | exact Det.unsupported _ | exact Det.field _ _ | exact Det.setField _ _ _ | exact Det.load _ | exact Det.update _ _ | exact Det.stack | exact Det.alloc _ | apply Det.ite | apply Det.bind | intro _ | split
theorem det_frameEnvs : Det frameEnvs := by
  unfold frameEnvs
  repeat' with_reducible first | assumption | exact Det.pure _ | exact Det.unsupported _ | exact Det.field _ _ | exact Det.setField _ _ _ | exact Det.load _ | exact Det.update _ _ | exact Det.stack | exact Det.alloc _ | apply Det.ite | apply Det.bind | intro _ | split
theorem det_frameOf (env : Env) : Det (PySem.frameOf env) := by
  have h1 := det_frameEnvs
  have h2 := det_frameObject
  unfold PySem.frameOf
  repeat' with_reducible first | assumption | exact Det.pure _ | exact Det.unsupported _ | exact Det.field _ _ | exact Det.setField _ _ _ | exact Det.load _ | exact Det.update _ _ | exact Det.stack | exact Det.alloc _ | apply Det.ite | apply Det.bind | intro _ | split
  all_goals first | exact h2 _ | skip
theorem det_entryPlace (f : Addr) (b : Bool) : Det (entryPlaceOf f b) := by
  unfold entryPlaceOf
  repeat' with_reducible first | assumption | exact Det.pure _ | exact Det.unsupported _ | exact Det.field _ _ | exact Det.setField _ _ _ | exact Det.load _ | exact Det.update _ _ | exact Det.stack | exact Det.alloc _ | apply Det.ite | apply Det.bind | intro _ | split
theorem det_newEntry (a b c d e : Value) (l : List Value) : Det (EntryCells.newEntry a b c d e l) := by
  unfold EntryCells.newEntry newFields newObj newObjAsIs
  repeat' with_reducible first | assumption | exact Det.pure _ | exact Det.unsupported _ | exact Det.field _ _ | exact Det.setField _ _ _ | exact Det.load _ | exact Det.update _ _ | exact Det.stack | exact Det.alloc _ | apply Det.ite | apply Det.bind | intro _ | split
theorem det_note (e : Value) (env : Env) : Det (noteFrame e env) := by
  have h1 := det_frameOf env
  have h2 := det_entryPlace
  have h3 := det_newEntry
  unfold noteFrame
  repeat' with_reducible first | assumption | exact Det.pure _ | exact Det.unsupported _ | exact Det.field _ _ | exact Det.setField _ _ _ | exact Det.load _ | exact Det.update _ _ | exact Det.stack | exact Det.alloc _ | apply Det.ite | apply Det.bind | intro _ | split
  all_goals first | exact h2 _ _ | exact h3 _ _ _ _ _ _ | skip
theorem det_flight (e : Value) (o : Option Addr) : Det (setFlight e o) := by
  unfold setFlight
  repeat' with_reducible first | assumption | exact Det.pure _ | exact Det.unsupported _ | exact Det.field _ _ | exact Det.setField _ _ _ | exact Det.load _ | exact Det.update _ _ | exact Det.stack | exact Det.alloc _ | apply Det.ite | apply Det.bind | intro _ | split
theorem det_leaving (e : Value) (env : Env) : Det (leaving env e) := by
  have h1 := det_note e env
  have h2 := det_flight e
  unfold leaving
  repeat' with_reducible first | assumption | exact Det.pure _ | exact Det.unsupported _ | exact Det.field _ _ | exact Det.setField _ _ _ | exact Det.load _ | exact Det.update _ _ | exact Det.stack | exact Det.alloc _ | apply Det.ite | apply Det.bind | intro _ | split
  all_goals first | exact h2 _ | skip
theorem both {α : Type} {M : Model} {A : Around} {t : Sem α} {Q Q' : α -> Shared -> Prop} {E E' : Value -> Shared -> Prop} {s : Shared} (d : Det t) (h : wpAny M A t Q E s) (h' : wpAny M A t Q' E' s) : wpAny M A t (fun a s => Q a s /\ Q' a s) (fun e s => E e s /\ E' e s) s :=
  fun Γ p hΓ => d.out M Γ _ _ _ _ p s (h Γ p hΓ) (h' Γ p hΓ)
def Ctx0 (h : Heap) (e : Addr) : Prop := ∃ oe vs, h.get? e = some oe /\ oe.data = .fields vs /\ vs[2]? = some Value.none
def Tr0 (h : Heap) (e : Addr) : Prop := ∃ oe vs T oT ts, h.get? e = some oe /\ oe.data = .fields vs /\ vs[1]? = some (.ref T) /\ vs[2]? = some Value.none /\ T ≠ e /\ h.get? T = some oT /\ oT.data = .fields ts /\ 3 < ts.size
theorem Tr0.ctx {h : Heap} {e : Addr} : Tr0 h e -> Ctx0 h e := fun ⟨oe, vs, _, _, _, a, b, _, c, _⟩ => ⟨oe, vs, a, b, c⟩
section
variable {M : Model} {A : Around} {E : Value -> Shared -> Prop} {s : Shared}
theorem tail_tr0 {base : Heap} {env : Env} {outer : List Env} {L e : Addr} {oe : Obj} {vs : Array Value} {head : Value} {had : Bool}
    (fr : A.frames = some (env :: outer)) (ff : s.heap.FunFrames base (env :: outer)) (ef : env.frame = some L)
    (he : s.heap.get? e = some oe) (hd : oe.data = .fields vs) (h1 : 1 < vs.size) (h2 : vs[2]? = some Value.none) :
    wpAny M A (do setField (.ref e) 1 (<- EntryCells.newEntry head (<- PySem.frameOf env) .none (rawInt L) .none (<- entryPlaceOf L had))) (fun _ s' => Tr0 s'.heap e) E s := by
  have out : e ∉ (env :: outer).filterMap (·.frame) := fun m => by
    obtain ⟨_, o, eo, no⟩ := ff.mem m
    rw [he] at eo
    cases eo
    exact no vs hd
  refine wpAny_bind (wpAny_frameOf_fun fr ff ef fun hA sA => wpAny_bind (wpAny_entryPlaceOf fun cells hc => ?_))
  have heA : hA.get? e = some oe := (sA.2.1 e out).trans he
  have ne : hA.objs.size ≠ e := Nat.ne_of_gt (Heap.lt_size heA)
  unfold EntryCells.newEntry newFields
  refine wpAny_bind (wpAny_newObj_type (wpAny_setField (Heap.get?_push_of_some _ heA) hd h1 ?_) (hc.sizeOk5 _ _ _ _ _))
  have dn := Obj.data_mapFields hd (·.setIfInBounds 1 (Value.ref hA.objs.size))
  refine ⟨_, _, hA.objs.size, _, _, Heap.get?_update_self _ (Heap.get?_push_of_some _ heA) (Obj.isFreed_of_fields dn), dn, by simp [h1], by rw [Array.getElem?_setIfInBounds_ne (by decide)]; exact h2, ne, (Heap.get?_update_other _ _ (Ne.symm ne)).trans (Heap.get?_push_size hA rfl), rfl, ?_⟩
  simp only [List.size_toArray, List.length_append, List.length_cons, List.length_nil] <;> omega
theorem note_tr0 {base : Heap} {env : Env} {outer : List Env} {L e : Addr} (hfr : A.frames = some (env :: outer)) (hl : s.heap.FunFrames base (env :: outer)) (hf : env.frame = some L) (x : Tr0 s.heap e) :
    wpAny M A (noteFrame (.ref e) env) (fun _ s' => Tr0 s'.heap e) E s := by
  obtain ⟨oe, vs, T, oT, ts, he, hd, h1, h2, hTe, hT, hdT, h3⟩ := x
  have hx : Tr0 s.heap e := ⟨oe, vs, T, oT, ts, he, hd, h1, h2, hTe, hT, hdT, h3⟩
  unfold noteFrame
  simp only [hf]
  refine wpAny_bind (wpAny_field he hd h1 ?_)
  rw [if_pos (show (Value.ref T != Value.none) = true from by simp)]
  refine wpAny_bind (wpAny_field hT hdT (Array.getElem?_eq_getElem h3) ?_)
  by_cases hm : (ts[3] == rawInt L) = true
  · rw [if_pos hm]
    exact wpAny_pure hx
  rw [if_neg hm]
  refine wpAny_bind (wpAny_setField hT hdT h3 ?_)
  refine tail_tr0 hfr (hl.of_keeps fun b o hb nf => ⟨o, (Heap.get?_update_other _ _ fun z => ?_).trans hb, rfl⟩) hf ((Heap.get?_update_other _ _ hTe).trans he) hd (Array.getElem?_eq_some_iff.mp h1).1 h2
  rw [<- z, hT] at hb
  cases hb
  exact nf ts hdT
theorem note_first0 {base : Heap} {env : Env} {outer : List Env} {L e : Addr} {oe : Obj} {vs : Array Value} (hfr : A.frames = some (env :: outer)) (hl : s.heap.FunFrames base (env :: outer)) (hf : env.frame = some L)
    (he : s.heap.get? e = some oe) (hd : oe.data = .fields vs) (h1 : vs[1]? = some Value.none) (h2 : vs[2]? = some Value.none) :
    wpAny M A (noteFrame (.ref e) env) (fun _ s' => Tr0 s'.heap e) E s := by
  unfold noteFrame
  simp only [hf]
  refine wpAny_bind (wpAny_field he hd h1 ?_)
  rw [if_neg (by decide)]
  exact tail_tr0 hfr hl hf he hd (Array.getElem?_eq_some_iff.mp h1).1 h2
theorem flight_tr0 {e : Addr} (x : Tr0 s.heap e) : wpAny M A (setFlight (.ref e) none) (fun _ s' => Tr0 s'.heap e) E s := by
  obtain ⟨oe, vs, T, oT, ts, he, hd, h1, h2, hTe, hT, hdT, h3⟩ := x
  unfold setFlight
  refine wpAny_bind (wpAny_field he hd h1 ?_)
  rw [if_pos (show (Value.ref T != Value.none) = true from by simp)]
  refine wpAny_setField hT hdT h3 ?_
  exact ⟨oe, vs, T, _, _, (Heap.get?_update_other _ _ hTe).trans he, hd, h1, h2, hTe, Heap.get?_update_self _ hT (Obj.isFreed_of_fields (Obj.data_mapFields hdT _)), Obj.data_mapFields hdT _, by simpa using h3⟩
theorem leave_tr0 {base : Heap} {env : Env} {outer : List Env} {L e : Addr} (hfr : A.frames = some (env :: outer)) (hl : s.heap.FunFrames base (env :: outer)) (hf : env.frame = some L) (x : Tr0 s.heap e) :
    wpAny M A (leaving env (.ref e)) (fun _ s' => Tr0 s'.heap e) E s := by
  unfold leaving
  exact wpAny_bind (wpAny_mono (note_tr0 (E := E) hfr hl hf x) (fun _ s' y => flight_tr0 y) fun _ _ z => z)
theorem leave_first0 {base : Heap} {env : Env} {outer : List Env} {L e : Addr} {oe : Obj} {vs : Array Value} (hfr : A.frames = some (env :: outer)) (hl : s.heap.FunFrames base (env :: outer)) (hf : env.frame = some L)
    (he : s.heap.get? e = some oe) (hd : oe.data = .fields vs) (h1 : vs[1]? = some Value.none) (h2 : vs[2]? = some Value.none) :
    wpAny M A (leaving env (.ref e)) (fun _ s' => Tr0 s'.heap e) E s := by
  unfold leaving
  exact wpAny_bind (wpAny_mono (note_first0 (E := E) hfr hl hf he hd h1 h2) (fun _ s' y => flight_tr0 y) fun _ _ z => z)
theorem looks0 {base : Heap} {env : Env} {outer : List Env} {L e : Addr} {cls a0 : Value} {Q : Unit -> Shared -> Prop}
    (hfr : A.frames = some (env :: outer)) (hf : env.frame = some L) (hfl : Heap.FlyingW base (env :: outer) e cls a0 s.heap) (x : Tr0 s.heap e)
    (hQ : ∀ h', Heap.HeldW base (env :: outer) e cls a0 L h' -> s.heap.UpToSlots h' -> Tr0 h' e -> Q () { s with heap := h' }) : wpAny M A (noteFrame (.ref e) env) Q E s := by
  refine wpAny_mono (both (E := E) (E' := E) (det_note _ _) (wpAny_looks_onW (Q := fun _ s' => ∃ h', s' = { s with heap := h' } /\ Heap.HeldW base (env :: outer) e cls a0 L h' /\ s.heap.UpToSlots h') hfr hf hfl fun h' a b => ⟨h', rfl, a, b⟩) (note_tr0 hfr hfl.2.2.1 hf x)) (fun _ s' y => ?_) fun _ _ z => z.1
  obtain ⟨⟨h', rfl, a, b⟩, c⟩ := y
  exact hQ h' a b c
theorem lands0 {base : Heap} {l : List Env} {e L : Addr} {cls a0 : Value} {Q : Unit -> Shared -> Prop} (hh : Heap.HeldW base l e cls a0 L s.heap) (x : Tr0 s.heap e)
    (hQ : ∀ h', Heap.FlyingW base l e cls a0 h' -> s.heap.UpToSlots h' -> Tr0 h' e -> Q () { s with heap := h' }) : wpAny M A (setFlight (.ref e) none) Q E s := by
  refine wpAny_mono (both (E := E) (E' := E) (det_flight _ _) (wpAny_landsW (Q := fun _ s' => ∃ h', s' = { s with heap := h' } /\ Heap.FlyingW base l e cls a0 h' /\ s.heap.UpToSlots h') hh fun h' a b => ⟨h', rfl, a, b⟩) (flight_tr0 x)) (fun _ s' y => ?_) fun _ _ z => z.1
  obtain ⟨⟨h', rfl, a, b⟩, c⟩ := y
  exact hQ h' a b c
theorem again0 {base : Heap} {l : List Env} {e : Addr} {cls a0 : Value} {Q : Unit -> Shared -> Prop} (hh : Heap.FlyingW base l e cls a0 s.heap) (x : Tr0 s.heap e)
    (hQ : ∀ h', Heap.FlyingW base l e cls a0 h' -> s.heap.UpToSlots h' -> Tr0 h' e -> Q () { s with heap := h' }) : wpAny M A (setFlight (.ref e) none) Q E s := by
  refine wpAny_mono (both (E := E) (E' := E) (det_flight _ _) (lands_againW (Q := fun _ s' => ∃ h', s' = { s with heap := h' } /\ Heap.FlyingW base l e cls a0 h' /\ s.heap.UpToSlots h') hh fun h' a b => ⟨h', rfl, a, b⟩) (flight_tr0 x)) (fun _ s' y => ?_) fun _ _ z => z.1
  obtain ⟨⟨h', rfl, a, b⟩, c⟩ := y
  exact hQ h' a b c
end
def CXc (P : Program) (w : World) : CXT := fun outer H s E e s' => ∃ a cls H', e = .ref a /\ XO P w outer H s cls a H' s' /\ E cls none H' /\ Tr0 s'.heap a
section
variable {P : Program} {w : World} {K : PySem.W.Frag} {mg : Str -> Option Value} {base : Heap} {N : List Str} {qual : Str} {scope : Scope} {f : Addr} {cd : Value} {A : Around} {outer : List Env} {s₀ : Shared} {H₀ : Hp} {E : XK}
theorem xe_raiseC {C : Addr} : ∀ pins σ H s h' a vs, Inv (cxOf (CXc P w) P w K mg base N qual scope f cd A outer s₀ H₀ E) pins σ H s -> Heap.MadeExcOf s.heap h' a (.ref C) vs -> E (.ref C) none H ->
    (cxOf (CXc P w) P w K mg base N qual scope f cd A outer s₀ H₀ E).xe (.ref a) { s with heap := h' } := fun pins σ H s h' a vs I hmk q => by
  obtain ⟨t, ht, _, _⟩ := hmk.there
  have hFF : s.heap.FunFrames base (envOfC qual scope s₀.heap.objs.size f cd :: outer) := I.stack
  refine wpAny_mono (both (det_leaving _ _) (Inv.raise (M := model P w) (E' := fun _ _ => False) I rfl rfl rfl hmk) (leave_first0 (E := fun _ _ => False) (base := base) I.ok.frames (hFF.of_keeps fun b o hb _ => ⟨o, hmk.keeps b o hb, rfl⟩) rfl ht rfl rfl rfl)) (fun _ s'' x => ⟨a, .ref C, H, rfl, x.1, q, x.2⟩) fun _ _ z => z.1.elim
theorem pass_onC : Passes (CXc P w) (cxOf (CXc P w) P w K mg base N qual scope f cd A outer s₀ H₀ E) E := fun pins σ H s e s' I h => by
  obtain ⟨a, cls, H', rfl, x, q, tr⟩ := h
  obtain ⟨B, a0, fly, big⟩ := x.fly
  exact wpAny_mono (both (det_leaving _ _) (Inv.pass (M := model P w) (E' := fun _ _ => False) I rfl rfl rfl x) (leave_tr0 (E := fun _ _ => False) I.ok.frames fly.2.2.1 rfl tr)) (fun _ s'' y => ⟨a, cls, H', rfl, y.1, q, y.2⟩) fun _ _ z => z.1.elim
end
theorem entry_unchain : entryFor table "proto.unchain" = some Builtin.«proto.unchain» := entryFor_of_tree (by kernel_rfl)
section
variable {prog : Program} {w : World} {A : Around} {E : Value -> Shared -> Prop} {s : Shared} {env : Env}
theorem raiseNew_ctx {α : Type} {e h0 : Addr} {oe : Obj} {vs : Array Value} {Q : α -> Shared -> Prop} (hh : A.handled = some (.ref h0)) (hne : h0 ≠ e) (hc : Ctx0 s.heap h0) (he : s.heap.get? e = some oe) (hd : oe.data = .fields vs) (hsz : 2 < vs.size)
    (h : E (.ref e) { s with heap := s.heap.update e (Obj.mapFields (·.setIfInBounds 2 (.ref h0))) }) : wpAny (model prog w) A (raiseNew (.ref e) : Sem α) Q E s := by
  obtain ⟨o0, v0, he0, hd0, h20⟩ := hc
  unfold raiseNew
  refine wpAny_bind (wpAny_handled ?_)
  rw [hh]
  dsimp only
  rw [if_pos (show (Value.ref h0 != Value.ref e) = true from by simpa using hne)]
  refine wpAny_bind (wpAny_holding (runValue_entry entry_unchain ?_))
  unfold Builtin.«proto.unchain»
  refine wpAny_bind (wpAny_field he0 hd0 h20 ?_)
  rw [if_pos (show (Value.none == Value.none) = true from rfl)]
  refine wpAny_bind (wpAny_pure (wpAny_pure ⟨_, rfl, ?_⟩))
  refine wpAny_bind ?_
  have := wpAny_setField (M := model prog w) (A := A) (E := E) (s := s) (i := 2) (x := Value.ref h0) (Q := fun _ s' => wpAny (model prog w) A (throw (Value.ref e) : Sem α) Q E s') he hd hsz (wpAny_throw h)
  exact this
variable {nm q : Str} {C N : Addr} {bs bm bmB : List Value} {hdc : Bool} {sn : List Str} {sbc : List Value} {ab : Bool} {clt : Option Bool} {dd : Option Addr} {k0 k1 k2 k3 k5 : Option Value} {B newId initId : String}
def fromH (h : Heap) (e h0 : Addr) : Heap := ((h.update e (Obj.mapFields (·.setIfInBounds 3 Value.none))).update e (Obj.mapFields (·.setIfInBounds 4 (.bool true)))).update e (Obj.mapFields (·.setIfInBounds 2 (.ref h0)))
theorem raiseStmt_from {x c : Sem Value} {h0 : Addr} {Q : Flow -> Shared -> Prop} (hbs : bm.contains (.type "BaseException") = true) (hh : A.handled = some (.ref h0)) (hcs : ∀ (s : Shared) (Q : Value -> Shared -> Prop), Q .none s -> wpAny (model prog w) A c Q E s)
    (h : wpAny (model prog w) A x (fun v sx => ∃ e t, v = .ref e /\ sx.heap.get? C = some (excClassObj nm q C N bs bm hdc sn sbc ab clt dd k0 k1 k2 k3 k5 newId) /\
      sx.heap.get? e = some { cls := .ref C, data := .fields #[.ref t, .none, .none, .none, .bool false, .none] } /\ Ctx0 sx.heap h0 /\ h0 ≠ e /\ C ≠ e /\ E (.ref e) { sx with heap := fromH sx.heap e h0 }) E s) :
    wpAny (model prog w) A (raiseStmt env (some x) (some c)) Q E s := by
  have hBx : (Value.ref C :: bm).contains (.type "BaseException") = true := by rw [List.contains_cons, hbs, Bool.or_true]
  unfold raiseStmt
  refine wpAny_bind (wpAny_mono h (fun v sx hx => ?_) fun _ _ x => x)
  obtain ⟨e, t, rfl, oC, oE, hc0, hne, hCe, hEx⟩ := hx
  obtain ⟨hh0, g, d, tk, os⟩ := sx
  refine wpAny_bind (wpAny_holding (hcs _ _ (wpAny_bind (wpAny_pure ?_))))
  repeat (first | with_reducible refine wpAny_loadPart_at oE ?_ | with_reducible refine wpAny_loadPart_at oC ?_ | (with_reducible refine wpAny_isSubtype_exc oC ?_; rw [hBx]) | wp_step)
  obtain ⟨o0, v0, e0, d0, c0⟩ := hc0
  have up : ∀ (h : Heap) (g : Obj -> Obj), (h.update e g).get? h0 = h.get? h0 := fun h g => Heap.get?_update_other _ _ (Ne.symm hne)
  have he1 := Heap.get?_update_self (Obj.mapFields (·.setIfInBounds 3 Value.none)) oE rfl
  have he2 := Heap.get?_update_self (Obj.mapFields (·.setIfInBounds 4 (Value.bool true))) he1 rfl
  exact raiseNew_ctx hh hne ⟨o0, v0, by rw [up, up]; exact e0, d0, c0⟩ he2 rfl (by simp) hEx
structure MadeG (h h' : Heap) (e : Addr) (cls : Value) : Prop where
  keeps : ∀ b o, h.get? b = some o -> h'.get? b = some o
  new : h.get? e = none
  there : ∃ oe vs a0, h'.get? e = some oe /\ oe.cls = cls /\ oe.data = .fields vs /\ vs[1]? = some Value.none /\ vs[0]? = some a0
theorem madeG {h h' : Heap} {e h0 : Addr} {cls : Value} {args : List Value} (m : Heap.MadeExcOf h h' e cls args) : MadeG h (fromH h' e h0) e cls := by
  obtain ⟨t, he, _, _⟩ := m.there
  have hn := m.new
  refine ⟨fun b o q => ?_, hn, ?_⟩
  · have hb : e ≠ b := fun z => by
      rw [<- z, hn] at q
      cases q
    unfold fromH
    rw [Heap.get?_update_other _ _ hb, Heap.get?_update_other _ _ hb, Heap.get?_update_other _ _ hb]
    exact m.keeps b o q
  · have he1 := Heap.get?_update_self (Obj.mapFields (·.setIfInBounds 3 Value.none)) he rfl
    have he2 := Heap.get?_update_self (Obj.mapFields (·.setIfInBounds 4 (Value.bool true))) he1 rfl
    have he3 := Heap.get?_update_self (Obj.mapFields (·.setIfInBounds 2 (Value.ref h0))) he2 rfl
    exact ⟨_, _, _, he3, rfl, rfl, rfl, rfl⟩
theorem Raise_from (F : ExcBaseFacts B newId initId bmB) {mN : Str -> Option Value} {x : Str} {np cpos pos kp : Pos} {ck : Nat} {args : List Expr} {h0 : Addr} {Q : Flow -> Shared -> Prop}
    (hbs : bm.contains (.type "BaseException") = true) (hh : A.handled = some (.ref h0)) (hpln : (backTo cpos (starEach args env)).any (·.1) = false) (hni : mN "__init__" = none)
    (h : wpAny (model prog w) A (eval (.Name x np) env) (fun f sx => f = .ref C /\ wpAny (model prog w) A (evalArgs (.ref C) true (backTo cpos (starEach args env)) [])
      (fun a sy => a.kw = [] /\ a.pos.length <= sizeLine /\ sy.heap.get? C = some (excClassObj nm q C N bs bm hdc sn sbc ab clt dd k0 k1 k2 k3 k5 newId) /\ sy.heap.Ns N mN /\ OwnTail sy.heap bmB bm /\ Ctx0 sy.heap h0 /\
        ∀ h' e, MadeG sy.heap h' e (.ref C) -> E (.ref e) { sy with heap := h' }) E sx) E s) :
    wpAny (model prog w) A (exec (.Raise (some (.Call (.Name x np) args [] cpos)) (some (.Constant .none ck kp)) pos) env) Q E s := by
  rw [arm_exec_Raise]
  refine wpAny_bind (wpAny_standAt (raiseStmt_from (C := C) (nm := nm) (q := q) (N := N) (bs := bs) (bm := bm) (hdc := hdc) (sn := sn) (sbc := sbc) (ab := ab) (clt := clt) (dd := dd) (k0 := k0) (k1 := k1) (k2 := k2) (k3 := k3) (k5 := k5) (newId := newId) (h0 := h0) hbs hh
    (fun s Q hq => wpAny_bind (wpAny_Constant_none (wpAny_bind (wpAny_standAt (wpAny_pure hq)))))
    (wpAny_bind (wpAny_mono (wpAny_Call_ofName (wpAny_mono h (fun f sx hx => ?_) fun _ _ x => x)) (fun v sz hz => wpAny_bind (wpAny_standAt (wpAny_pure hz))) fun _ _ x => x))))
  obtain ⟨rfl, hx⟩ := hx
  unfold callWith
  refine wpAny_bind (wpAny_holding (wpAny_mono hx (fun a sy hy => wpAny_bind (wpAny_standAt ?_)) fun _ _ x => x))
  obtain ⟨apos, akw⟩ := a
  obtain ⟨hkw, hle, oC, hn, T, hc0, hy⟩ := hy
  obtain rfl : akw = [] := hkw
  obtain ⟨hh0, g, d, tk, os⟩ := sy
  simp only [hpln]
  refine wpAny_bind (wpAny_keeperOf_exc oC ?_)
  refine wpAny_bind (wpAny_call_exc_subT (hrest := hle) F T oC hn hni fun h' e mk => wpAny_bind (wpAny_holding (wpAny_point (wpAny_pure ?_))))
  obtain ⟨t, ht, _, _⟩ := mk.there
  obtain ⟨o0, v0, e0, d0, c0⟩ := hc0
  have hnw := mk.new
  refine ⟨e, t, rfl, mk.keeps _ _ oC, ht, ⟨o0, v0, mk.keeps _ _ e0, d0, c0⟩, fun z => ?_, fun z => ?_, hy _ e (madeG mk)⟩
  · rw [z] at e0
    rw [hnw] at e0
    cases e0
  · rw [z] at oC
    rw [hnw] at oC
    cases oC
end
section
variable {X : Cx} {pins : List (Addr × Obj)} {σ : St} {H H' : Hp} {s s' : Shared} {M : Model} {E' : Value -> Shared -> Prop} {a : Addr} {cls : Value}
theorem Inv.raiseG (I : Inv X pins σ H s) (hs : X.stack = X.env :: X.outer) (hf : X.env.frame = some X.env.locals) (hex : X.ex = []) {h1 : Heap} (hx : MadeG s.heap h1 a cls) :
    wpAny M X.A (leaving X.env (.ref a)) (fun _ s'' => XO X.prog X.w X.outer X.H₀ X.s₀ cls a H s'') E' { s with heap := h1 } := by
  have hfr : X.A.frames = some (X.env :: X.outer) := by rw [<- hs]; exact I.ok.frames
  have hFF : s.heap.FunFrames X.base (X.env :: X.outer) := by rw [<- hs]; exact I.stack
  have hin : ∀ env ∈ (X.env :: X.outer), ∀ b, env.frame = some b -> b ∈ frs (X.env :: X.outer) := fun env he b hb => List.mem_filterMap.mpr ⟨env, he, hb⟩
  have hfree : ∀ b ∈ frs (X.env :: X.outer), H b = none := by rw [<- hs]; exact I.stkFree
  have ub : Un X.fs [] X.H₀ H X.s₀.heap s.heap := by have := I.base; rw [hex] at this; exact this
  have nL : ∀ o, X.s₀.heap.get? X.env.locals ≠ some o := fun o z => absurd (Nat.lt_of_lt_of_le (Heap.lt_size z) I.ok.above) (Nat.lt_irrefl _)
  have big : ∀ b o, s.heap.get? b = some o -> b ∉ frs (X.env :: X.outer) -> (PySem.W.hideAll s.heap (frs (X.env :: X.outer))).get? b = some o := fun b o e n => PySem.W.hideAll_get _ e n
  obtain ⟨oe, vs, a0, he, rfl, hd, h1', h0'⟩ := hx.there
  have hkb : (PySem.W.hideAll s.heap (frs (X.env :: X.outer))).StaysIn s.heap := fun b o q => PySem.W.of_hideAll _ q
  have hen : (PySem.W.hideAll s.heap (frs (X.env :: X.outer))).get? a = none := by
    cases q : (PySem.W.hideAll s.heap (frs (X.env :: X.outer))).get? a with
    | none => rfl
    | some o =>
      have := hkb a o q
      rw [hx.new] at this
      cases this
  refine wpAny_leaving_firstW (base := PySem.W.hideAll s.heap (frs (X.env :: X.outer))) (a0 := a0) hfr ((PySem.W.funFrames_hide hFF hin).of_keeps fun b o hb _ => ⟨o, hx.keeps b o hb, rfl⟩) hf he (fun b o q => hx.keeps b o (hkb b o q)) hen hd h1' h0' fun h' hL => ?_
  obtain ⟨k1, ⟨_, _, k2⟩, k3, up⟩ := hL
  have fl : Heap.FlyingW (PySem.W.hideAll s.heap (frs (X.env :: X.outer))) X.outer a oe.cls a0 h' := ⟨k1, hen, k2, k3⟩
  have slots : ∀ b o, s.heap.get? b = some o -> b ∈ frs (X.env :: X.outer) -> ∃ sl, h'.get? b = some { o with slots := sl } := fun b o e hb => by
    obtain ⟨_, o', e', nf⟩ := hFF.mem hb
    rw [e] at e'
    cases e'
    exact up b o (hx.keeps b o e) nf
  have hfs : ∀ b ∈ frs (X.env :: X.outer), b ∈ X.fs \/ ∀ o, X.s₀.heap.get? b ≠ some o := fun b hb => by
    rw [frs_cons hf] at hb
    rcases List.mem_cons.mp hb with rfl | hb
    · exact .inr nL
    · exact .inl hb
  have sub : ∀ b ∈ X.fs, b ∈ frs (X.env :: X.outer) := fun b hb => by
    rw [frs_cons hf]
    exact List.mem_cons_of_mem _ hb
  refine ⟨I.os, I.bare, ub.fly hfs fl.1 (fun b o e n _ => big b o e n) slots sub, I.hok.fly hfree fl.1 (fun b o e n _ => big b o e n), ?_, ?_, _, _, fl, fun b o hb hn e => ?_⟩
  · cases q : X.s₀.heap.get? a with
    | none => rfl
    | some o =>
      obtain ⟨o', e⟩ := ub.there a o q (by simp)
      have := hx.new
      rw [e] at this
      cases this
  · cases q : H a with
    | none => rfl
    | some o =>
      obtain ⟨ob, e⟩ := (I.hok a o q).there
      have := hx.new
      rw [e] at this
      cases this
  · have hbs : ∃ ob, s.heap.get? b = some ob := by
      rcases hb with hb | ⟨o', hb⟩
      · cases q : H b with
        | none => exact absurd q hb
        | some u => exact (I.hok b u q).there
      · exact ub.there b o' hb (by simp)
    have hnL : b ∉ frs (X.env :: X.outer) := fun z => by
      rw [frs_cons hf] at z
      rcases List.mem_cons.mp z with rfl | z
      · rcases hb with hb | ⟨o', hb⟩
        · exact hb I.free
        · exact nL o' hb
      · exact hn z
    obtain ⟨ob, e1⟩ := hbs
    have e2 := big b ob e1 hnL
    have e3 := fl.1 b ob e2
    rw [e] at e3
    cases e3
    exact e2
end
section
variable {P : Program} {w : World} {K : PySem.W.Frag} {mg : Str -> Option Value} {base : Heap} {N : List Str} {qual : Str} {scope : Scope} {f : Addr} {cd : Value} {A : Around} {outer : List Env} {s₀ : Shared} {H₀ : Hp} {E : XK}
theorem xe_raiseG {C : Addr} : ∀ pins σ H s h' a, Inv (cxOf (CXe P w) P w K mg base N qual scope f cd A outer s₀ H₀ E) pins σ H s -> MadeG s.heap h' a (.ref C) -> E (.ref C) none H ->
    (cxOf (CXe P w) P w K mg base N qual scope f cd A outer s₀ H₀ E).xe (.ref a) { s with heap := h' } := fun pins σ H s h' a I hmk q =>
  wpAny_mono (Inv.raiseG (M := model P w) (E' := fun _ _ => False) I rfl rfl rfl hmk) (fun _ s'' x => ⟨a, .ref C, H, rfl, x, q⟩) fun _ _ z => z.elim
theorem passesAt {a : Addr} : PassesOwnAt (model P w) ((cxOf (CXe P w) P w K mg base N qual scope f cd A outer s₀ H₀ E).A.mark (some (.ref a))) (cxOf (CXe P w) P w K mg base N qual scope f cd A outer s₀ H₀ E).A (cxOf (CXe P w) P w K mg base N qual scope f cd A outer s₀ H₀ E).env (cxOf (CXe P w) P w K mg base N qual scope f cd A outer s₀ H₀ E).xe := PassesOwnAt.leaving
end
def ctxO (a : Addr) : HO := .ext fun h => Ctx0 h a
def tTryR (K : PySem.W.Frag) (Dc : Addr) (EX : Hp -> Prop) (sp : Sp) (t t2 : TA) : TS := fun D σ H => t σ H fun vs H1 => sp vs H1 (fun v H2 => D.rt v H2) fun cls _ H2 => ∃ C, cls = .ref C /\ ExcC K C /\ PySem.W.mroIn K C (.ref Dc) = some true /\
  ∀ a, H2 a = none -> t2 σ (upd H2 a (ctxO a)) fun vs H3 => vs.length <= 10 /\ EX H3 /\ H3 a = some (ctxO a)
section
variable {X : Cx} {k : Nat} {f Dc C2 : Addr} {fd : FuncData} {ps : List Str} {sp : Sp} {x dn cn : Str} {p cpos epos np hpos pos cnp cpos2 rpos2 kp : Pos} {ck : Nat} {e e2 : Expr} {es es2 : List Expr} {t t2 : TA} {EX : Hp -> Prop}
theorem ps_tryR (F : FnOk X.prog X.w X.K X.mg X.base (CXc X.prog X.w) k f fd ps sp) (hr : Room k X.A) (hg : Gl X x) (hm : X.mg x = some (.ref f)) (hk : PySem.W.keepIn X.K (.ref f) = true) (hb : Binds X.K fd ps [])
    (ha : PA X.nox (e :: es) t) (hgD : Gl X dn) (hmD : X.mg dn = some (.ref Dc)) (hD : ExcC X.K Dc) (hstk : X.stack = X.env :: X.outer) (hfr : X.env.frame = some X.env.locals) (hex : X.ex = [])
    (hg2 : Gl X cn) (hm2 : X.mg cn = some (.ref C2)) (h2 : ExcC X.K C2) (ha2 : ∀ a, PA (X.hand a) (e2 :: es2) t2)
    (hx : ∀ pins σ H s h' a, Inv X pins σ H s -> MadeG s.heap h' a (.ref C2) -> EX H -> X.xe (.ref a) { s with heap := h' })
    (hpo : ∀ a, PassesOwnAt (model X.prog X.w) (X.A.mark (some (.ref a))) X.A X.env X.xe)
    (hdb : (x == ("__debug__" : Str)) = false := by decide) (hdd : (dn == ("__debug__" : Str)) = false := by decide) (hcd : (cn == ("__debug__" : Str)) = false := by decide) (he : starEach (e :: es) X.env = (false, eval e X.env) :: starEach es X.env := by rfl) (hpl : (backTo cpos (starEach es X.env)).any (·.1) = false := by rfl)
    (he2 : starEach (e2 :: es2) X.env = (false, eval e2 X.env) :: starEach es2 X.env := by rfl) (hpl2 : (backTo cpos2 (starEach es2 X.env)).any (·.1) = false := by rfl) :
    PS X (.Try [.Return (some (.Call (.Name x p) (e :: es) [] cpos)) epos] [.ExceptHandler (some (.Name dn np)) none [.Raise (some (.Call (.Name cn cnp) (e2 :: es2) [] cpos2)) (some (.Constant .none ck kp)) rpos2] hpos] [] [] pos) (tTryR X.K Dc EX sp t t2) := by
  intro pins s σ H D I h
  refine wpAny_Try_except (wpAny_execs_cons (wpAny_Return_some (wpAny_Call_Name_kw (ld_glob I hg hm ?_ hdb))))
  refine PySem.W.callWith_K (h₀ := X.base) I.ok.mod.kin hk (wpAny_mono (ha cpos pins s σ H _ (I.wish _) h) (fun us s1 ⟨vs, H1, I1n, r, q⟩ => ⟨I1n.kIn, ?_⟩) fun _ _ z => z.elim) he hpl
  have I1 : Inv X pins σ H1 s1 := I1n.unwish
  have hl : (us ++ []).length = ps.length := by rw [List.append_nil, <- r.length]; exact F.len _ _ _ _ q
  have hbb := hb s1 us I1.kIn hl
  rw [List.append_nil] at hbb
  refine wpAny_call (codeAny_mono (F.run X.A X.stack s1 H1 ⟨us, []⟩ us vs _ _ hr I1.env0 hbb r q) fun res s' hq => ?_)
  cases res with
  | ok fl =>
    cases fl with
    | ret u =>
      obtain ⟨v, H2, I2, r2, q2⟩ := I1.after hq
      exact ⟨v, σ, H2, I2, r2, q2⟩
    | next => exact False.elim hq
    | brk => exact False.elim hq
    | cont => exact False.elim hq
  | error ev =>
    obtain ⟨a, cls, H2, rfl, x, ⟨C, rfl, hC, hmro, q2⟩, tr⟩ := hq
    obtain ⟨B, a0, fly, big⟩ := x.fly
    have hfrm : X.A.frames = some (X.env :: X.outer) := by rw [<- hstk]; exact I.ok.frames
    rw [hstk] at fly
    have keep : ∀ h6 : Heap, B.StaysIn h6 -> s'.heap.UpToSlots h6 -> ∀ tk : Nat, Inv X pins σ H2 { s' with heap := h6, toks := tk } := fun h6 st up tk => by
      have slots : ∀ b o, s'.heap.get? b = some o -> b ∈ frs X.stack -> ∃ sl, h6.get? b = some { o with slots := sl } := fun b o e hb => by
        rw [hstk] at hb
        obtain ⟨_, o', e', nf⟩ := fly.2.2.1.mem hb
        rw [e] at e'
        cases e'
        exact up b o e nf
      have hfree' : ∀ b ∈ frs X.stack, H2 b = none := fun b hb => by
        obtain ⟨_, o, e, _⟩ := I1.stack.mem hb
        exact x.un.free b o e (I1.stkFree b hb) (by simp)
      refine I1.call' (ch := []) x.os (x.un.fly (fun b hb => .inl hb) st (fun b o e n hb => big b o hb n e) slots fun b hb => hb) (x.hok.fly hfree' st (fun b o e n hb => big b o (.inl hb) n e)) x.bare (fun b z => absurd z (by simp))
    refine looks0 hfrm hfr fly tr fun h4 held4 sm4 tr4 => lands0 held4 tr4 fun h5 fl5 sm5 tr5 => ?_
    have I5 := keep h5 fl5.1 (sm4.trans sm5) s'.toks
    obtain ⟨oe, hoe, hoc⟩ := fl5.there
    refine wpAny_handleBy_cons (codeAny_handlers_test (ld_glob (I5.hand a) hgD hmD (excMatches_own (K := X.K) I5.kIn hC hD hoe hoc hmro ?_) hdd)) (by intro z; cases z)
    refine codeAny_handlers_suite (again0 fl5 tr5 fun h6 fl6 sm6 tr6 => ?_)
    have I6 := keep h6 fl6.1 ((sm4.trans sm5).trans sm6) s'.toks
    obtain ⟨oe6, hoe6, hoc6⟩ := fl6.there
    have hnew1 : s1.heap.get? a = none := x.new
    have I7 : Inv X pins σ (upd H2 a (ctxO a)) { s' with heap := h6 } := by
      refine I6.track x.free (fun u z => ?_) ⟨tr6.ctx, ⟨oe6, hoe6⟩, fun h1 h2 ⟨o, vs, e1, e2, e3⟩ st => ⟨o, vs, st o e1, e2, e3⟩⟩ (fun z => ?_) (fun y c e z => ?_) (fun p hp z => ?_)
      · obtain ⟨o', e1⟩ := I1.base.there a u z (by rw [hex]; simp)
        rw [hnew1] at e1
        cases e1
      · obtain ⟨m, hns, _⟩ := I1.loc
        obtain ⟨oL, _, _, hoL, _⟩ := hns
        rw [<- z, hnew1] at hoL
        cases hoL
      · obtain ⟨v, oc, hoc', _⟩ := I1.cell y c e
        rw [z, hnew1] at hoc'
        cases hoc'
      · obtain ⟨e1, _⟩ := I1.pin p hp
        rw [z, hnew1] at e1
        cases e1
    have I8 := I7.hand a
    obtain ⟨bm, N, nm, qn, bs, hdct, sn, sub, ab, col, dd, k0, k1, k2, k3, k5, mN, oC, hN, hni, TL, _⟩ := exc_obj (I.ok.mod.kin) h2
    refine wpAny_passesOwnAt (hpo a) (wpAny_execs_cons (Raise_from (C := C2) (nm := nm) (q := qn) (N := N) (bs := bs) (bm := bm) (hdc := hdct) (sn := sn) (sbc := sub) (ab := ab) (clt := col) (dd := dd) (k0 := k0) (k1 := k1) (k2 := k2) (k3 := k3) (k5 := k5) (h0 := a)
      PySem.F.excBase_ValueError (mN := mN) (TL.hasType (by decide)) rfl (by rw [he2]; show (false || (backTo cpos2 (starEach es2 X.env)).any (·.1)) = false; rw [hpl2]; rfl) hni (ld_glob I8 hg2 hm2 ⟨rfl, ?_⟩ hcd)))
    have hA := ha2 a cpos2 pins _ σ _ _ I8 (q2 a x.free)
    rw [show starEach (e2 :: es2) (X.hand a).env = (false, eval e2 X.env) :: starEach es2 X.env from he2] at hA
    rw [he2]
    refine Calls.evalArgs_plain (wpAny_mono hA (fun us s9 ⟨vs9, H9, I9, r9, z9, q9, t9⟩ => ⟨rfl, ?_, I9.bk _ _ oC, hN.keeps I9.bk, TL.keeps I9.bk, ?_, fun h' b hmk => hx pins σ H9 s9 h' b (I9.unhand I.ok) hmk q9⟩) fun _ _ z => z.elim)
    · rw [<- r9.length]
      exact fits2 (by omega)
    · exact (I9.hok a _ t9).1
theorem qs_tryR (F : FnOk X.prog X.w X.K X.mg X.base (CXc X.prog X.w) k f fd ps sp) (hr : Room k X.A) (hg : Gl X x) (hm : X.mg x = some (.ref f)) (hk : PySem.W.keepIn X.K (.ref f) = true) (hb : Binds X.K fd ps [])
    (ha : QA X.nox (e :: es) t) (hgD : Gl X dn) (hmD : X.mg dn = some (.ref Dc)) (hD : ExcC X.K Dc) (hstk : X.stack = X.env :: X.outer) (hfr : X.env.frame = some X.env.locals) (hex : X.ex = [])
    (hg2 : Gl X cn) (hm2 : X.mg cn = some (.ref C2)) (h2 : ExcC X.K C2) (ha2 : ∀ a, QA (X.hand a) (e2 :: es2) t2)
    (hx : ∀ pins σ H s h' a, Inv X pins σ H s -> MadeG s.heap h' a (.ref C2) -> EX H -> X.xe (.ref a) { s with heap := h' })
    (hpo : ∀ a, PassesOwnAt (model X.prog X.w) (X.A.mark (some (.ref a))) X.A X.env X.xe)
    (hdb : (x == ("__debug__" : Str)) = false := by decide) (hdd : (dn == ("__debug__" : Str)) = false := by decide) (hcd : (cn == ("__debug__" : Str)) = false := by decide) (he : starEach (e :: es) X.env = (false, eval e X.env) :: starEach es X.env := by rfl) (hpl : (backTo cpos (starEach es X.env)).any (·.1) = false := by rfl)
    (he2 : starEach (e2 :: es2) X.env = (false, eval e2 X.env) :: starEach es2 X.env := by rfl) (hpl2 : (backTo cpos2 (starEach es2 X.env)).any (·.1) = false := by rfl) :
    QS X (.Try [.Return (some (.Call (.Name x p) (e :: es) [] cpos)) epos] [.ExceptHandler (some (.Name dn np)) none [.Raise (some (.Call (.Name cn cnp) (e2 :: es2) [] cpos2)) (some (.Constant .none ck kp)) rpos2] hpos] [] [] pos) (tTryR X.K Dc EX sp t t2) :=
  ⟨ps_tryR F hr hg hm hk hb ha.h hgD hmD hD hstk hfr hex hg2 hm2 h2 (fun a => (ha2 a).h) hx hpo hdb hdd hcd he hpl he2 hpl2⟩
end
section
variable {P : Program} {w : World} {K : PySem.W.Frag} {mg : Str -> Option Value} {base : Heap}
theorem Fun.okC {x qual : Str} {st : Stmt} {f : Addr} {fd : FuncData} {N ps : List Str} {k : Nat} {sp : Sp} (F : Fun K x qual st f fd) (S : FnScope N ps (defScope st)) (len : ∀ vs H Q E, sp vs H Q E -> vs.length = ps.length)
    (hbody : ∀ (cdv : Value) (A : Around) (outer : List Env) (s : Shared) (H : Hp) (vs : List V) (Q : VK) (E : XK), Room k (A.deeper (envOfC qual (defScope st) s.heap.objs.size f cdv)) -> sp vs H Q E ->
      ∃ t, QSs (cxOf (CXc P w) P w K mg base N qual (defScope st) f cdv A outer s H E) (defBody st) t /\ t { nx := fun _ H' => Q .non H', rt := Q } (start N vs) H) : FnOk P w K mg base (CXc P w) (k + 1) f fd ps sp := by
  obtain ⟨oc, od, kV, doc, pm, an, cdv, ct, osl, rfl, lk, hcd⟩ := F.ex
  refine fn_of lk hcd S len fun A outer s H vs Q E hr hsp => ?_
  obtain ⟨t, h, q⟩ := hbody cdv A outer s H vs Q E hr hsp
  exact ⟨t, h.h, q⟩
end
def tRepS (te : TE) : TE := fun σ H Q => te σ H fun v H1 => ∃ x, v = .str x /\ (PyData.str x).shown.length <= sizeLine /\ Q (.str (PyData.str x).shown) H1
theorem qe_repS {X : Cx} {e : Expr} {te : TE} {pos : Pos} (he : QE X e te) : QE X (.FormattedValue e 114 none pos) (tRepS te) := ⟨fun pins s σ H Q I h =>
  wpAny_FormattedValue_repr (thn (he.h pins s σ H _ I h) fun u s1 ⟨v, H1, I1, r, x, hx, h4, q⟩ => by
    subst hx
    obtain ⟨t, rfl⟩ := r
    have fin : ∀ (h' : Heap) (t tk : Nat), (∀ b o, s1.heap.get? b = some o -> h'.get? b = some o) -> wpAny (model X.prog X.w) X.A (formatField (.str (PyData.str x).shown t) Str.empty) (EP X pins σ Q) X.xe { s1 with heap := h', toks := tk } := fun h' t tk kp =>
      have I2 : ∀ tk, Inv X pins σ H1 { s1 with heap := h', toks := tk } := fun tk => I1.un (t' := tk) (Un.kept fun b o e => kp b o e) (fun a o e => (I1.hok a o e).stay (fun b u _ q => kp b u q) (fun _ q => q) fun _ _ q => q)
      wpAny_formatField_str ⟨.str _, H1, I2 _, ⟨_, rfl⟩, q⟩ ⟨.str _, H1, I2 _, ⟨_, rfl⟩, q⟩ h4
    exact pyReprObj_str (fin _ _ _ fun _ _ e => e) h4)⟩
end L2
namespace L2
open PySem PySem.Spec PyProof.Rows
end L2
namespace TM
open PySem L2
end TM
namespace L2
open PySem PySem.Spec PyProof.Rows TM
section
variable {X : Cx} {K : PySem.W.Frag} {e : Expr} {te : TE} {p1 p2 q1 q2 : Pos}
end
section
variable {K : PySem.W.Frag} {a : Addr} {xs : List V} {js : List Nat} {te : TE} {σ : St} {Q : VK} {D : Addr} {H1 : Hp} {α : Type} {R : Hp -> α -> V -> Prop} {as : List α}
end
end L2
namespace L2
open PySem PySem.Spec PyProof.Rows
theorem qps_cons {X : Cx} {pos : Pos} {k v : Expr} {ks : List (Option Expr)} {vs : List Expr} {tk tv : TE} {trs : List (TE × TE)} (hk : QE X k tk) (hv : QE X v tv) (hr : PPs X pos ks vs trs) : PPs X pos (some k :: ks) (v :: vs) ((tk, tv) :: trs) := pps_cons hk.h hv.h hr
theorem qe_disp {X : Cx} {pos : Pos} {keys : List (Option Expr)} {values : List Expr} {trs : List (TE × TE)} (h : PPs X pos keys values trs) (hall : keys.all (·.isSome) = true := by rfl) (hl : keys.length = values.length := by rfl) (h0 : keys ≠ [] := by simp) (h15 : keys.length <= 15 := by decide) : QE X (.Dict keys values pos) (tDisp trs) := ⟨pe_disp h hall hl h0 h15⟩
end L2
namespace L2
open PySem PySem.Spec PyProof.Rows
section
variable {P : Program} {w : World} {A : Around} {E : Value -> Shared -> Prop} {s : Shared} {it d : Addr} {o : Obj} {es : Array DictEntry} {i n ep : Nat} {ok ov : Value}
end
section
variable {P : Program} {w : World} {K : PySem.W.Frag} {elts : List Expr} {k : Nat} {tpos : Pos}
end
section
variable {X : Cx} {elts : List Expr} {k : Nat} {tpos : Pos} {e : Expr} {te : TE} {apos cpos : Pos}
end
section
variable {X : Cx} {e : Expr} {te : TE} {apos cpos : Pos}
end
end L2
namespace L2
open PySem PySem.Spec PyProof.Rows
section
variable {prog : Program} {w : World} {A : Around} {E : Value -> Shared -> Prop} {s : Shared}
end
section
variable {X : Cx} {e : Expr} {te : TE} {p1 p2 q1 q2 : Pos}
end
section
variable {X : Cx}
def rIdx (K : PySem.W.Frag) : V -> List V -> Hp -> VK -> Prop := fun x vs H Q => ∃ (l : Addr) (zs : List Str) (z : Str) (j : Nat), x = .ref l /\ vs = [.str z] /\ SqL K H l (zs.map V.str) /\ zs[j]? = some z /\ (∀ (m : Nat) y, m < j -> zs[m]? = some y -> y ≠ z) /\ Q (.int (j : Int)) H
def eqS (z : Str) : Value -> Bool
  | .str y _ => eqV (.str y) (.str z)
  | _ => false
theorem mt_idx : MtR X "list.index" (rIdx X.K) := by
  intro pins s σ H x vs v us Q I rx rv h
  obtain ⟨l, zs, z, j, rfl, rfl, hq, hj, hno, q⟩ := h
  cases rx
  obtain ⟨u, rfl, ru⟩ := vals1 rv
  obtain ⟨its, r, pl, hz⟩ := I.list hq
  obtain ⟨⟨cls, dd, data, sl⟩, n, ho, hc, hd, hs⟩ := pl
  simp only at hc hd hs
  subst hc
  have hlen := r.length
  rw [List.length_map] at hlen hz
  have at_ : ∀ (m : Nat) (y : Value), its[m]? = some y -> ∃ w t, zs[m]? = some w /\ y = .str w t := fun m y hy => by
    have hm : m < zs.length := by have := lt_of_some hy; omega
    obtain ⟨w, hw⟩ := some_of_lt hm
    obtain ⟨v', hv', rv'⟩ := r.get (i := m) (by rw [List.getElem?_map, hw]; rfl)
    rw [hy] at hv'
    cases hv'
    obtain ⟨t, rfl⟩ := rv'
    exact ⟨w, t, hw, rfl⟩
  subst hs
  have hjl : j < its.length := by have := lt_of_some hj; omega
  refine call_meets F.slot_list_index ⟨_, ho, rfl⟩ F.entry_list_index (F.args_list_index_2 _ _) (SeqAt.list_indexAt l its.toArray n dd sl u (eqS z) j (by rw [List.size_toArray]; exact hjl) ?_ ?_ ?_) ⟨ho, fun y hy => ?_, ⟨.int (j : Int), H, I.tok _, ⟨_, rfl⟩, q⟩⟩
  · have h1 : (sizeLine : Int) < 2 ^ 63 - 1 := by decide
    omega
  · obtain ⟨w, t, h1, h2⟩ := at_ j its[j] (List.getElem?_eq_getElem hjl)
    rw [hj] at h1
    cases h1
    show eqS z its[j] = true
    rw [h2]
    show (z == z) = true
    simp
  · intro m hm hlt
    rw [List.size_toArray] at hm
    obtain ⟨w, t, h1, h2⟩ := at_ m its[m] (List.getElem?_eq_getElem hm)
    show eqS z its[m] = false
    rw [h2]
    show (w == z) = false
    exact beq_eq_false_iff_ne.mpr (hno m w hlt h1)
  · obtain ⟨m, hm⟩ := List.getElem?_of_mem (show y ∈ its by simpa using hy)
    obtain ⟨w, t, h1, h2⟩ := at_ m y hm
    subst h2
    exact eqAt_V (y := .str w) (x := .str z) ⟨t, rfl⟩ ru rfl rfl
end
theorem mt_idxC {X : Cx} {K : PySem.W.Frag} (h : X.K = K) : MtR X "list.index" (rIdx K) := h ▸ mt_idx
end L2
namespace L2
open PySem PySem.Spec PyProof.Rows TM
section
variable {K : PySem.W.Frag} {a : Addr} {xs : List V} {js : List Nat} {g : TG} {n : Nat} {te : TE} {σ : St} {Q : VK} {D : Addr} {H1 : Hp} {α : Type} {R : Hp -> α -> V -> Prop} {as : List α}
end
end L2
namespace K22
open PySem L2
set_option genInjectivity false
set_option genSizeOf false
theorem bd1 {K : PySem.W.Frag} {x qual : Str} {st : Stmt} {f : Addr} {fd : FuncData} {ps : List Str} (F : Fun K x qual st f fd) (hl : ps.length = 1) (h : ∀ (kV doc pm : Value) (an : Option Addr) (cdv ct : Value) (a : Value), bindArgs (PySem.W.fnOf x qual (defArgs st) (defBody st) (defScope st) .none kV doc pm an cdv ct) ⟨[a], []⟩ = pure (ps.zip [a])) : Binds K fd ps [] := F.binds fun kV doc pm an cdv ct us e => by
  rw [hl] at e
  match us, e with
  | [a], _ => exact h kV doc pm an cdv ct a
theorem bd2 {K : PySem.W.Frag} {x qual : Str} {st : Stmt} {f : Addr} {fd : FuncData} {ps : List Str} (F : Fun K x qual st f fd) (hl : ps.length = 2) (h : ∀ (kV doc pm : Value) (an : Option Addr) (cdv ct : Value) (a b : Value), bindArgs (PySem.W.fnOf x qual (defArgs st) (defBody st) (defScope st) .none kV doc pm an cdv ct) ⟨[a, b], []⟩ = pure (ps.zip [a, b])) : Binds K fd ps [] := F.binds fun kV doc pm an cdv ct us e => by
  rw [hl] at e
  match us, e with
  | [a, b], _ => exact h kV doc pm an cdv ct a b
theorem bd3 {K : PySem.W.Frag} {x qual : Str} {st : Stmt} {f : Addr} {fd : FuncData} {ps : List Str} (F : Fun K x qual st f fd) (hl : ps.length = 3) (h : ∀ (kV doc pm : Value) (an : Option Addr) (cdv ct : Value) (a b c : Value), bindArgs (PySem.W.fnOf x qual (defArgs st) (defBody st) (defScope st) .none kV doc pm an cdv ct) ⟨[a, b, c], []⟩ = pure (ps.zip [a, b, c])) : Binds K fd ps [] := F.binds fun kV doc pm an cdv ct us e => by
  rw [hl] at e
  match us, e with
  | [a, b, c], _ => exact h kV doc pm an cdv ct a b c
theorem bd5 {K : PySem.W.Frag} {x qual : Str} {st : Stmt} {f : Addr} {fd : FuncData} {ps : List Str} (F : Fun K x qual st f fd) (hl : ps.length = 5) (h : ∀ (kV doc pm : Value) (an : Option Addr) (cdv ct : Value) (a b c d g : Value), bindArgs (PySem.W.fnOf x qual (defArgs st) (defBody st) (defScope st) .none kV doc pm an cdv ct) ⟨[a, b, c, d, g], []⟩ = pure (ps.zip [a, b, c, d, g])) : Binds K fd ps [] := F.binds fun kV doc pm an cdv ct us e => by
  rw [hl] at e
  match us, e with
  | [a, b, c, d, g], _ => exact h kV doc pm an cdv ct a b c d g
def top (i : Nat) : Stmt := PySem.Challenge.pw_leafsay_k22_what_fits.main.body.getD i (.Pass ⟨0, 0, 0, 0⟩)
abbrev s_qrowof : Stmt := top 13
abbrev s_qformrow : Stmt := top 14
abbrev s_qpaths : Stmt := top 18
abbrev s_qchecktreesize : Stmt := top 19
abbrev s_qformof : Stmt := top 20
abbrev s_qfittingsign : Stmt := top 21
abbrev s_qsignof : Stmt := top 22
abbrev s_qdeck : Stmt := top 24
abbrev s_qword : Stmt := top 25
abbrev s_qfresh : Stmt := top 26
abbrev s_qnodes : Stmt := top 27
abbrev s_qsigns : Stmt := top 28
abbrev s_qbase : Stmt := top 29
abbrev s_qform : Stmt := top 30
abbrev s_qgrammar : Stmt := top 31
abbrev s_qgrown : Stmt := top 32
abbrev s_qmany : Stmt := top 33
abbrev s_qdeep : Stmt := top 34
abbrev s_qreplaced : Stmt := top 35
abbrev s_qfaulty : Stmt := top 36
abbrev s_qrefused : Stmt := top 37
abbrev s_qlacking : Stmt := top 38
abbrev s_qsign : Stmt := top 39
abbrev s_law : Stmt := top 40
theorem sc_qrowof : FnScope ["rows", "name", "row"] ["rows", "name"] (defScope s_qrowof) := ⟨rfl, rfl, rfl, by decide +kernel, rfl, by decide +kernel, by decide +kernel⟩
theorem sc_qformrow : FnScope ["grammar", "name"] ["grammar", "name"] (defScope s_qformrow) := ⟨rfl, rfl, rfl, by decide +kernel, rfl, by decide +kernel, by decide +kernel⟩
theorem sc_qpaths : FnScope ["tree", "found", "k", "branch"] ["tree"] (defScope s_qpaths) := ⟨rfl, rfl, rfl, by decide +kernel, rfl, by decide +kernel, by decide +kernel⟩
theorem sc_qchecktreesize : FnScope ["tree", "all_paths"] ["tree"] (defScope s_qchecktreesize) := ⟨rfl, rfl, rfl, by decide +kernel, rfl, by decide +kernel, by decide +kernel⟩
theorem sc_qformof : FnScope ["grammar", "name"] ["grammar", "name"] (defScope s_qformof) := ⟨rfl, rfl, rfl, by decide +kernel, rfl, by decide +kernel, by decide +kernel⟩
theorem sc_qfittingsign : FnScope ["grammar", "tree", "form", "signs", "form_name"] ["grammar", "tree"] (defScope s_qfittingsign) := ⟨rfl, rfl, rfl, by decide +kernel, rfl, by decide +kernel, by decide +kernel⟩
theorem sc_qsignof : FnScope ["grammar", "tree"] ["grammar", "tree"] (defScope s_qsignof) := ⟨rfl, rfl, rfl, by decide +kernel, rfl, by decide +kernel, by decide +kernel⟩
theorem sc_qdeck : FnScope ["_law_script", "_law_many_here", "_law_found", "_law_seed", "_law_cell"] ["_law_script", "_law_many_here"] (defScope s_qdeck) := ⟨rfl, rfl, rfl, by decide +kernel, rfl, by decide +kernel, by decide +kernel⟩
theorem sc_qword : FnScope ["_law_cell", "_law_k", "_law_letters", "_law_long", "_law_at", "_law_fill"] ["_law_cell", "_law_k"] (defScope s_qword) := ⟨rfl, rfl, rfl, by decide +kernel, rfl, by decide +kernel, by decide +kernel⟩
theorem sc_qfresh : FnScope ["_law_used", "_law_near", "_law_cell", "_law_some", "_law_word_here"] ["_law_used", "_law_near", "_law_cell"] (defScope s_qfresh) := ⟨rfl, rfl, rfl, by decide +kernel, rfl, by decide +kernel, by decide +kernel⟩
theorem sc_qnodes : FnScope ["_law_tree", "_law_found", "_law_left", "_law_path", "_law_node", "_law_k"] ["_law_tree"] (defScope s_qnodes) := ⟨rfl, rfl, rfl, by decide +kernel, rfl, by decide +kernel, by decide +kernel⟩
theorem sc_qsigns : FnScope ["_law_deck_here", "_law_word_here", "_law_found", "_law_k", "_law_cell", "_law_downs", "_law_ups"] ["_law_deck_here"] (defScope s_qsigns) := ⟨rfl, rfl, rfl, by decide +kernel, rfl, by decide +kernel, by decide +kernel⟩
theorem sc_qbase : FnScope ["_law_kind"] ["_law_kind"] (defScope s_qbase) := ⟨rfl, rfl, rfl, by decide +kernel, rfl, by decide +kernel, by decide +kernel⟩
theorem sc_qform : FnScope ["_law_signs_here", "_law_name", "_law_at", "_law_rules", "_law_up", "_law_kind", "_law_k", "_law_down"] ["_law_signs_here", "_law_name", "_law_at"] (defScope s_qform) := ⟨rfl, rfl, rfl, by decide +kernel, rfl, by decide +kernel, by decide +kernel⟩
theorem sc_qgrammar : FnScope ["_law_deck_here", "_law_signs_here", "_law_shapes", "_law_k", "_law_cell", "_law_word_here"] ["_law_deck_here"] (defScope s_qgrammar) := ⟨rfl, rfl, rfl, by decide +kernel, rfl, by decide +kernel, by decide +kernel⟩
theorem sc_qgrown : FnScope ["_law_grammar_here", "_law_sign_here", "_law_deck_here", "_law_room", "_law_level", "_law_some", "_law_cell", "_law_form_here", "_law_mark"] ["_law_grammar_here", "_law_sign_here", "_law_deck_here", "_law_room", "_law_level"] (defScope s_qgrown) := ⟨rfl, rfl, rfl, by decide +kernel, rfl, by decide +kernel, by decide +kernel⟩
theorem sc_qmany : FnScope ["_law_words", "_law_many_here", "_law_share", "_law_some"] ["_law_words", "_law_many_here"] (defScope s_qmany) := ⟨rfl, rfl, rfl, by decide +kernel, rfl, by decide +kernel, by decide +kernel⟩
theorem sc_qdeep : FnScope ["_law_words", "_law_level", "_law_cell", "_law_tree", "_law_k", "_law_some"] ["_law_words", "_law_level", "_law_cell"] (defScope s_qdeep) := ⟨rfl, rfl, rfl, by decide +kernel, rfl, by decide +kernel, by decide +kernel⟩
theorem sc_qreplaced : FnScope ["_law_tree", "_law_path", "_law_branch", "_law_some"] ["_law_tree", "_law_path", "_law_branch"] (defScope s_qreplaced) := ⟨rfl, rfl, rfl, by decide +kernel, rfl, by decide +kernel, by decide +kernel⟩
theorem sc_qfaulty : FnScope ["_law_grammar_here", "_law_tree", "_law_cell", "_law_some", "_law_path", "_law_node", "_law_names", "_law_form_here", "_law_others", "_law_unlike", "_law_branches", "_law_at"] ["_law_grammar_here", "_law_tree", "_law_cell"] (defScope s_qfaulty) := ⟨rfl, rfl, rfl, by decide +kernel, rfl, by decide +kernel, by decide +kernel⟩
theorem sc_qrefused : FnScope ["_law_grammar_here", "_law_tree", "_law_great", "_law_own", "error"] ["_law_grammar_here", "_law_tree", "_law_great"] (defScope s_qrefused) := ⟨rfl, rfl, rfl, by decide +kernel, rfl, by decide +kernel, by decide +kernel⟩
theorem sc_qlacking : FnScope ["_law_grammar_here", "_law_tree", "_law_cell", "_law_some", "_law_name"] ["_law_grammar_here", "_law_tree", "_law_cell"] (defScope s_qlacking) := ⟨rfl, rfl, rfl, by decide +kernel, rfl, by decide +kernel, by decide +kernel⟩
theorem sc_qsign : FnScope ["_law_grammar_here", "_law_tree", "_law_due", "_law_found"] ["_law_grammar_here", "_law_tree"] (defScope s_qsign) := ⟨rfl, rfl, rfl, by decide +kernel, rfl, by decide +kernel, by decide +kernel⟩
theorem sc_law : FnScope ["_law_script", "_law_deck_here", "_law_cell", "_law_grammar_here", "_law_many_here", "_law_words", "_law_root", "_law_small", "_law_edge", "_law_great", "_law_tree", "_law_odd"] ["_law_script"] (defScope s_law) := ⟨rfl, rfl, rfl, by decide +kernel, rfl, by decide +kernel, by decide +kernel⟩
structure Adr where
  qrowof : Addr
  d_qrowof : FuncData
  qformrow : Addr
  d_qformrow : FuncData
  qpaths : Addr
  d_qpaths : FuncData
  qchecktreesize : Addr
  d_qchecktreesize : FuncData
  qformof : Addr
  d_qformof : FuncData
  qfittingsign : Addr
  d_qfittingsign : FuncData
  qsignof : Addr
  d_qsignof : FuncData
  qdeck : Addr
  d_qdeck : FuncData
  qword : Addr
  d_qword : FuncData
  qfresh : Addr
  d_qfresh : FuncData
  qnodes : Addr
  d_qnodes : FuncData
  qsigns : Addr
  d_qsigns : FuncData
  qbase : Addr
  d_qbase : FuncData
  qform : Addr
  d_qform : FuncData
  qgrammar : Addr
  d_qgrammar : FuncData
  qgrown : Addr
  d_qgrown : FuncData
  qmany : Addr
  d_qmany : FuncData
  qdeep : Addr
  d_qdeep : FuncData
  qreplaced : Addr
  d_qreplaced : FuncData
  qfaulty : Addr
  d_qfaulty : FuncData
  qrefused : Addr
  d_qrefused : FuncData
  qlacking : Addr
  d_qlacking : FuncData
  qsign : Addr
  d_qsign : FuncData
  law : Addr
  d_law : FuncData
  t_MOST_NODES : Tok
  t_MOST_DEEP : Tok
  k_LeafError : Addr
  k_NoText : Addr
  k_TooGreat : Addr
  k_NoName : Addr
  k_NoRule : Addr
  k_NoKind : Addr
  k_NoTree : Addr
  k_NoPlace : Addr
  k_NoGiven : Addr
  k_NoWalk : Addr
  k_Ring : Addr
structure Tx (K : PySem.W.Frag) (mg : Str -> Option Value) (T : Adr) : Prop where
  F_qrowof : Fun K "row_of" "row_of" s_qrowof T.qrowof T.d_qrowof
  b_qrowof : Binds K T.d_qrowof ["rows", "name"] []
  m_qrowof : mg "row_of" = some (.ref T.qrowof)
  F_qformrow : Fun K "form_row" "form_row" s_qformrow T.qformrow T.d_qformrow
  b_qformrow : Binds K T.d_qformrow ["grammar", "name"] []
  m_qformrow : mg "form_row" = some (.ref T.qformrow)
  F_qpaths : Fun K "paths" "paths" s_qpaths T.qpaths T.d_qpaths
  b_qpaths : Binds K T.d_qpaths ["tree"] []
  m_qpaths : mg "paths" = some (.ref T.qpaths)
  F_qchecktreesize : Fun K "check_tree_size" "check_tree_size" s_qchecktreesize T.qchecktreesize T.d_qchecktreesize
  b_qchecktreesize : Binds K T.d_qchecktreesize ["tree"] []
  m_qchecktreesize : mg "check_tree_size" = some (.ref T.qchecktreesize)
  F_qformof : Fun K "form_of" "form_of" s_qformof T.qformof T.d_qformof
  b_qformof : Binds K T.d_qformof ["grammar", "name"] []
  m_qformof : mg "form_of" = some (.ref T.qformof)
  F_qfittingsign : Fun K "fitting_sign" "fitting_sign" s_qfittingsign T.qfittingsign T.d_qfittingsign
  b_qfittingsign : Binds K T.d_qfittingsign ["grammar", "tree"] []
  m_qfittingsign : mg "fitting_sign" = some (.ref T.qfittingsign)
  F_qsignof : Fun K "sign_of" "sign_of" s_qsignof T.qsignof T.d_qsignof
  b_qsignof : Binds K T.d_qsignof ["grammar", "tree"] []
  m_qsignof : mg "sign_of" = some (.ref T.qsignof)
  F_qdeck : Fun K "_law_deck" "_law_deck" s_qdeck T.qdeck T.d_qdeck
  b_qdeck : Binds K T.d_qdeck ["_law_script", "_law_many_here"] []
  m_qdeck : mg "_law_deck" = some (.ref T.qdeck)
  F_qword : Fun K "_law_word" "_law_word" s_qword T.qword T.d_qword
  b_qword : Binds K T.d_qword ["_law_cell", "_law_k"] []
  m_qword : mg "_law_word" = some (.ref T.qword)
  F_qfresh : Fun K "_law_fresh" "_law_fresh" s_qfresh T.qfresh T.d_qfresh
  b_qfresh : Binds K T.d_qfresh ["_law_used", "_law_near", "_law_cell"] []
  m_qfresh : mg "_law_fresh" = some (.ref T.qfresh)
  F_qnodes : Fun K "_law_nodes" "_law_nodes" s_qnodes T.qnodes T.d_qnodes
  b_qnodes : Binds K T.d_qnodes ["_law_tree"] []
  m_qnodes : mg "_law_nodes" = some (.ref T.qnodes)
  F_qsigns : Fun K "_law_signs" "_law_signs" s_qsigns T.qsigns T.d_qsigns
  b_qsigns : Binds K T.d_qsigns ["_law_deck_here"] []
  m_qsigns : mg "_law_signs" = some (.ref T.qsigns)
  F_qbase : Fun K "_law_base" "_law_base" s_qbase T.qbase T.d_qbase
  b_qbase : Binds K T.d_qbase ["_law_kind"] []
  m_qbase : mg "_law_base" = some (.ref T.qbase)
  F_qform : Fun K "_law_form" "_law_form" s_qform T.qform T.d_qform
  b_qform : Binds K T.d_qform ["_law_signs_here", "_law_name", "_law_at"] []
  m_qform : mg "_law_form" = some (.ref T.qform)
  F_qgrammar : Fun K "_law_grammar" "_law_grammar" s_qgrammar T.qgrammar T.d_qgrammar
  b_qgrammar : Binds K T.d_qgrammar ["_law_deck_here"] []
  m_qgrammar : mg "_law_grammar" = some (.ref T.qgrammar)
  F_qgrown : Fun K "_law_grown" "_law_grown" s_qgrown T.qgrown T.d_qgrown
  b_qgrown : Binds K T.d_qgrown ["_law_grammar_here", "_law_sign_here", "_law_deck_here", "_law_room", "_law_level"] []
  m_qgrown : mg "_law_grown" = some (.ref T.qgrown)
  F_qmany : Fun K "_law_many" "_law_many" s_qmany T.qmany T.d_qmany
  b_qmany : Binds K T.d_qmany ["_law_words", "_law_many_here"] []
  m_qmany : mg "_law_many" = some (.ref T.qmany)
  F_qdeep : Fun K "_law_deep" "_law_deep" s_qdeep T.qdeep T.d_qdeep
  b_qdeep : Binds K T.d_qdeep ["_law_words", "_law_level", "_law_cell"] []
  m_qdeep : mg "_law_deep" = some (.ref T.qdeep)
  F_qreplaced : Fun K "_law_replaced" "_law_replaced" s_qreplaced T.qreplaced T.d_qreplaced
  b_qreplaced : Binds K T.d_qreplaced ["_law_tree", "_law_path", "_law_branch"] []
  m_qreplaced : mg "_law_replaced" = some (.ref T.qreplaced)
  F_qfaulty : Fun K "_law_faulty" "_law_faulty" s_qfaulty T.qfaulty T.d_qfaulty
  b_qfaulty : Binds K T.d_qfaulty ["_law_grammar_here", "_law_tree", "_law_cell"] []
  m_qfaulty : mg "_law_faulty" = some (.ref T.qfaulty)
  F_qrefused : Fun K "_law_refused" "_law_refused" s_qrefused T.qrefused T.d_qrefused
  b_qrefused : Binds K T.d_qrefused ["_law_grammar_here", "_law_tree", "_law_great"] []
  m_qrefused : mg "_law_refused" = some (.ref T.qrefused)
  F_qlacking : Fun K "_law_lacking" "_law_lacking" s_qlacking T.qlacking T.d_qlacking
  b_qlacking : Binds K T.d_qlacking ["_law_grammar_here", "_law_tree", "_law_cell"] []
  m_qlacking : mg "_law_lacking" = some (.ref T.qlacking)
  F_qsign : Fun K "_law_sign" "_law_sign" s_qsign T.qsign T.d_qsign
  b_qsign : Binds K T.d_qsign ["_law_grammar_here", "_law_tree"] []
  m_qsign : mg "_law_sign" = some (.ref T.qsign)
  F_law : Fun K "law" "law" s_law T.law T.d_law
  b_law : Binds K T.d_law ["_law_script"] []
  m_law : mg "law" = some (.ref T.law)
  z_ValueError : mg "ValueError" = none
  z_enumerate : mg "enumerate" = none
  z_isinstance : mg "isinstance" = none
  z_len : mg "len" = none
  z_list : mg "list" = none
  z_max : mg "max" = none
  z_range : mg "range" = none
  z_reversed : mg "reversed" = none
  z_str : mg "str" = none
  z_tuple : mg "tuple" = none
  c_MOST_NODES : mg "MOST_NODES" = some (.int 60 T.t_MOST_NODES)
  c_MOST_DEEP : mg "MOST_DEEP" = some (.int 20 T.t_MOST_DEEP)
  m_LeafError : mg "LeafError" = some (.ref T.k_LeafError)
  e_LeafError : ExcC K T.k_LeafError
  m_NoText : mg "NoText" = some (.ref T.k_NoText)
  m_TooGreat : mg "TooGreat" = some (.ref T.k_TooGreat)
  e_TooGreat : ExcC K T.k_TooGreat
  x_TooGreat : XCls K T.k_TooGreat
  u_TooGreat_LeafError : PySem.W.mroIn K T.k_TooGreat (.ref T.k_LeafError) = some true
  u_TooGreat_NoName : PySem.W.mroIn K T.k_TooGreat (.ref T.k_NoName) = some false
  i_TooGreat_0 : PySem.W.kitOne K (.ref T.k_TooGreat) (.ref T.k_NoTree) = some false
  i_TooGreat_1 : PySem.W.kitOne K (.ref T.k_TooGreat) (.ref T.k_TooGreat) = some true
  i_TooGreat_2 : PySem.W.kitOne K (.ref T.k_TooGreat) (.type "ValueError") = some true
  i_TooGreat_3 : PySem.W.kitAny K (.ref T.k_TooGreat) [.ref T.k_NoText, .ref T.k_NoName, .ref T.k_NoRule, .ref T.k_NoKind, .ref T.k_NoPlace, .ref T.k_NoGiven, .ref T.k_NoWalk, .ref T.k_Ring] = some false
  m_NoName : mg "NoName" = some (.ref T.k_NoName)
  e_NoName : ExcC K T.k_NoName
  x_NoName : XCls K T.k_NoName
  u_NoName_LeafError : PySem.W.mroIn K T.k_NoName (.ref T.k_LeafError) = some true
  u_NoName_NoName : PySem.W.mroIn K T.k_NoName (.ref T.k_NoName) = some true
  i_NoName_0 : PySem.W.kitOne K (.ref T.k_NoName) (.ref T.k_NoTree) = some false
  i_NoName_1 : PySem.W.kitOne K (.ref T.k_NoName) (.ref T.k_TooGreat) = some false
  i_NoName_2 : PySem.W.kitOne K (.ref T.k_NoName) (.type "ValueError") = some true
  i_NoName_3 : PySem.W.kitAny K (.ref T.k_NoName) [.ref T.k_NoText, .ref T.k_NoName, .ref T.k_NoRule, .ref T.k_NoKind, .ref T.k_NoPlace, .ref T.k_NoGiven, .ref T.k_NoWalk, .ref T.k_Ring] = some true
  m_NoRule : mg "NoRule" = some (.ref T.k_NoRule)
  m_NoKind : mg "NoKind" = some (.ref T.k_NoKind)
  m_NoTree : mg "NoTree" = some (.ref T.k_NoTree)
  e_NoTree : ExcC K T.k_NoTree
  x_NoTree : XCls K T.k_NoTree
  u_NoTree_LeafError : PySem.W.mroIn K T.k_NoTree (.ref T.k_LeafError) = some true
  u_NoTree_NoName : PySem.W.mroIn K T.k_NoTree (.ref T.k_NoName) = some false
  i_NoTree_0 : PySem.W.kitOne K (.ref T.k_NoTree) (.ref T.k_NoTree) = some true
  i_NoTree_1 : PySem.W.kitOne K (.ref T.k_NoTree) (.ref T.k_TooGreat) = some false
  i_NoTree_2 : PySem.W.kitOne K (.ref T.k_NoTree) (.type "ValueError") = some true
  i_NoTree_3 : PySem.W.kitAny K (.ref T.k_NoTree) [.ref T.k_NoText, .ref T.k_NoName, .ref T.k_NoRule, .ref T.k_NoKind, .ref T.k_NoPlace, .ref T.k_NoGiven, .ref T.k_NoWalk, .ref T.k_Ring] = some false
  m_NoPlace : mg "NoPlace" = some (.ref T.k_NoPlace)
  m_NoGiven : mg "NoGiven" = some (.ref T.k_NoGiven)
  m_NoWalk : mg "NoWalk" = some (.ref T.k_NoWalk)
  m_Ring : mg "Ring" = some (.ref T.k_Ring)
theorem tx_mk {K : PySem.W.Frag} {h : Heap} {mg : Str -> Option Value} (X : K.In h) (G : h.Ns mainGlobals mg) {f0 f1 f2 f3 f4 f5 f6 f7 f8 f9 f10 f11 f12 f13 f14 f15 f16 f17 f18 f19 f20 f21 f22 f23 : Addr} {od0 an0 od1 an1 od2 an2 od3 an3 od4 an4 od5 an5 od6 an6 od7 an7 od8 an8 od9 an9 od10 an10 od11 an11 od12 an12 od13 an13 od14 an14 od15 an15 od16 an16 od17 an17 od18 an18 od19 an19 od20 an20 od21 an21 od22 an22 od23 an23 : Option Addr} {sl0 sl1 sl2 sl3 sl4 sl5 sl6 sl7 sl8 sl9 sl10 sl11 sl12 sl13 sl14 sl15 sl16 sl17 sl18 sl19 sl20 sl21 sl22 sl23 : Array (Option Value)}
    {oc0 kV0 dc0 pm0 cd0 ct0 oc1 kV1 dc1 pm1 cd1 ct1 oc2 kV2 dc2 pm2 cd2 ct2 oc3 kV3 dc3 pm3 cd3 ct3 oc4 kV4 dc4 pm4 cd4 ct4 oc5 kV5 dc5 pm5 cd5 ct5 oc6 kV6 dc6 pm6 cd6 ct6 oc7 kV7 dc7 pm7 cd7 ct7 oc8 kV8 dc8 pm8 cd8 ct8 oc9 kV9 dc9 pm9 cd9 ct9 oc10 kV10 dc10 pm10 cd10 ct10 oc11 kV11 dc11 pm11 cd11 ct11 oc12 kV12 dc12 pm12 cd12 ct12 oc13 kV13 dc13 pm13 cd13 ct13 oc14 kV14 dc14 pm14 cd14 ct14 oc15 kV15 dc15 pm15 cd15 ct15 oc16 kV16 dc16 pm16 cd16 ct16 oc17 kV17 dc17 pm17 cd17 ct17 oc18 kV18 dc18 pm18 cd18 ct18 oc19 kV19 dc19 pm19 cd19 ct19 oc20 kV20 dc20 pm20 cd20 ct20 oc21 kV21 dc21 pm21 cd21 ct21 oc22 kV22 dc22 pm22 cd22 ct22 oc23 kV23 dc23 pm23 cd23 ct23 : Value} {t_MOST_NODES t_MOST_DEEP : Tok}
    {k_LeafError k_NoText k_TooGreat k_NoName k_NoRule k_NoKind k_NoTree k_NoPlace k_NoGiven k_NoWalk k_Ring : Addr}
    (m_LeafError : PySem.W.nsIn K mainGlobals "LeafError" = some (some (.ref k_LeafError)))
    (m_NoText : PySem.W.nsIn K mainGlobals "NoText" = some (some (.ref k_NoText)))
    (m_TooGreat : PySem.W.nsIn K mainGlobals "TooGreat" = some (some (.ref k_TooGreat)))
    (m_NoName : PySem.W.nsIn K mainGlobals "NoName" = some (some (.ref k_NoName)))
    (m_NoRule : PySem.W.nsIn K mainGlobals "NoRule" = some (some (.ref k_NoRule)))
    (m_NoKind : PySem.W.nsIn K mainGlobals "NoKind" = some (some (.ref k_NoKind)))
    (m_NoTree : PySem.W.nsIn K mainGlobals "NoTree" = some (some (.ref k_NoTree)))
    (m_NoPlace : PySem.W.nsIn K mainGlobals "NoPlace" = some (some (.ref k_NoPlace)))
    (m_NoGiven : PySem.W.nsIn K mainGlobals "NoGiven" = some (some (.ref k_NoGiven)))
    (m_NoWalk : PySem.W.nsIn K mainGlobals "NoWalk" = some (some (.ref k_NoWalk)))
    (m_Ring : PySem.W.nsIn K mainGlobals "Ring" = some (some (.ref k_Ring)))
    (a0 : PySem.W.nsIn K mainGlobals "row_of" = some (some (.ref f0))) (l0 : K.lookup f0 = some ⟨oc0, od0, .func (PySem.W.fnOf "row_of" "row_of" (defArgs s_qrowof) (defBody s_qrowof) (defScope s_qrowof) .none kV0 dc0 pm0 an0 cd0 ct0), sl0⟩) (c0 : PySem.W.codeIn K cd0 "row_of" = true) (k0 : PySem.W.keepIn K (.ref f0) = true)
    (a1 : PySem.W.nsIn K mainGlobals "form_row" = some (some (.ref f1))) (l1 : K.lookup f1 = some ⟨oc1, od1, .func (PySem.W.fnOf "form_row" "form_row" (defArgs s_qformrow) (defBody s_qformrow) (defScope s_qformrow) .none kV1 dc1 pm1 an1 cd1 ct1), sl1⟩) (c1 : PySem.W.codeIn K cd1 "form_row" = true) (k1 : PySem.W.keepIn K (.ref f1) = true)
    (a2 : PySem.W.nsIn K mainGlobals "paths" = some (some (.ref f2))) (l2 : K.lookup f2 = some ⟨oc2, od2, .func (PySem.W.fnOf "paths" "paths" (defArgs s_qpaths) (defBody s_qpaths) (defScope s_qpaths) .none kV2 dc2 pm2 an2 cd2 ct2), sl2⟩) (c2 : PySem.W.codeIn K cd2 "paths" = true) (k2 : PySem.W.keepIn K (.ref f2) = true)
    (a3 : PySem.W.nsIn K mainGlobals "check_tree_size" = some (some (.ref f3))) (l3 : K.lookup f3 = some ⟨oc3, od3, .func (PySem.W.fnOf "check_tree_size" "check_tree_size" (defArgs s_qchecktreesize) (defBody s_qchecktreesize) (defScope s_qchecktreesize) .none kV3 dc3 pm3 an3 cd3 ct3), sl3⟩) (c3 : PySem.W.codeIn K cd3 "check_tree_size" = true) (k3 : PySem.W.keepIn K (.ref f3) = true)
    (a4 : PySem.W.nsIn K mainGlobals "form_of" = some (some (.ref f4))) (l4 : K.lookup f4 = some ⟨oc4, od4, .func (PySem.W.fnOf "form_of" "form_of" (defArgs s_qformof) (defBody s_qformof) (defScope s_qformof) .none kV4 dc4 pm4 an4 cd4 ct4), sl4⟩) (c4 : PySem.W.codeIn K cd4 "form_of" = true) (k4 : PySem.W.keepIn K (.ref f4) = true)
    (a5 : PySem.W.nsIn K mainGlobals "fitting_sign" = some (some (.ref f5))) (l5 : K.lookup f5 = some ⟨oc5, od5, .func (PySem.W.fnOf "fitting_sign" "fitting_sign" (defArgs s_qfittingsign) (defBody s_qfittingsign) (defScope s_qfittingsign) .none kV5 dc5 pm5 an5 cd5 ct5), sl5⟩) (c5 : PySem.W.codeIn K cd5 "fitting_sign" = true) (k5 : PySem.W.keepIn K (.ref f5) = true)
    (a6 : PySem.W.nsIn K mainGlobals "sign_of" = some (some (.ref f6))) (l6 : K.lookup f6 = some ⟨oc6, od6, .func (PySem.W.fnOf "sign_of" "sign_of" (defArgs s_qsignof) (defBody s_qsignof) (defScope s_qsignof) .none kV6 dc6 pm6 an6 cd6 ct6), sl6⟩) (c6 : PySem.W.codeIn K cd6 "sign_of" = true) (k6 : PySem.W.keepIn K (.ref f6) = true)
    (a7 : PySem.W.nsIn K mainGlobals "_law_deck" = some (some (.ref f7))) (l7 : K.lookup f7 = some ⟨oc7, od7, .func (PySem.W.fnOf "_law_deck" "_law_deck" (defArgs s_qdeck) (defBody s_qdeck) (defScope s_qdeck) .none kV7 dc7 pm7 an7 cd7 ct7), sl7⟩) (c7 : PySem.W.codeIn K cd7 "_law_deck" = true) (k7 : PySem.W.keepIn K (.ref f7) = true)
    (a8 : PySem.W.nsIn K mainGlobals "_law_word" = some (some (.ref f8))) (l8 : K.lookup f8 = some ⟨oc8, od8, .func (PySem.W.fnOf "_law_word" "_law_word" (defArgs s_qword) (defBody s_qword) (defScope s_qword) .none kV8 dc8 pm8 an8 cd8 ct8), sl8⟩) (c8 : PySem.W.codeIn K cd8 "_law_word" = true) (k8 : PySem.W.keepIn K (.ref f8) = true)
    (a9 : PySem.W.nsIn K mainGlobals "_law_fresh" = some (some (.ref f9))) (l9 : K.lookup f9 = some ⟨oc9, od9, .func (PySem.W.fnOf "_law_fresh" "_law_fresh" (defArgs s_qfresh) (defBody s_qfresh) (defScope s_qfresh) .none kV9 dc9 pm9 an9 cd9 ct9), sl9⟩) (c9 : PySem.W.codeIn K cd9 "_law_fresh" = true) (k9 : PySem.W.keepIn K (.ref f9) = true)
    (a10 : PySem.W.nsIn K mainGlobals "_law_nodes" = some (some (.ref f10))) (l10 : K.lookup f10 = some ⟨oc10, od10, .func (PySem.W.fnOf "_law_nodes" "_law_nodes" (defArgs s_qnodes) (defBody s_qnodes) (defScope s_qnodes) .none kV10 dc10 pm10 an10 cd10 ct10), sl10⟩) (c10 : PySem.W.codeIn K cd10 "_law_nodes" = true) (k10 : PySem.W.keepIn K (.ref f10) = true)
    (a11 : PySem.W.nsIn K mainGlobals "_law_signs" = some (some (.ref f11))) (l11 : K.lookup f11 = some ⟨oc11, od11, .func (PySem.W.fnOf "_law_signs" "_law_signs" (defArgs s_qsigns) (defBody s_qsigns) (defScope s_qsigns) .none kV11 dc11 pm11 an11 cd11 ct11), sl11⟩) (c11 : PySem.W.codeIn K cd11 "_law_signs" = true) (k11 : PySem.W.keepIn K (.ref f11) = true)
    (a12 : PySem.W.nsIn K mainGlobals "_law_base" = some (some (.ref f12))) (l12 : K.lookup f12 = some ⟨oc12, od12, .func (PySem.W.fnOf "_law_base" "_law_base" (defArgs s_qbase) (defBody s_qbase) (defScope s_qbase) .none kV12 dc12 pm12 an12 cd12 ct12), sl12⟩) (c12 : PySem.W.codeIn K cd12 "_law_base" = true) (k12 : PySem.W.keepIn K (.ref f12) = true)
    (a13 : PySem.W.nsIn K mainGlobals "_law_form" = some (some (.ref f13))) (l13 : K.lookup f13 = some ⟨oc13, od13, .func (PySem.W.fnOf "_law_form" "_law_form" (defArgs s_qform) (defBody s_qform) (defScope s_qform) .none kV13 dc13 pm13 an13 cd13 ct13), sl13⟩) (c13 : PySem.W.codeIn K cd13 "_law_form" = true) (k13 : PySem.W.keepIn K (.ref f13) = true)
    (a14 : PySem.W.nsIn K mainGlobals "_law_grammar" = some (some (.ref f14))) (l14 : K.lookup f14 = some ⟨oc14, od14, .func (PySem.W.fnOf "_law_grammar" "_law_grammar" (defArgs s_qgrammar) (defBody s_qgrammar) (defScope s_qgrammar) .none kV14 dc14 pm14 an14 cd14 ct14), sl14⟩) (c14 : PySem.W.codeIn K cd14 "_law_grammar" = true) (k14 : PySem.W.keepIn K (.ref f14) = true)
    (a15 : PySem.W.nsIn K mainGlobals "_law_grown" = some (some (.ref f15))) (l15 : K.lookup f15 = some ⟨oc15, od15, .func (PySem.W.fnOf "_law_grown" "_law_grown" (defArgs s_qgrown) (defBody s_qgrown) (defScope s_qgrown) .none kV15 dc15 pm15 an15 cd15 ct15), sl15⟩) (c15 : PySem.W.codeIn K cd15 "_law_grown" = true) (k15 : PySem.W.keepIn K (.ref f15) = true)
    (a16 : PySem.W.nsIn K mainGlobals "_law_many" = some (some (.ref f16))) (l16 : K.lookup f16 = some ⟨oc16, od16, .func (PySem.W.fnOf "_law_many" "_law_many" (defArgs s_qmany) (defBody s_qmany) (defScope s_qmany) .none kV16 dc16 pm16 an16 cd16 ct16), sl16⟩) (c16 : PySem.W.codeIn K cd16 "_law_many" = true) (k16 : PySem.W.keepIn K (.ref f16) = true)
    (a17 : PySem.W.nsIn K mainGlobals "_law_deep" = some (some (.ref f17))) (l17 : K.lookup f17 = some ⟨oc17, od17, .func (PySem.W.fnOf "_law_deep" "_law_deep" (defArgs s_qdeep) (defBody s_qdeep) (defScope s_qdeep) .none kV17 dc17 pm17 an17 cd17 ct17), sl17⟩) (c17 : PySem.W.codeIn K cd17 "_law_deep" = true) (k17 : PySem.W.keepIn K (.ref f17) = true)
    (a18 : PySem.W.nsIn K mainGlobals "_law_replaced" = some (some (.ref f18))) (l18 : K.lookup f18 = some ⟨oc18, od18, .func (PySem.W.fnOf "_law_replaced" "_law_replaced" (defArgs s_qreplaced) (defBody s_qreplaced) (defScope s_qreplaced) .none kV18 dc18 pm18 an18 cd18 ct18), sl18⟩) (c18 : PySem.W.codeIn K cd18 "_law_replaced" = true) (k18 : PySem.W.keepIn K (.ref f18) = true)
    (a19 : PySem.W.nsIn K mainGlobals "_law_faulty" = some (some (.ref f19))) (l19 : K.lookup f19 = some ⟨oc19, od19, .func (PySem.W.fnOf "_law_faulty" "_law_faulty" (defArgs s_qfaulty) (defBody s_qfaulty) (defScope s_qfaulty) .none kV19 dc19 pm19 an19 cd19 ct19), sl19⟩) (c19 : PySem.W.codeIn K cd19 "_law_faulty" = true) (k19 : PySem.W.keepIn K (.ref f19) = true)
    (a20 : PySem.W.nsIn K mainGlobals "_law_refused" = some (some (.ref f20))) (l20 : K.lookup f20 = some ⟨oc20, od20, .func (PySem.W.fnOf "_law_refused" "_law_refused" (defArgs s_qrefused) (defBody s_qrefused) (defScope s_qrefused) .none kV20 dc20 pm20 an20 cd20 ct20), sl20⟩) (c20 : PySem.W.codeIn K cd20 "_law_refused" = true) (k20 : PySem.W.keepIn K (.ref f20) = true)
    (a21 : PySem.W.nsIn K mainGlobals "_law_lacking" = some (some (.ref f21))) (l21 : K.lookup f21 = some ⟨oc21, od21, .func (PySem.W.fnOf "_law_lacking" "_law_lacking" (defArgs s_qlacking) (defBody s_qlacking) (defScope s_qlacking) .none kV21 dc21 pm21 an21 cd21 ct21), sl21⟩) (c21 : PySem.W.codeIn K cd21 "_law_lacking" = true) (k21 : PySem.W.keepIn K (.ref f21) = true)
    (a22 : PySem.W.nsIn K mainGlobals "_law_sign" = some (some (.ref f22))) (l22 : K.lookup f22 = some ⟨oc22, od22, .func (PySem.W.fnOf "_law_sign" "_law_sign" (defArgs s_qsign) (defBody s_qsign) (defScope s_qsign) .none kV22 dc22 pm22 an22 cd22 ct22), sl22⟩) (c22 : PySem.W.codeIn K cd22 "_law_sign" = true) (k22 : PySem.W.keepIn K (.ref f22) = true)
    (a23 : PySem.W.nsIn K mainGlobals "law" = some (some (.ref f23))) (l23 : K.lookup f23 = some ⟨oc23, od23, .func (PySem.W.fnOf "law" "law" (defArgs s_law) (defBody s_law) (defScope s_law) .none kV23 dc23 pm23 an23 cd23 ct23), sl23⟩) (c23 : PySem.W.codeIn K cd23 "law" = true) (k23 : PySem.W.keepIn K (.ref f23) = true)
    (z_ValueError : PySem.W.nsIn K mainGlobals "ValueError" = some none)
    (z_enumerate : PySem.W.nsIn K mainGlobals "enumerate" = some none)
    (z_isinstance : PySem.W.nsIn K mainGlobals "isinstance" = some none)
    (z_len : PySem.W.nsIn K mainGlobals "len" = some none)
    (z_list : PySem.W.nsIn K mainGlobals "list" = some none)
    (z_max : PySem.W.nsIn K mainGlobals "max" = some none)
    (z_range : PySem.W.nsIn K mainGlobals "range" = some none)
    (z_reversed : PySem.W.nsIn K mainGlobals "reversed" = some none)
    (z_str : PySem.W.nsIn K mainGlobals "str" = some none)
    (z_tuple : PySem.W.nsIn K mainGlobals "tuple" = some none)
    (c_MOST_NODES : PySem.W.nsIn K mainGlobals "MOST_NODES" = some (some (.int 60 t_MOST_NODES)))
    (c_MOST_DEEP : PySem.W.nsIn K mainGlobals "MOST_DEEP" = some (some (.int 20 t_MOST_DEEP)))
    (e_LeafError : PySem.W.excIn K k_LeafError vbm "ValueError.__new__" = true)
    (e_TooGreat : PySem.W.excIn K k_TooGreat vbm "ValueError.__new__" = true)
    (xga_TooGreat : PySem.W.findIn K (.ref k_TooGreat) "__getattribute__" = some (some (.builtin "BaseException.__getattribute__")))
    (xgt_TooGreat : PySem.W.findIn K (.ref k_TooGreat) "__getattr__" = some none)
    (xca_TooGreat : PySem.W.findIn K (.ref k_TooGreat) "__class__" = some (some (.builtin "object.__class__")))
    (xsp_TooGreat : PySem.W.specialIn K (.builtin "object.__class__") "__get__" = some (some (.builtin "getset_descriptor.__get__")))
    (xtk_TooGreat : PySem.W.takesIn K (.builtin "object.__class__") = some true)
    (xmo_TooGreat : PySem.W.mroIn K k_TooGreat (.type "object") = some true)
    (xmb_TooGreat : PySem.W.mroIn K k_TooGreat (.type "BaseException") = some true)
    (u_TooGreat_LeafError : PySem.W.mroIn K k_TooGreat (.ref k_LeafError) = some true)
    (u_TooGreat_NoName : PySem.W.mroIn K k_TooGreat (.ref k_NoName) = some false)
    (i_TooGreat_0 : PySem.W.kitOne K (.ref k_TooGreat) (.ref k_NoTree) = some false)
    (i_TooGreat_1 : PySem.W.kitOne K (.ref k_TooGreat) (.ref k_TooGreat) = some true)
    (i_TooGreat_2 : PySem.W.kitOne K (.ref k_TooGreat) (.type "ValueError") = some true)
    (i_TooGreat_3 : PySem.W.kitAny K (.ref k_TooGreat) [.ref k_NoText, .ref k_NoName, .ref k_NoRule, .ref k_NoKind, .ref k_NoPlace, .ref k_NoGiven, .ref k_NoWalk, .ref k_Ring] = some false)
    (e_NoName : PySem.W.excIn K k_NoName vbm "ValueError.__new__" = true)
    (xga_NoName : PySem.W.findIn K (.ref k_NoName) "__getattribute__" = some (some (.builtin "BaseException.__getattribute__")))
    (xgt_NoName : PySem.W.findIn K (.ref k_NoName) "__getattr__" = some none)
    (xca_NoName : PySem.W.findIn K (.ref k_NoName) "__class__" = some (some (.builtin "object.__class__")))
    (xsp_NoName : PySem.W.specialIn K (.builtin "object.__class__") "__get__" = some (some (.builtin "getset_descriptor.__get__")))
    (xtk_NoName : PySem.W.takesIn K (.builtin "object.__class__") = some true)
    (xmo_NoName : PySem.W.mroIn K k_NoName (.type "object") = some true)
    (xmb_NoName : PySem.W.mroIn K k_NoName (.type "BaseException") = some true)
    (u_NoName_LeafError : PySem.W.mroIn K k_NoName (.ref k_LeafError) = some true)
    (u_NoName_NoName : PySem.W.mroIn K k_NoName (.ref k_NoName) = some true)
    (i_NoName_0 : PySem.W.kitOne K (.ref k_NoName) (.ref k_NoTree) = some false)
    (i_NoName_1 : PySem.W.kitOne K (.ref k_NoName) (.ref k_TooGreat) = some false)
    (i_NoName_2 : PySem.W.kitOne K (.ref k_NoName) (.type "ValueError") = some true)
    (i_NoName_3 : PySem.W.kitAny K (.ref k_NoName) [.ref k_NoText, .ref k_NoName, .ref k_NoRule, .ref k_NoKind, .ref k_NoPlace, .ref k_NoGiven, .ref k_NoWalk, .ref k_Ring] = some true)
    (e_NoTree : PySem.W.excIn K k_NoTree vbm "ValueError.__new__" = true)
    (xga_NoTree : PySem.W.findIn K (.ref k_NoTree) "__getattribute__" = some (some (.builtin "BaseException.__getattribute__")))
    (xgt_NoTree : PySem.W.findIn K (.ref k_NoTree) "__getattr__" = some none)
    (xca_NoTree : PySem.W.findIn K (.ref k_NoTree) "__class__" = some (some (.builtin "object.__class__")))
    (xsp_NoTree : PySem.W.specialIn K (.builtin "object.__class__") "__get__" = some (some (.builtin "getset_descriptor.__get__")))
    (xtk_NoTree : PySem.W.takesIn K (.builtin "object.__class__") = some true)
    (xmo_NoTree : PySem.W.mroIn K k_NoTree (.type "object") = some true)
    (xmb_NoTree : PySem.W.mroIn K k_NoTree (.type "BaseException") = some true)
    (u_NoTree_LeafError : PySem.W.mroIn K k_NoTree (.ref k_LeafError) = some true)
    (u_NoTree_NoName : PySem.W.mroIn K k_NoTree (.ref k_NoName) = some false)
    (i_NoTree_0 : PySem.W.kitOne K (.ref k_NoTree) (.ref k_NoTree) = some true)
    (i_NoTree_1 : PySem.W.kitOne K (.ref k_NoTree) (.ref k_TooGreat) = some false)
    (i_NoTree_2 : PySem.W.kitOne K (.ref k_NoTree) (.type "ValueError") = some true)
    (i_NoTree_3 : PySem.W.kitAny K (.ref k_NoTree) [.ref k_NoText, .ref k_NoName, .ref k_NoRule, .ref k_NoKind, .ref k_NoPlace, .ref k_NoGiven, .ref k_NoWalk, .ref k_Ring] = some false)
    : ∃ T : Adr, Tx K mg T := by
  have F0 := fun_mk (st := s_qrowof) l0 c0 k0
  have F1 := fun_mk (st := s_qformrow) l1 c1 k1
  have F2 := fun_mk (st := s_qpaths) l2 c2 k2
  have F3 := fun_mk (st := s_qchecktreesize) l3 c3 k3
  have F4 := fun_mk (st := s_qformof) l4 c4 k4
  have F5 := fun_mk (st := s_qfittingsign) l5 c5 k5
  have F6 := fun_mk (st := s_qsignof) l6 c6 k6
  have F7 := fun_mk (st := s_qdeck) l7 c7 k7
  have F8 := fun_mk (st := s_qword) l8 c8 k8
  have F9 := fun_mk (st := s_qfresh) l9 c9 k9
  have F10 := fun_mk (st := s_qnodes) l10 c10 k10
  have F11 := fun_mk (st := s_qsigns) l11 c11 k11
  have F12 := fun_mk (st := s_qbase) l12 c12 k12
  have F13 := fun_mk (st := s_qform) l13 c13 k13
  have F14 := fun_mk (st := s_qgrammar) l14 c14 k14
  have F15 := fun_mk (st := s_qgrown) l15 c15 k15
  have F16 := fun_mk (st := s_qmany) l16 c16 k16
  have F17 := fun_mk (st := s_qdeep) l17 c17 k17
  have F18 := fun_mk (st := s_qreplaced) l18 c18 k18
  have F19 := fun_mk (st := s_qfaulty) l19 c19 k19
  have F20 := fun_mk (st := s_qrefused) l20 c20 k20
  have F21 := fun_mk (st := s_qlacking) l21 c21 k21
  have F22 := fun_mk (st := s_qsign) l22 c22 k22
  have F23 := fun_mk (st := s_law) l23 c23 k23
  exact ⟨⟨f0, _, f1, _, f2, _, f3, _, f4, _, f5, _, f6, _, f7, _, f8, _, f9, _, f10, _, f11, _, f12, _, f13, _, f14, _, f15, _, f16, _, f17, _, f18, _, f19, _, f20, _, f21, _, f22, _, f23, _, t_MOST_NODES, t_MOST_DEEP, k_LeafError, k_NoText, k_TooGreat, k_NoName, k_NoRule, k_NoKind, k_NoTree, k_NoPlace, k_NoGiven, k_NoWalk, k_Ring⟩, ⟨F0, bd2 (ps := ["rows", "name"]) F0 rfl (fun _ _ _ _ _ _ _ _ => rfl), PySem.W.mg_of X G a0, F1, bd2 (ps := ["grammar", "name"]) F1 rfl (fun _ _ _ _ _ _ _ _ => rfl), PySem.W.mg_of X G a1, F2, bd1 (ps := ["tree"]) F2 rfl (fun _ _ _ _ _ _ _ => rfl), PySem.W.mg_of X G a2, F3, bd1 (ps := ["tree"]) F3 rfl (fun _ _ _ _ _ _ _ => rfl), PySem.W.mg_of X G a3, F4, bd2 (ps := ["grammar", "name"]) F4 rfl (fun _ _ _ _ _ _ _ _ => rfl), PySem.W.mg_of X G a4, F5, bd2 (ps := ["grammar", "tree"]) F5 rfl (fun _ _ _ _ _ _ _ _ => rfl), PySem.W.mg_of X G a5, F6, bd2 (ps := ["grammar", "tree"]) F6 rfl (fun _ _ _ _ _ _ _ _ => rfl), PySem.W.mg_of X G a6, F7, bd2 (ps := ["_law_script", "_law_many_here"]) F7 rfl (fun _ _ _ _ _ _ _ _ => rfl), PySem.W.mg_of X G a7, F8, bd2 (ps := ["_law_cell", "_law_k"]) F8 rfl (fun _ _ _ _ _ _ _ _ => rfl), PySem.W.mg_of X G a8, F9, bd3 (ps := ["_law_used", "_law_near", "_law_cell"]) F9 rfl (fun _ _ _ _ _ _ _ _ _ => rfl), PySem.W.mg_of X G a9, F10, bd1 (ps := ["_law_tree"]) F10 rfl (fun _ _ _ _ _ _ _ => rfl), PySem.W.mg_of X G a10, F11, bd1 (ps := ["_law_deck_here"]) F11 rfl (fun _ _ _ _ _ _ _ => rfl), PySem.W.mg_of X G a11, F12, bd1 (ps := ["_law_kind"]) F12 rfl (fun _ _ _ _ _ _ _ => rfl), PySem.W.mg_of X G a12, F13, bd3 (ps := ["_law_signs_here", "_law_name", "_law_at"]) F13 rfl (fun _ _ _ _ _ _ _ _ _ => rfl), PySem.W.mg_of X G a13, F14, bd1 (ps := ["_law_deck_here"]) F14 rfl (fun _ _ _ _ _ _ _ => rfl), PySem.W.mg_of X G a14, F15, bd5 (ps := ["_law_grammar_here", "_law_sign_here", "_law_deck_here", "_law_room", "_law_level"]) F15 rfl (fun _ _ _ _ _ _ _ _ _ _ _ => rfl), PySem.W.mg_of X G a15, F16, bd2 (ps := ["_law_words", "_law_many_here"]) F16 rfl (fun _ _ _ _ _ _ _ _ => rfl), PySem.W.mg_of X G a16, F17, bd3 (ps := ["_law_words", "_law_level", "_law_cell"]) F17 rfl (fun _ _ _ _ _ _ _ _ _ => rfl), PySem.W.mg_of X G a17, F18, bd3 (ps := ["_law_tree", "_law_path", "_law_branch"]) F18 rfl (fun _ _ _ _ _ _ _ _ _ => rfl), PySem.W.mg_of X G a18, F19, bd3 (ps := ["_law_grammar_here", "_law_tree", "_law_cell"]) F19 rfl (fun _ _ _ _ _ _ _ _ _ => rfl), PySem.W.mg_of X G a19, F20, bd3 (ps := ["_law_grammar_here", "_law_tree", "_law_great"]) F20 rfl (fun _ _ _ _ _ _ _ _ _ => rfl), PySem.W.mg_of X G a20, F21, bd3 (ps := ["_law_grammar_here", "_law_tree", "_law_cell"]) F21 rfl (fun _ _ _ _ _ _ _ _ _ => rfl), PySem.W.mg_of X G a21, F22, bd2 (ps := ["_law_grammar_here", "_law_tree"]) F22 rfl (fun _ _ _ _ _ _ _ _ => rfl), PySem.W.mg_of X G a22, F23, bd1 (ps := ["_law_script"]) F23 rfl (fun _ _ _ _ _ _ _ => rfl), PySem.W.mg_of X G a23, PySem.W.mg_none_of X G z_ValueError, PySem.W.mg_none_of X G z_enumerate, PySem.W.mg_none_of X G z_isinstance, PySem.W.mg_none_of X G z_len, PySem.W.mg_none_of X G z_list, PySem.W.mg_none_of X G z_max, PySem.W.mg_none_of X G z_range, PySem.W.mg_none_of X G z_reversed, PySem.W.mg_none_of X G z_str, PySem.W.mg_none_of X G z_tuple, PySem.W.mg_of X G c_MOST_NODES, PySem.W.mg_of X G c_MOST_DEEP, PySem.W.mg_of X G m_LeafError, e_LeafError, PySem.W.mg_of X G m_NoText, PySem.W.mg_of X G m_TooGreat, e_TooGreat, ⟨e_TooGreat, xga_TooGreat, xgt_TooGreat, xca_TooGreat, xsp_TooGreat, xtk_TooGreat, xmo_TooGreat, xmb_TooGreat⟩, u_TooGreat_LeafError, u_TooGreat_NoName, i_TooGreat_0, i_TooGreat_1, i_TooGreat_2, i_TooGreat_3, PySem.W.mg_of X G m_NoName, e_NoName, ⟨e_NoName, xga_NoName, xgt_NoName, xca_NoName, xsp_NoName, xtk_NoName, xmo_NoName, xmb_NoName⟩, u_NoName_LeafError, u_NoName_NoName, i_NoName_0, i_NoName_1, i_NoName_2, i_NoName_3, PySem.W.mg_of X G m_NoRule, PySem.W.mg_of X G m_NoKind, PySem.W.mg_of X G m_NoTree, e_NoTree, ⟨e_NoTree, xga_NoTree, xgt_NoTree, xca_NoTree, xsp_NoTree, xtk_NoTree, xmo_NoTree, xmb_NoTree⟩, u_NoTree_LeafError, u_NoTree_NoName, i_NoTree_0, i_NoTree_1, i_NoTree_2, i_NoTree_3, PySem.W.mg_of X G m_NoPlace, PySem.W.mg_of X G m_NoGiven, PySem.W.mg_of X G m_NoWalk, PySem.W.mg_of X G m_Ring⟩⟩
end K22
namespace K22
open PySem L2 TR
open TM 
theorem call_len_seqC {X : Cx} {K : PySem.W.Frag} (h : X.K = K) : CallR X (.builtin "len") (fun xs H Q => ∃ p ys, xs = [V.ref p] /\ (SqL K H p ys \/ SqT K H p ys) /\ Q (V.int ys.length) H) := h ▸ call_len_seq
theorem ne_of_none' {H : Hp} {a b : Addr} {o : HO} (h : H a = some o) (n : H b = none) : b ≠ a := fun z => by rw [z, h] at n; cases n
theorem app_len (a b : Str) : (a ++ b).length = a.length + b.length := by rw [len_list, len_list, len_list, app_list, List.length_append]
def TxOk (z : Str) : Prop := z.length <= 20000 /\ ∀ c ∈ z.cps.toList, c < 128
theorem shown_str {d : Str} (h : TxOk d) : (PyData.str d).shown.length <= 300000 := by
  have := PyData.shown_le_bulk 8 (by decide) (.str d) (by
    simp only [PyData.leavesShort, List.all_eq_true, decide_eq_true_eq]
    intro c hc
    have := h.2 c hc
    have e : (16 : Nat) ^ 8 = 4294967296 := by decide
    omega)
  have e : PyData.bulk (.str d) = d.cps.size := by simp only [PyData.bulk]
  have h3 : d.cps.size <= 20000 := h.1
  rw [e] at this
  omega
theorem ifS_by {c : TT} {t u : TS} {D : Ends} {σ : St} {H : Hp} (A B : Hp -> Prop) (hc : ∀ Q : Bool -> Hp -> Prop, (∀ H1, A H1 -> Q true H1) -> (∀ H1, B H1 -> Q false H1) -> c σ H Q) (h1 : ∀ H1, A H1 -> t D σ H1) (h2 : ∀ H1, B H1 -> u D σ H1) : tIfS c t u D σ H := by
  refine hc _ (fun H1 a => ?_) (fun H1 b => ?_)
  · exact iteT (h1 H1 a)
  · exact iteF (h2 H1 b)
theorem seq_ifS_by {c : TT} {t u rest : TS} {D : Ends} {σ : St} {H : Hp} (A B : Hp -> Prop) (hc : ∀ Q : Bool -> Hp -> Prop, (∀ H1, A H1 -> Q true H1) -> (∀ H1, B H1 -> Q false H1) -> c σ H Q) (h1 : ∀ H1, A H1 -> t { D with nx := rest D } σ H1) (h2 : ∀ H1, B H1 -> u { D with nx := rest D } σ H1) : tSeq (tIfS c t u) rest D σ H := ifS_by A B hc h1 h2
theorem iteNe {c A B : Prop} [Decidable c] (h1 : ¬ c -> A) (h2 : c -> B) : if (!decide c) = true then A else B := by
  by_cases h : c
  · rw [decide_eq_true h]
    exact iteF (h2 h)
  · rw [decide_eq_false h]
    exact iteT (h1 h)
def NmAt (H : Hp) (n : Str) (v : V) : Prop := ∃ p r, v = .ref p /\ H p = some (.tup (.str n :: r))
def spRow (N : Addr) : Sp := fun vs H Q E => ∃ (a : Addr) (nms : List Str) (us : List V) (n : Str), vs = [.ref a, .str n] /\ H a = some (.tup us) /\ L2R (NmAt H) nms us /\ TxOk n /\ nms.Nodup /\ ((∃ (i : Nat) (v : V), us[i]? = some v /\ nms[i]? = some n /\ Q v H) \/ (n ∉ nms /\ E (.ref N) none H))
def spFormRow (N : Addr) : Sp := fun vs H Q E => ∃ (g a : Addr) (y : V) (nms : List Str) (us : List V) (n : Str), vs = [.ref g, .str n] /\ H g = some (.tup [y, .ref a]) /\ H a = some (.tup us) /\ L2R (NmAt H) nms us /\ TxOk n /\ nms.Nodup /\ ((∃ (i : Nat) (v : V), us[i]? = some v /\ nms[i]? = some n /\ Q v H) \/ (n ∉ nms /\ E (.ref N) none H))
theorem nd_ix {α : Type} {l : List α} {i j : Nat} {x : α} (h : l.Nodup) (a : l[i]? = some x) (b : l[j]? = some x) : i = j := by
  obtain ⟨hi, ei⟩ := List.getElem?_eq_some_iff.mp a
  obtain ⟨hj, ej⟩ := List.getElem?_eq_some_iff.mp b
  have := List.pairwise_iff_getElem.mp h
  rcases Nat.lt_trichotomy i j with c | c | c
  · exact absurd (ei.trans ej.symm) (this i j hi hj c)
  · exact c
  · exact absurd (ej.trans ei.symm) (this j i hj hi c)
theorem hu_of {k : Nat} {A : Around} (r : Room k A) : A.units + 1 < cLine := by have := r.un; omega
theorem passE0 {P : Program} {w : World} {X : Cx} : Passes (CXe P w) X E0 := fun _ _ _ _ _ _ _ h => by
  obtain ⟨_, _, _, _, _, z⟩ := h
  exact z.elim
def spFormOf (N : Addr) : Sp := fun vs H Q E => ∃ (g a : Addr) (y : V) (nms : List Str) (us : List V) (n : Str), vs = [.ref g, .str n] /\ H g = some (.tup [y, .ref a]) /\ H a = some (.tup us) /\ L2R (NmAt H) nms us /\ TxOk n /\ nms.Nodup /\ ((∃ (i : Nat) (v : V), us[i]? = some v /\ nms[i]? = some n /\ Q v H) \/ (n ∉ nms /\ ∀ H', Same H H' -> E (.ref N) none H'))
section
variable {P : Program} {w : World} {K : PySem.W.Frag} {mg : Str -> Option Value} {base : Heap} {T : Adr}
theorem ok_row (X : Tx K mg T) : FnOk P w K mg base (CXc P w) 1 T.qrowof T.d_qrowof ["rows", "name"] (spRow T.k_NoName) := by
  refine X.F_qrowof.okC sc_qrowof (fun vs H Q E h => ?_) (fun cdv A outer s H vs Q E hr h => ?_)
  · obtain ⟨_, _, _, _, rfl, _⟩ := h
    rfl
  obtain ⟨a, nms, us, n, rfl, ha, hn, tn, nd, hor⟩ := h
  refine ⟨_, (qss_cons (qs_for PassesOwn.leaving rfl (qi_tup (qv 0)) (qg_name (i := 2) sc_qrowof.nd rfl (Or.inl rfl)) (qss_one (qs_if (qt_cmpR op_eq (qe_ix ix_tup (qv 2) qe_int (fun _ _ => rfl)) (qv 1) (nomark _)) (qss_one (qs_ret (qv 2))) qss_nil))) (qss_one (qs_raise rfl rfl X.m_NoName X.e_NoName (qaJ (qe_join (qj_cons qe_str (qj_cons (qe_rep hr (qv 1)) qj_nil))) qa_nil) xe_raiseC))), ?_⟩
  have ln := hn.len
  have ls := shown_str tn
  have e0 : Str.empty.length = 0 := rfl
  have l1 : (Str.ofString "nothing is called ").length = 18 := by decide
  have hsz : sizeLine = 16777216 := by decide
  refine ⟨_, rfl, a, rfl, ⟨_, SqT.of ha⟩, for_tup (K := K) (a := a) (xs := us) (fun i σ H' => H' = H /\ (∃ x2, σ = [some (.ref a), some (.str n), x2]) /\ ∀ j < i, nms[j]? ≠ some n) ⟨rfl, ⟨none, rfl⟩, (fun j hj => absurd hj (Nat.not_lt_zero j))⟩ (fun i σ H' _ ⟨e, _⟩ => by rw [e]; exact SqT.of ha) ?_ ?_⟩
  · rintro i v σ H' hv ⟨rfl, ⟨x2, rfl⟩, hno⟩
    obtain ⟨m, hm, p, r, rfl, hp⟩ := hn.get hv
    refine ⟨_, rfl, p, _, 0, .str m, rfl, rfl, SqT.of hp, atI_head _ _, _, rfl, rfl, _, rfl, iteDd (fun h => ?_) (fun h => ?_)⟩
    · have hmn : m = n := V.str.inj h
      subst hmn
      rcases hor with ⟨i', v', h1, h2, q⟩ | ⟨hn', _⟩
      · have := nd_ix nd h2 hm
        subst this
        rw [hv] at h1
        cases h1
        exact ⟨_, rfl, q⟩
      · exact absurd (List.mem_of_getElem? hm) hn'
    · refine ⟨rfl, ⟨_, rfl⟩, fun j hj => ?_⟩
      rcases Nat.lt_succ_iff_lt_or_eq.mp hj with hj | rfl
      · exact hno j hj
      · intro z
        rw [hm] at z
        exact h (by rw [Option.some.inj z])
  · rintro σ H' ⟨rfl, ⟨x2, rfl⟩, hno⟩
    rcases hor with ⟨i, v, h1, h2, _⟩ | ⟨_, q⟩
    · exact absurd h2 (hno i (lt_of_some h1))
    · exact ⟨_, rfl, by rw [app_len, e0, l1]; omega, _, rfl, .str _, .str _, by simp only [PyData.showable], by simp only [PyData.hasDict], by simp only [PyData.depth]; decide, by omega, _, rfl, by rw [app_len, app_len, e0, l1]; omega, (by show 1 <= 10; decide), q⟩
theorem ok_formrow (X : Tx K mg T) : FnOk P w K mg base (CXc P w) 2 T.qformrow T.d_qformrow ["grammar", "name"] (spFormRow T.k_NoName) := by
  have G_qrowof := ok_row (P := P) (w := w) (base := base) X
  refine X.F_qformrow.okC sc_qformrow (fun vs H Q E h => ?_) (fun cdv A outer s H vs Q E hr h => ?_)
  · obtain ⟨_, _, _, _, _, _, rfl, _⟩ := h
    rfl
  obtain ⟨g, a, y, nms, us, n, rfl, hg, ha, hn, tn, nd, hor⟩ := h
  refine ⟨_, (qss_one (qs_ret (qe_call G_qrowof hr rfl X.m_qrowof X.F_qrowof.kp X.b_qrowof .nil pass_onC (qaS (qe_ix ix_tup (qv 0) qe_int (fun _ _ => rfl)) (qaN (qv 1) qa_nil))))), ?_⟩
  exact ⟨_, rfl, g, _, 1, _, rfl, rfl, SqT.of hg, rfl, _, rfl, a, nms, us, n, rfl, ha, hn, tn, nd, hor⟩
theorem ok_formof (X : Tx K mg T) : FnOk P w K mg base (CXe P w) 3 T.qformof T.d_qformof ["grammar", "name"] (spFormOf T.k_NoTree) := by
  have G_qformrow := ok_formrow (P := P) (w := w) (base := base) X
  refine X.F_qformof.okE sc_qformof (fun vs H Q E h => ?_) (fun cdv A outer s H vs Q E hr h => ?_)
  · obtain ⟨_, _, _, _, _, _, rfl, _⟩ := h
    rfl
  obtain ⟨g, a, y, nms, us, n, rfl, hg, ha, hn, tn, nd, hor⟩ := h
  refine ⟨_, (qss_one (qs_tryR (EX := fun H => E (.ref T.k_NoTree) none H) G_qformrow hr rfl X.m_qformrow X.F_qformrow.kp X.b_qformrow (qaN (qv 0) (qaN (qv 1) qa_nil)) rfl X.m_NoName X.e_NoName rfl rfl rfl rfl X.m_NoTree X.e_NoTree (fun a => (qaJ (qe_join (qj_cons qe_str (qj_cons (qe_repS (qv 1)) qj_nil))) qa_nil)) xe_raiseG (fun _ => passesAt))), ?_⟩
  have ls := shown_str tn
  have e0 : Str.empty.length = 0 := rfl
  have l1 : (Str.ofString "the grammar has no form ").length = 24 := by decide
  have hsz : sizeLine = 16777216 := by decide
  refine ⟨_, rfl, _, rfl, g, a, y, nms, us, n, rfl, hg, ha, hn, tn, nd, ?_⟩
  rcases hor with ⟨i, v, h1, h2, q⟩ | ⟨hno, q⟩
  · exact .inl ⟨i, v, h1, h2, q⟩
  · refine .inr ⟨hno, T.k_NoName, rfl, X.e_NoName, X.u_NoName_NoName, fun b hb => ?_⟩
    exact ⟨_, rfl, by rw [app_len, e0, l1]; omega, _, rfl, _, rfl, by omega, _, rfl, by rw [app_len, app_len, e0, l1]; omega, (by show 1 <= 10; decide), q _ (same_new hb _), upd_same⟩
end
end K22
namespace FT
open PySem L2 TR
structure Fr where
  nm : Str
  sg : Str
  br : List Str
abbrev names (G : List Fr) : List Str := G.map Fr.nm
def find (G : List Fr) (n : Str) : Option Fr := G.find? fun f => decide (f.nm = n)
theorem find_mem {G : List Fr} {n : Str} {f : Fr} (h : find G n = some f) : f ∈ G /\ f.nm = n := ⟨List.mem_of_find?_eq_some h, by simpa using List.find?_some h⟩
theorem find_none {G : List Fr} {n : Str} (h : n ∉ names G) : find G n = none := by
  unfold find
  rw [List.find?_eq_none]
  intro f hf
  simp only [decide_eq_true_eq]
  exact fun e => h (by rw [<- e]; exact List.mem_map.mpr ⟨f, hf, rfl⟩)
theorem find_of : ∀ {G : List Fr}, (names G).Nodup -> ∀ {f : Fr}, f ∈ G -> find G f.nm = some f
  | [], _, f, h => nomatch h
  | g :: G, hn, f, h => by
    unfold find
    rw [List.find?_cons]
    have hc : g.nm ∉ names G /\ (names G).Nodup := List.nodup_cons.mp hn
    rcases List.mem_cons.mp h with rfl | h
    · simp
    · have ne : ¬ g.nm = f.nm := fun e => hc.1 (by rw [e]; exact List.mem_map.mpr ⟨f, h, rfl⟩)
      rw [decide_eq_false ne]
      exact find_of hc.2 h
theorem find_some {G : List Fr} {n : Str} (h : n ∈ names G) : ∃ f, find G n = some f := by
  cases e : find G n with
  | some f => exact ⟨f, rfl⟩
  | none =>
    unfold find at e
    rw [List.find?_eq_none] at e
    obtain ⟨f, hf, rfl⟩ := List.mem_map.mp h
    exact absurd (decide_eq_true (rfl : f.nm = f.nm)) (e f hf)
mutual
def fit (G : List Fr) : Tr -> Option Str
  | .node nm _ bs => (find G nm).bind fun f => (fits G bs).bind fun ss => if ss = f.br then some f.sg else none
def fits (G : List Fr) : List Tr -> Option (List Str)
  | [] => some []
  | t :: ts => (fit G t).bind fun s => (fits G ts).bind fun ss => some (s :: ss)
end
theorem fit_eq (G : List Fr) (t : Tr) : fit G t = (find G t.nm).bind fun f => (fits G t.bs).bind fun ss => if ss = f.br then some f.sg else none := by cases t; rw [fit]; rfl
theorem fit_some {G : List Fr} {t : Tr} {s : Str} (h : fit G t = some s) : ∃ f, find G t.nm = some f /\ fits G t.bs = some f.br /\ f.sg = s := by
  rw [fit_eq] at h
  cases hf : find G t.nm with
  | none => rw [hf] at h; cases h
  | some f =>
    rw [hf] at h
    cases hs : fits G t.bs with
    | none => rw [hs] at h; cases h
    | some ss =>
      rw [hs] at h
      have h : (if ss = f.br then some f.sg else none) = some s := h
      split at h
      · rename_i e
        cases h
        exact ⟨f, rfl, by rw [e], rfl⟩
      · cases h
theorem fit_of {G : List Fr} {t : Tr} {f : Fr} (h : find G t.nm = some f) (hb : fits G t.bs = some f.br) : fit G t = some f.sg := by
  rw [fit_eq, h, hb]
  show (if f.br = f.br then some f.sg else none) = _
  rw [if_pos rfl]
theorem fit_miss {G : List Fr} {t : Tr} (h : find G t.nm = none) : fit G t = none := by rw [fit_eq, h]; rfl
theorem fit_brs {G : List Fr} {t : Tr} (h : fits G t.bs = none) : fit G t = none := by
  rw [fit_eq, h]
  cases find G t.nm <;> rfl
theorem fit_ne {G : List Fr} {t : Tr} {f : Fr} (h : find G t.nm = some f) (hb : ∀ ss, fits G t.bs = some ss -> ss ≠ f.br) : fit G t = none := by
  rw [fit_eq, h]
  cases hs : fits G t.bs with
  | none => rfl
  | some ss =>
    show (if ss = f.br then some f.sg else none) = none
    rw [if_neg (hb ss hs)]
theorem fits_len : ∀ {G : List Fr} {ts : List Tr} {ss : List Str}, fits G ts = some ss -> ss.length = ts.length
  | G, [], ss, h => by rw [fits] at h; cases h; rfl
  | G, t :: ts, ss, h => by
    rw [fits] at h
    cases h1 : fit G t with
    | none => rw [h1] at h; cases h
    | some s =>
      rw [h1] at h
      cases h2 : fits G ts with
      | none => rw [h2] at h; cases h
      | some r =>
        rw [h2] at h
        cases h
        rw [List.length_cons, List.length_cons, fits_len h2]
theorem fits_cons {G : List Fr} {t : Tr} {ts : List Tr} {s : Str} {ss : List Str} (h : fit G t = some s) (hs : fits G ts = some ss) : fits G (t :: ts) = some (s :: ss) := by
  rw [fits, h, hs]
  rfl
theorem fits_none : ∀ {G : List Fr} {ts : List Tr} {i : Nat} {t : Tr}, ts[i]? = some t -> fit G t = none -> fits G ts = none
  | G, [], i, t, h, _ => by simp at h
  | G, u :: ts, 0, t, h, e => by
    simp at h
    subst h
    rw [fits, e]
    rfl
  | G, u :: ts, i + 1, t, h, e => by
    rw [fits, fits_none (by simpa using h) e]
    cases fit G u <;> rfl
theorem fits_at : ∀ {G : List Fr} {ts : List Tr} {ss : List Str} {i : Nat} {t : Tr}, fits G ts = some ss -> ts[i]? = some t -> ∃ s, fit G t = some s /\ ss[i]? = some s
  | G, [], ss, i, t, h, hi => by simp at hi
  | G, u :: ts, ss, i, t, h, hi => by
    rw [fits] at h
    cases h1 : fit G u with
    | none => rw [h1] at h; cases h
    | some s =>
      rw [h1] at h
      cases h2 : fits G ts with
      | none => rw [h2] at h; cases h
      | some r =>
        rw [h2] at h
        cases h
        cases i with
        | zero =>
          simp at hi
          subst hi
          exact ⟨s, h1, rfl⟩
        | succ i =>
          obtain ⟨x, a, b⟩ := fits_at h2 (show ts[i]? = some t by simpa using hi)
          exact ⟨x, a, by simpa using b⟩
theorem fits_set : ∀ {G : List Fr} {ts : List Tr} {ss : List Str} {i : Nat} {u : Tr} {s : Str}, fits G ts = some ss -> fit G u = some s -> fits G (ts.set i u) = some (ss.set i s)
  | G, [], ss, i, u, s, h, _ => by rw [fits] at h; cases h; rw [List.set_nil, List.set_nil, fits]
  | G, t :: ts, ss, i, u, s, h, hu => by
    rw [fits] at h
    cases h1 : fit G t with
    | none => rw [h1] at h; cases h
    | some s1 =>
      rw [h1] at h
      cases h2 : fits G ts with
      | none => rw [h2] at h; cases h
      | some r =>
        rw [h2] at h
        cases h
        cases i with
        | zero => exact fits_cons hu h2
        | succ i => exact fits_cons h1 (fits_set h2 hu)
theorem set_get {α : Type} {ts : List α} {i : Nat} {c u : α} (h : ts[i]? = some c) : (ts.set i u)[i]? = some u := List.getElem?_set_self (lt_of_some h)
theorem fit_at : ∀ {G : List Fr} {p : List Int} {t u : Tr} {s : Str}, fit G t = some s -> atT p t = some u -> ∃ su, fit G u = some su
  | G, [], t, u, s, h, e => by cases e; exact ⟨s, h⟩
  | G, k :: p, t, u, s, h, e => by
    obtain ⟨_, _, c, hc, _, e'⟩ := atT_cons e
    obtain ⟨f, _, hb, _⟩ := fit_some h
    obtain ⟨sc, h1, _⟩ := fits_at hb hc
    exact fit_at h1 e'
theorem miss_at : ∀ {G : List Fr} {p : List Int} {t u : Tr}, atT p t = some u -> find G u.nm = none -> fit G t = none
  | G, [], t, u, e, h => by cases e; exact fit_miss h
  | G, k :: p, t, u, e, h => by
    obtain ⟨_, _, c, hc, _, e'⟩ := atT_cons e
    exact fit_brs (fits_none hc (miss_at e' h))
theorem put_none : ∀ {G : List Fr} {p : List Int} {t u r : Tr}, putT p t u = some r -> fit G u = none -> fit G r = none
  | G, [], t, u, r, e, h => by cases e; exact h
  | G, k :: p, t, u, r, e, h => by
    obtain ⟨_, _, c, c', hc, _, e', rfl⟩ := putT_cons e
    exact fit_brs (fits_none (set_get hc) (put_none e' h))
theorem put_ne : ∀ {G : List Fr} {p : List Int} {t u v r : Tr} {s su sv : Str}, p ≠ [] -> fit G t = some s -> atT p t = some u -> putT p t v = some r -> fit G u = some su -> fit G v = some sv -> sv ≠ su -> fit G r = none
  | G, [], t, u, v, r, s, su, sv, hp, _, _, _, _, _, _ => absurd rfl hp
  | G, [k], t, u, v, r, s, su, sv, hp, h, ha, hput, h1, h2, hne => by
    obtain ⟨_, _, c, hc, _, ha'⟩ := atT_cons ha
    cases ha'
    obtain ⟨_, _, c2, c', hc2, _, hp', rfl⟩ := putT_cons hput
    cases hp'
    obtain ⟨f, hf, hb, _⟩ := fit_some h
    refine fit_ne (f := f) hf fun ss hs e => ?_
    obtain ⟨s1, g1, g2⟩ := fits_at hb hc
    rw [h1] at g1
    cases g1
    have hs' : fits G (t.bs.set (k - 1).toNat v) = some ss := hs
    rw [fits_set hb h2] at hs'
    cases hs'
    have := set_get (u := sv) g2
    rw [e, g2] at this
    exact hne (Option.some.inj this).symm
  | G, k :: k2 :: p, t, u, v, r, s, su, sv, hp, h, ha, hput, h1, h2, hne => by
    obtain ⟨_, _, c, hc, _, ha'⟩ := atT_cons ha
    obtain ⟨_, _, c2, c', hc2, _, hp', rfl⟩ := putT_cons hput
    rw [hc] at hc2
    cases hc2
    obtain ⟨f, hf, hb, _⟩ := fit_some h
    obtain ⟨s1, g1, g2⟩ := fits_at hb hc
    exact fit_brs (fits_none (set_get hc) (put_ne (List.cons_ne_nil k2 p) g1 ha' hp' h1 h2 hne))
theorem sizes_set : ∀ {ts : List Tr} {i : Nat} {c u : Tr}, ts[i]? = some c -> sizes (ts.set i u) + size c = sizes ts + size u
  | [], i, c, u, h => by simp at h
  | t :: ts, 0, c, u, h => by
    simp at h
    subst h
    rw [List.set_cons_zero, sizes, sizes]
    omega
  | t :: ts, i + 1, c, u, h => by
    rw [List.set_cons_succ, sizes, sizes]
    have := sizes_set (u := u) (show ts[i]? = some c by simpa using h)
    omega
theorem put_size : ∀ {p : List Int} {t u v r : Tr}, atT p t = some u -> putT p t v = some r -> size r + size u = size t + size v
  | [], t, u, v, r, ha, hp => by cases ha; cases hp; omega
  | k :: p, t, u, v, r, ha, hp => by
    obtain ⟨_, _, c, hc, _, ha'⟩ := atT_cons ha
    obtain ⟨_, _, c2, c', hc2, _, hp', rfl⟩ := putT_cons hp
    rw [hc] at hc2
    cases hc2
    have := put_size ha' hp'
    have := sizes_set (u := c') hc
    rw [size_eq t, size]
    omega
theorem deeps_set_le {d : Nat} : ∀ {ts : List Tr} {i : Nat} {c u : Tr}, ts[i]? = some c -> deep u <= deep c + d -> deeps (ts.set i u) <= deeps ts + d
  | [], i, c, u, h, _ => by simp at h
  | t :: ts, 0, c, u, h, hd => by
    simp at h
    subst h
    rw [List.set_cons_zero, deeps, deeps]
    omega
  | t :: ts, i + 1, c, u, h, hd => by
    rw [List.set_cons_succ, deeps, deeps]
    have := deeps_set_le (show ts[i]? = some c by simpa using h) hd
    omega
theorem deeps_set_ge : ∀ {ts : List Tr} {i : Nat} {c u : Tr}, ts[i]? = some c -> deep c <= deep u -> deeps ts <= deeps (ts.set i u)
  | [], i, c, u, h, _ => by simp at h
  | t :: ts, 0, c, u, h, hd => by
    simp at h
    subst h
    rw [List.set_cons_zero, deeps, deeps]
    omega
  | t :: ts, i + 1, c, u, h, hd => by
    rw [List.set_cons_succ, deeps, deeps]
    have := deeps_set_ge (show ts[i]? = some c by simpa using h) hd
    omega
theorem put_deep_le {d : Nat} : ∀ {p : List Int} {t u v r : Tr}, atT p t = some u -> putT p t v = some r -> deep v <= deep u + d -> deep r <= deep t + d
  | [], t, u, v, r, ha, hp, h => by cases ha; cases hp; exact h
  | k :: p, t, u, v, r, ha, hp, h => by
    obtain ⟨_, _, c, hc, _, ha'⟩ := atT_cons ha
    obtain ⟨_, _, c2, c', hc2, _, hp', rfl⟩ := putT_cons hp
    rw [hc] at hc2
    cases hc2
    have := deeps_set_le hc (put_deep_le ha' hp' h)
    rw [deep_eq t, deep]
    omega
theorem put_deep_ge : ∀ {p : List Int} {t u v r : Tr}, atT p t = some u -> putT p t v = some r -> deep u <= deep v -> deep t <= deep r
  | [], t, u, v, r, ha, hp, h => by cases ha; cases hp; exact h
  | k :: p, t, u, v, r, ha, hp, h => by
    obtain ⟨_, _, c, hc, _, ha'⟩ := atT_cons ha
    obtain ⟨_, _, c2, c', hc2, _, hp', rfl⟩ := putT_cons hp
    rw [hc] at hc2
    cases hc2
    have := deeps_set_ge hc (put_deep_ge ha' hp' h)
    rw [deep_eq t, deep]
    omega
mutual
theorem pths_long : ∀ t : Tr, ∃ p ∈ pths t, p.length + 1 = deep t
  | .node _ _ bs => by
    rcases pthss_long bs 1 with h | ⟨p, hp, e⟩
    · exact ⟨[], by rw [pths]; exact List.mem_cons_self, by rw [deep, h, deeps]; rfl⟩
    · exact ⟨p, by rw [pths]; exact List.mem_cons_of_mem _ hp, by rw [deep]; omega⟩
theorem pthss_long : ∀ (ts : List Tr) (k : Int), ts = [] \/ ∃ p ∈ pthss k ts, p.length = deeps ts
  | [], k => .inl rfl
  | t :: ts, k => .inr (by
    obtain ⟨p, hp, e⟩ := pths_long t
    by_cases h : deeps ts <= deep t
    · refine ⟨k :: p, by rw [pthss]; exact List.mem_append_left _ (List.mem_map.mpr ⟨p, hp, rfl⟩), ?_⟩
      rw [deeps, List.length_cons]
      omega
    · rcases pthss_long ts (k + 1) with e0 | ⟨q, hq, e2⟩
      · rw [e0, deeps] at h
        omega
      · refine ⟨q, by rw [pthss]; exact List.mem_append_right _ hq, ?_⟩
        rw [deeps]
        omega)
end
inductive Flt (G : List Fr) (c : Int) (p : List Int) (u : Tr) (f : Fr) : Tr -> Prop
  | less (i : Nat) : c % 5 = 1 -> i < u.bs.length -> Flt G c p u f (.node u.nm u.mk' (u.bs.eraseIdx i))
  | other (o : Fr) : c % 5 = 2 -> p ≠ [] -> o ∈ G -> o.sg ≠ f.sg -> o.br = [] -> Flt G c p u f (.node o.nm 0 [])
  | unlike (o : Fr) : c % 5 = 3 -> o ∈ G -> o.br ≠ f.br -> Flt G c p u f (.node o.nm u.mk' u.bs)
  | more (i : Nat) (n : Str) : i <= u.bs.length -> n ∈ names G -> Flt G c p u f (.node u.nm u.mk' (u.bs.take i ++ [.node n 0 []] ++ u.bs.drop i))
  | name (n : Str) : n ∉ names G -> Flt G c p u f (.node n u.mk' u.bs)
theorem flt_none {G : List Fr} {c : Int} {p : List Int} {t u v r : Tr} {f : Fr} {s : Str} (nd : (names G).Nodup) (h : fit G t = some s) (ha : atT p t = some u) (hf : find G u.nm = some f) (x : Flt G c p u f v) (hp : putT p t v = some r) : fit G r = none := by
  obtain ⟨su, hu⟩ := fit_at h ha
  obtain ⟨f', hf', hb, _⟩ := fit_some hu
  rw [hf] at hf'
  cases hf'
  have lb := fits_len hb
  cases x with
  | less i hc hi =>
    refine put_none hp (fit_ne (f := f) hf fun ss hs e => ?_)
    have := fits_len hs
    have e2 : (Tr.node u.nm u.mk' (u.bs.eraseIdx i)).bs.length = u.bs.length - 1 := by show (u.bs.eraseIdx i).length = _; rw [List.length_eraseIdx, if_pos hi]
    rw [e2, e] at this
    omega
  | other o hc hpn ho hsg hbr =>
    have hv : fit G (.node o.nm 0 []) = some o.sg := fit_of (f := o) (find_of nd ho) (by rw [hbr]; show fits G [] = _; rw [fits])
    have hsu : f.sg = su := by
      have := fit_of hf hb
      rw [hu] at this
      exact (Option.some.inj this).symm
    exact put_ne hpn h ha hp hu hv (by rw [<- hsu]; exact hsg)
  | unlike o hc ho hbr =>
    refine put_none hp (fit_ne (f := o) (find_of nd ho) fun ss hs e => ?_)
    have hs : fits G u.bs = some ss := hs
    rw [hb] at hs
    cases hs
    exact hbr e.symm
  | more i n hi hn =>
    refine put_none hp (fit_ne (f := f) hf fun ss hs e => ?_)
    have := fits_len hs
    have e2 : (Tr.node u.nm u.mk' (u.bs.take i ++ [Tr.node n 0 []] ++ u.bs.drop i)).bs.length = u.bs.length + 1 := by
      show (u.bs.take i ++ [Tr.node n 0 []] ++ u.bs.drop i).length = _
      rw [List.length_append, List.length_append, List.length_take, List.length_drop, List.length_singleton]
      omega
    rw [e2, e] at this
    omega
  | name n hn => exact put_none hp (fit_miss (find_none hn))
theorem sizes_app : ∀ (ts us : List Tr), sizes (ts ++ us) = sizes ts + sizes us
  | [], us => by rw [List.nil_append, sizes]; omega
  | t :: ts, us => by rw [List.cons_append, sizes, sizes, sizes_app ts us]; omega
theorem deeps_app : ∀ (ts us : List Tr), deeps (ts ++ us) = max (deeps ts) (deeps us)
  | [], us => by rw [List.nil_append, deeps]; omega
  | t :: ts, us => by rw [List.cons_append, deeps, deeps, deeps_app ts us]; omega
theorem flt_size {G : List Fr} {c : Int} {p : List Int} {u v : Tr} {f : Fr} (x : Flt G c p u f v) : size v <= size u + 1 /\ deep v <= deep u + 1 /\ (c % 5 ≠ 1 -> c % 5 ≠ 2 -> size u <= size v /\ deep u <= deep v) := by
  have hu := size_eq u
  have hd := deep_eq u
  have leaf : ∀ n : Str, size (Tr.node n 0 []) = 1 /\ deep (Tr.node n 0 []) = 1 := fun n => by rw [size, deep, sizes, deeps]; exact ⟨rfl, rfl⟩
  cases x with
  | less i hc hi =>
    have e1 : u.bs = u.bs.take i ++ (u.bs[i] :: u.bs.drop (i + 1)) := by rw [<- List.drop_eq_getElem_cons hi, List.take_append_drop]
    have e2 : u.bs.eraseIdx i = u.bs.take i ++ u.bs.drop (i + 1) := List.eraseIdx_eq_take_drop_succ u.bs i
    have s1 := sizes_app (u.bs.take i) (u.bs[i] :: u.bs.drop (i + 1))
    have s2 := sizes_app (u.bs.take i) (u.bs.drop (i + 1))
    have d1 := deeps_app (u.bs.take i) (u.bs[i] :: u.bs.drop (i + 1))
    have d2 := deeps_app (u.bs.take i) (u.bs.drop (i + 1))
    rw [<- e1, sizes] at s1
    rw [<- e1, deeps] at d1
    rw [<- e2] at s2 d2
    refine ⟨?_, ?_, fun h _ => absurd hc h⟩
    · rw [size]; omega
    · rw [deep]; omega
  | other o hc _ _ _ _ =>
    have := leaf o.nm
    exact ⟨by omega, by omega, fun _ h => absurd hc h⟩
  | unlike o hc _ _ =>
    have a : size (Tr.node o.nm u.mk' u.bs) = size u := by rw [size, hu]
    have b : deep (Tr.node o.nm u.mk' u.bs) = deep u := by rw [deep, hd]
    exact ⟨by omega, by omega, fun _ _ => ⟨by omega, by omega⟩⟩
  | more i n hi hn =>
    have e1 : u.bs.take i ++ u.bs.drop i = u.bs := List.take_append_drop i u.bs
    have s1 := sizes_app (u.bs.take i) (u.bs.drop i)
    have d1 := deeps_app (u.bs.take i) (u.bs.drop i)
    rw [e1] at s1 d1
    have s2 := sizes_app (u.bs.take i ++ [Tr.node n 0 []]) (u.bs.drop i)
    have d2 := deeps_app (u.bs.take i ++ [Tr.node n 0 []]) (u.bs.drop i)
    rw [sizes_app (u.bs.take i), sizes, sizes] at s2
    rw [deeps_app (u.bs.take i), deeps, deeps] at d2
    have := leaf n
    refine ⟨?_, ?_, fun _ _ => ⟨?_, ?_⟩⟩
    · rw [size]; omega
    · rw [deep]; omega
    · rw [size]; omega
    · rw [deep]; omega
  | name n hn =>
    have a : size (Tr.node n u.mk' u.bs) = size u := by rw [size, hu]
    have b : deep (Tr.node n u.mk' u.bs) = deep u := by rw [deep, hd]
    exact ⟨by omega, by omega, fun _ _ => ⟨by omega, by omega⟩⟩
end FT
namespace K22
open PySem L2 TR FT
open TM 
def spPaths (n : Nat) : Sp := fun vs H Q _ => ∃ t v, vs = [v] /\ TrIs H t v /\ deep t <= n + 1 /\ size t <= 1000 /\ ∀ D us H', Same H H' -> H D = none -> H' D = some (.lst us) -> L2R (PthIs H') (pths t) us -> Q (.ref D) H'
def spSize (C : Addr) : Sp := fun vs H Q E => ∃ t v, vs = [v] /\ TrIs H t v /\ deep t <= 71 /\ size t <= 1000 /\ (size t <= 60 /\ deep t <= 20 -> ∀ H', Same H H' -> Q .non H') /\ (¬ (size t <= 60 /\ deep t <= 20) -> ∀ H', Same H H' -> E (.ref C) none H')
theorem _root_.TM.L2R.unapp {α : Type} {R : α -> V -> Prop} : ∀ {as bs : List α} {vs : List V}, L2R R (as ++ bs) vs -> ∃ xs ys, vs = xs ++ ys /\ L2R R as xs /\ L2R R bs ys
  | [], bs, vs, h => ⟨[], vs, rfl, .nil, h⟩
  | a :: as, bs, _, .cons h1 h2 => by
    obtain ⟨xs, ys, e, g1, g2⟩ := TM.L2R.unapp h2
    exact ⟨_ :: xs, ys, by rw [e]; rfl, .cons h1 g1, g2⟩
theorem L2R.setV {α : Type} {R : α -> V -> Prop} : ∀ {as : List α} {vs : List V} {i : Nat} {a : α} {v : V}, L2R R as vs -> R a v -> L2R R (as.set i a) (vs.set i v)
  | _, _, _, _, _, .nil, _ => .nil
  | _, _, 0, _, _, .cons h1 h2, h => .cons h h2
  | _, _, i + 1, _, _, .cons h1 h2, h => .cons h1 (L2R.setV h2 h)
section
variable {P : Program} {w : World} {K : PySem.W.Frag} {mg : Str -> Option Value} {base : Heap} {T : Adr}
theorem ok_paths (X : Tx K mg T) : ∀ n : Nat, FnOk P w K mg base CX0 (n + 1) T.qpaths T.d_qpaths ["tree"] (spPaths n) := by
  have step : ∀ (n : Nat) (sp : Sp), FnOk P w K mg base CX0 n T.qpaths T.d_qpaths ["tree"] sp -> (∀ (t : Tr) (v : V) (H : Hp) (Q : VK) (E : XK), TrIs H t v -> deep t <= n -> size t <= 1000 -> (∀ D us H', Same H H' -> H D = none -> H' D = some (.lst us) -> L2R (PthIs H') (pths t) us -> Q (.ref D) H') -> sp [v] H Q E) -> FnOk P w K mg base CX0 (n + 1) T.qpaths T.d_qpaths ["tree"] (spPaths n) := by
    intro n sp G_qpaths hsp
    refine X.F_qpaths.okQ sc_qpaths (fun vs H Q E h => ?_) (fun cdv A outer s H vs Q E hr h => ?_)
    · obtain ⟨_, _, rfl, _⟩ := h
      rfl
    obtain ⟨t, v, rfl, hv, hd, hz, q⟩ := h
    refine ⟨_, (qss_cons (qs_set (i := 1) sc_qpaths.nd rfl (Or.inl rfl) (qe_lst (qaT (qe_tup qa_nil) qa_nil))) (qss_cons (qs_for PassesOwn.never rfl (qi_en1 rfl X.z_enumerate (qe_ix ix_tup (qv 0) qe_int (fun _ _ => rfl))) (qg_tup rfl (qgs_cons (qg_name (i := 2) sc_qpaths.nd rfl (Or.inr rfl)) (qgs_cons (qg_name (i := 3) sc_qpaths.nd rfl (Or.inl rfl)) qgs_nil))) (qss_one (qs_expr (qe_bm PySem.F.plainAttrs_list PySem.F.slot_list_extend PySem.F.type_list_extend mt_extend (qv 1) (qaE (qe_comp (ys := ["k"]) (js := [2]) rfl rfl (qi_list (qe_call G_qpaths hr rfl X.m_qpaths X.F_qpaths.kp X.b_qpaths .nil pass0 (qaN (qv 3) qa_nil))) (fun _ _ _ _ _ => qif_nil) (fun _ _ _ _ _ => (qe_op op_catA (qe_tup (qaN (qv 1) qa_nil)) (qv 0)))) qa_nil))))) (qss_one (qs_ret (qv 1))))), ?_⟩
    obtain ⟨p, b, vs, rfl, hp, hb, hvs⟩ := hv.op
    have lvs := hvs.len
    have lbs := bs_len hz
    refine ⟨(by show 0 <= sizeLine; decide), fun e he => ⟨(by show 1 <= sizeLine; decide), fun D hD => ?_⟩⟩
    have s1 := same_new he (.tup [])
    have s2 := same_new hD (.lst [.ref e])
    have he2 := s2 _ _ (upd_same (H := H) (a := e) (o := .tup []))
    have hD2 := upd_same (H := upd H e (.tup [])) (a := D) (o := .lst [.ref e])
    have s12 := s1.trans s2
    have fD : H D = none := s1.free hD
    generalize upd (upd H e (.tup [])) D (.lst [.ref e]) = H2 at he2 hD2 s12 ⊢
    refine ⟨_, rfl, p, _, 2, _, rfl, rfl, SqT.of (s12 _ _ hp), rfl, b, vs, rfl, SqT.of (s12 _ _ hb), for_wt (fun i σ H' => ∃ x2 x3 us, σ = [some (.ref p), some (.ref D), x2, x3] /\ Same H H' /\ H' D = some (.lst us) /\ L2R (PthIs H') ([] :: pthss 1 (t.bs.take i)) us)
      ⟨none, none, _, rfl, s12, hD2, ?_⟩ (fun i σ H' _ ⟨_, _, _, _, sm, _⟩ => SqT.of (sm _ _ hb)) ?_ ?_⟩
    · rw [List.take_zero, pthss]
      exact .cons ⟨e, rfl, he2⟩ .nil
    · rintro i T' vs' σ H' hi ⟨x, hx, rfl⟩ ⟨x2, x3, us, rfl, sm, hDi, hus⟩ hT
      obtain ⟨u, hu, hui⟩ := hvs.get hx
      have um : u ∈ t.bs := List.mem_of_getElem? hu
      have du := deep_br um
      have zu := size_br um
      have s3 := same_new hT (.tup [.int ((i : Int) + 1), x])
      refine ⟨T', _, rfl, SqT.of upd_same, rfl, _, _, rfl, _, _, rfl, rfl, ?_⟩
      have hD3 := s3 _ _ hDi
      refine ⟨_, rfl, .inl ⟨rfl, _, SqL.of hD3⟩, _, rfl, hsp u x _ _ _ (TrIs.same (sameT (sm.trans s3)) u hui) (by omega) (by omega) fun D2 us2 H4 s4 nD2 hD4 hus4 => ?_⟩
      have lu4 := hus4.len
      have lp : (pths u).length = size u := pths_len u
      have sm4 := sm.trans (s3.trans s4)
      refine ⟨D2, rfl, ⟨_, SqL.of hD4⟩, fun D3 nD3 => ?_⟩
      refine comp_lstR (K := K) (R := fun H q v => PthIs H (((i : Int) + 1) :: q) v) (as := pths u) (OffD.ofT fun _ _ _ _ e r => PthIs.same e r) (fitsL (by omega)) (by omega) (SqL.of hD4) nD3 (fun j y q H5 hy hq s5 _ Q' k => ?_) (fun ys H5 s5 hD5 hys => ?_)
      · obtain ⟨q', hq', c, rfl, hc⟩ := hus4.get hy
        rw [hq] at hq'
        cases hq'
        have pl := pths_short u (List.mem_of_getElem? hq)
        have dl := deep_size u
        refine ⟨_, rfl, (by show 1 <= sizeLine; decide), fun t1 ht1 => ?_⟩
        have s6 := same_new ht1 (.tup [.int ((i : Int) + 1)])
        refine ⟨_, rfl, t1, c, _, _, rfl, rfl, upd_same, s6 _ _ (s5 _ _ hc), fits2 (by rw [List.length_map]; show 1 + q.length <= 100000; omega), fun t2 H7 s7 h7 => k _ _ (s6.trans s7) ⟨t2, rfl, h7⟩⟩
      · have hDf := s5 _ _ (s4 _ _ hD3)
        have lus := hus.len
        have ly := hys.len
        have lt : ([] :: pthss 1 (t.bs.take i)).length <= 1001 := by
          rw [List.length_cons, pthss_len]
          have a := sizes_take i t.bs
          have := size_eq t
          omega
        refine ⟨D, D3, _, _, rfl, rfl, hDf, hD5, fits2 (by omega), _, _, us ++ ys, rfl, same_upd fD (sm4.trans s5), upd_same, ?_⟩
        have ee : ([] :: pthss 1 (t.bs.take (i + 1))) = ([] :: pthss 1 (t.bs.take i)) ++ (pths u).map ((1 + (i : Int)) :: ·) := by
          rw [take_snocA hu, pthss_snoc]
          have li : (t.bs.take i).length = i := by rw [List.length_take]; have := lt_of_some hu; omega
          rw [li]
          rfl
        rw [ee]
        have tD := sameT_lst (ys := us ++ ys) hDf
        refine (hus.imp fun _ _ => PthIs.same (((sameT (s3.trans (s4.trans s5)))).trans tD)).app ?_
        have : ∀ {qs : List (List Int)} {zs : List V}, L2R (fun q v => PthIs H5 (((i : Int) + 1) :: q) v) qs zs -> L2R (PthIs (upd H5 D (.lst (us ++ ys)))) (qs.map ((1 + (i : Int)) :: ·)) zs := by
          intro qs zs h
          induction h with
          | nil => exact .nil
          | cons h1 _ ih =>
            refine .cons ?_ ih
            rw [Int.add_comm]
            exact PthIs.same tD h1
        exact this hys
    · rintro σ H' ⟨x2, x3, us, rfl, sm, hDi, hus⟩
      rw [lvs, List.take_length] at hus
      exact ⟨_, rfl, q D us H' sm fD hDi (by rw [pths_eq]; exact hus)⟩
  intro n
  induction n with
  | zero => exact step 0 (fun _ _ _ _ => False) ⟨fun _ _ _ _ h => h.elim, fun _ _ _ _ _ _ _ _ _ _ _ _ _ h => h.elim⟩ (fun t v H Q E _ hd _ _ => by have := deep_eq t; omega)
  | succ n ih => exact step (n + 1) _ ih fun t v H Q E hv hd hz q => ⟨t, v, rfl, hv, hd, hz, q⟩
theorem ok_size (X : Tx K mg T) : FnOk P w K mg base (CXe P w) 72 T.qchecktreesize T.d_qchecktreesize ["tree"] (spSize T.k_TooGreat) := by
  have G_qpaths := ok_paths (P := P) (w := w) (base := base) X 70
  refine X.F_qchecktreesize.okE sc_qchecktreesize (fun vs H Q E h => ?_) (fun cdv A outer s H vs Q E hr h => ?_)
  · obtain ⟨_, _, rfl, _⟩ := h
    rfl
  obtain ⟨t, v, rfl, hv, hd, hz, qok, qno⟩ := h
  refine ⟨_, (qss_cons (qs_set (i := 1) sc_qchecktreesize.nd rfl (Or.inl rfl) (qe_call G_qpaths hr rfl X.m_qpaths X.F_qpaths.kp X.b_qpaths .nil pass0 (qaN (qv 0) qa_nil))) (qss_one (qs_if (qw_pt (qw_or (qt_cmpR op_gt (qe_callB call_len_seq rfl X.z_len PySem.boot_len (qaN (qv 1) qa_nil)) (qe_glob rfl X.c_MOST_NODES (v := V.int 60) ⟨_, rfl⟩) (nomark _)) (qw_or1 (qt_cmpR op_ge (qe_callB (call_maxL rfl) rfl X.z_max PyProof.Rows.boot_max (qaE (qe_comp (ys := []) (js := []) rfl rfl (qi_list (qv 1)) (fun _ _ _ _ _ => qif_nil) (fun _ _ _ _ _ => (qe_callB (call_len_seqC (K := K) rfl) rfl X.z_len PySem.boot_len (qaN (qv 0) qa_nil)))) qa_nil)) (qe_glob rfl X.c_MOST_DEEP (v := V.int 20) ⟨_, rfl⟩) (nomark _))))) (qss_one (qs_raise rfl rfl X.m_TooGreat X.e_TooGreat (qaJ (qe_join (qj_cons qe_str (qj_cons (qe_fmt (qe_glob rfl X.c_MOST_NODES (v := V.int 60) ⟨_, rfl⟩)) (qj_cons qe_str (qj_cons (qe_fmt (qe_glob rfl X.c_MOST_DEEP (v := V.int 20) ⟨_, rfl⟩)) qj_nil))))) qa_nil) xe_raise)) qss_nil))), ?_⟩
  have e0 : Str.empty.length = 0 := rfl
  have l1 : (Str.ofString "the tree has more than ").length = 23 := by decide
  have l2 : (Str.ofString " nodes or is deeper than ").length = 25 := by decide
  have hsz : sizeLine = 16777216 := by decide
  refine ⟨_, rfl, t, v, rfl, hv, hd, hz, fun D us H1 s1 nD hD hus => ?_⟩
  have lus := hus.len
  have lp := pths_len t
  dsimp only [gName]
  refine ifS_by (fun H2 => Same H H2 /\ ¬ (size t <= 60 /\ deep t <= 20)) (fun H2 => Same H H2 /\ size t <= 60 /\ deep t <= 20) (fun Q' qT qF => ?_) (fun H2 ⟨s2, hn⟩ => ?_) (fun H2 ⟨s2, hy⟩ => ?_)
  · refine ⟨_, rfl, D, us, rfl, .inl (SqL.of hD), _, _, rfl, rfl, _, rfl, ?_⟩
    refine iteDd (fun h => qT _ ⟨s1, fun z => ?_⟩) (fun h => ⟨_, rfl, D, rfl, ⟨_, SqL.of hD⟩, fun D2 nD2 => ?_⟩)
    · omega
    refine comp_lstM (K := K) (ys := (pths t).map fun q => V.int (q.length : Int)) (fitsL (by omega)) (by rw [List.length_map]; omega) (SqL.of hD) nD2 (fun j y z H2 hy hz' s2 Q2 k => ?_) (fun H2 s2 hD2 => ?_)
    · obtain ⟨q, hq, c, rfl, hc⟩ := hus.get hy
      rw [List.getElem?_map, hq] at hz'
      cases hz'
      refine ⟨_, rfl, c, _, rfl, .inr (SqT.of (s2 _ _ hc)), ?_⟩
      rw [List.length_map]
      exact k _ (Same.refl _)
    · have hmm : (pths t).map (fun q => V.int (q.length : Int)) = ((pths t).map fun q => (q.length : Int)).map V.int := by rw [List.map_map]; rfl
      rw [hmm] at hD2
      obtain ⟨q0, hq0, e0'⟩ := pths_long t
      refine ⟨D2, _, rfl, SqL.of hD2, ?_, fun M hM hall => ⟨_, _, rfl, rfl, _, rfl, ?_⟩⟩
      · intro z
        have := congrArg List.length z
        rw [List.length_map, lp] at this
        have := size_pos t
        simp at *
        omega
      · obtain ⟨q1, hq1, rfl⟩ := List.mem_map.mp hM
        have a1 := pths_short t hq1
        have a2 := hall _ (List.mem_map.mpr ⟨q0, hq0, rfl⟩)
        by_cases h3 : (20 : Int) <= (q1.length : Int)
        · rw [decide_eq_true h3]
          exact qT _ ⟨s1.trans s2, fun z => by omega⟩
        · rw [decide_eq_false h3]
          exact qF _ ⟨s1.trans s2, by omega, by omega⟩
  · have t1 : (Str.ofString (toString (60 : Int))).length = 2 := by decide
    have t2 : (Str.ofString (toString (20 : Int))).length = 2 := by decide
    exact ⟨_, rfl, by rw [app_len, e0, l1]; omega, .inr ⟨60, rfl, by decide, _, rfl, by rw [app_len, app_len, e0, l1, t1]; omega, _, rfl, by rw [app_len, app_len, app_len, e0, l1, l2, t1]; omega, .inr ⟨20, rfl, by decide, _, rfl, by rw [app_len, app_len, app_len, app_len, e0, l1, l2, t1, t2]; omega, (by show 1 <= 10; decide), qno hn _ s2⟩⟩⟩
  · exact qok hy _ s2
end
end K22
namespace K22
open PySem L2 TR FT
open TM 
theorem l2r_at {α : Type} {R : α -> V -> Prop} : ∀ {as : List α} {vs : List V} {i : Nat} {a : α}, L2R R as vs -> as[i]? = some a -> ∃ v, vs[i]? = some v /\ R a v
  | _, _, i, a, .nil, h => by simp at h
  | _, _, 0, a, .cons h1 h2, h => by
    simp at h
    subst h
    exact ⟨_, rfl, h1⟩
  | _, _, i + 1, a, .cons h1 h2, h => by
    obtain ⟨v, x, y⟩ := l2r_at h2 (show _ = some a by simpa using h)
    exact ⟨v, by simpa using x, y⟩
def FrIs (H : Hp) (f : Fr) (v : V) : Prop := ∃ p b r, v = .ref p /\ H p = some (.tup [.str f.nm, .str f.sg, .ref b, r]) /\ H b = some (.tup (f.br.map V.str))
theorem FrIs.same {H H' : Hp} (e : SameT H H') {f : Fr} {v : V} (h : FrIs H f v) : FrIs H' f v := by
  obtain ⟨p, b, r, x, y, z⟩ := h
  exact ⟨p, b, r, x, e _ _ y, e _ _ z⟩
def GIs (H : Hp) (G : List Fr) (v : V) : Prop := ∃ g a y us, v = .ref g /\ H g = some (.tup [y, .ref a]) /\ H a = some (.tup us) /\ L2R (FrIs H) G us
theorem GIs.same {H H' : Hp} (e : SameT H H') {G : List Fr} {v : V} (h : GIs H G v) : GIs H' G v := by
  obtain ⟨g, a, y, us, x, h1, h2, h3⟩ := h
  exact ⟨g, a, y, us, x, e _ _ h1, e _ _ h2, h3.imp fun _ _ => FrIs.same e⟩
theorem nmAt_all {H : Hp} : ∀ {G : List Fr} {us : List V}, L2R (FrIs H) G us -> L2R (NmAt H) (names G) us
  | [], _, .nil => .nil
  | f :: G, _, .cons ⟨p, b, r, x, y, z⟩ h => .cons ⟨p, _, x, y⟩ (nmAt_all h)
def Sh (z : Str) : Prop := z.length <= 20 /\ ∀ c ∈ z.cps.toList, c < 128
theorem Sh.tx {z : Str} (h : Sh z) : TxOk z := ⟨by have := h.1; omega, h.2⟩
structure GOk (G : List Fr) : Prop where
  nd : (names G).Nodup
  len : G.length <= 10
  nm : ∀ f ∈ G, Sh f.nm
  sg : ∀ f ∈ G, Sh f.sg
  br : ∀ f ∈ G, f.br.length <= 3
def TrOk (t : Tr) : Prop := ∀ p u, atT p t = some u -> Sh u.nm
theorem TrOk.br {t u : Tr} {i : Nat} (h : TrOk t) (hu : t.bs[i]? = some u) : TrOk u := fun p v hv => h (((i : Int) + 1) :: p) v (by
  unfold atT
  rw [if_pos (by omega), show ((i : Int) + 1 - 1).toNat = i by omega, hu]
  exact hv)
theorem fits_snoc : ∀ {G : List Fr} {ts : List Tr} {ss : List Str} {u : Tr} {s : Str}, fits G ts = some ss -> fit G u = some s -> fits G (ts ++ [u]) = some (ss ++ [s])
  | G, [], ss, u, s, h, hu => by
    rw [fits] at h
    cases h
    exact fits_cons hu (by rw [fits])
  | G, t :: ts, ss, u, s, h, hu => by
    rw [fits] at h
    cases h1 : fit G t with
    | none => rw [h1] at h; cases h
    | some s1 =>
      rw [h1] at h
      cases h2 : fits G ts with
      | none => rw [h2] at h; cases h
      | some r =>
        rw [h2] at h
        cases h
        exact fits_cons h1 (fits_snoc h2 hu)
theorem fit_sg {G : List Fr} {t : Tr} {s : Str} (g : GOk G) (h : fit G t = some s) : Sh s := by
  obtain ⟨f, hf, _, rfl⟩ := fit_some h
  exact g.sg f (find_mem hf).1
theorem fits_sh : ∀ {G : List Fr} {ts : List Tr} {ss : List Str}, GOk G -> fits G ts = some ss -> ∀ s ∈ ss, Sh s := fun {G ts ss} g h s hs => by
  obtain ⟨i, hi⟩ := List.getElem?_of_mem hs
  have hl := fits_len h
  obtain ⟨t, ht⟩ := some_of_lt (xs := ts) (i := i) (by have := lt_of_some hi; omega)
  obtain ⟨s', h1, h2⟩ := fits_at h ht
  rw [hi] at h2
  cases h2
  exact fit_sg g h1
theorem shwA_strs {K : PySem.W.Frag} {H : Hp} : ∀ ss : List Str, ShwA K H (ss.map V.str) (ss.map PyData.str)
  | [] => .nil
  | s :: ss => .cons (.str s) (shwA_strs ss)
theorem tup_shown {ss : List Str} (h : ∀ s ∈ ss, Sh s) (hl : ss.length <= 1000) : (PyData.tuple (ss.map PyData.str)).shown.length <= 300000 /\ (PyData.tuple (ss.map PyData.str)).showable = true /\ (PyData.tuple (ss.map PyData.str)).hasDict = false /\ (PyData.tuple (ss.map PyData.str)).depth <= 64 := by
  have e16 : (16 : Nat) ^ 8 = 4294967296 := by decide
  have hls : ∀ s ∈ ss, (PyData.str s).leavesShort 8 = true := fun s hs => by
    simp only [PyData.leavesShort, List.all_eq_true, decide_eq_true_eq]
    intro c hc
    have := (h s hs).2 c hc
    omega
  have a : ∀ ss : List Str, (∀ s ∈ ss, Sh s) -> PyData.bulkAll (ss.map PyData.str) <= 21 * ss.length /\ PyData.leavesShortAll 8 (ss.map PyData.str) = true /\ PyData.showableAll (ss.map PyData.str) = true /\ PyData.hasDictAll (ss.map PyData.str) = false /\ PyData.depthAll (ss.map PyData.str) = 0 := fun ss => by
    induction ss with
    | nil => intro _; simp [PyData.bulkAll, PyData.leavesShortAll, PyData.showableAll, PyData.hasDictAll, PyData.depthAll]
    | cons s ss ih =>
      intro h
      obtain ⟨i1, i2, i3, i4, i5⟩ := ih fun x hx => h x (List.mem_cons_of_mem _ hx)
      have h1 : s.cps.size <= 20 := (h s List.mem_cons_self).1
      have h2 : (PyData.str s).leavesShort 8 = true := by
        simp only [PyData.leavesShort, List.all_eq_true, decide_eq_true_eq]
        intro c hc
        have := (h s List.mem_cons_self).2 c hc
        omega
      rw [List.map_cons, PyData.bulkAll, PyData.bulk, List.length_cons, PyData.leavesShortAll, PyData.showableAll, PyData.hasDictAll, PyData.depthAll, h2, i2, i3, i4, i5]
      refine ⟨by omega, rfl, ?_, ?_, ?_⟩
      · simp only [PyData.showable]; rfl
      · simp only [PyData.hasDict]; rfl
      · simp only [PyData.depth]; rfl
  obtain ⟨a1, a2, a3, a4, a5⟩ := a ss h
  have b := PyData.shown_le_bulk 8 (by decide) (.tuple (ss.map PyData.str)) (by simp only [PyData.leavesShort]; exact a2)
  have e : PyData.bulk (.tuple (ss.map PyData.str)) = PyData.bulkAll (ss.map PyData.str) := by simp only [PyData.bulk]
  rw [e] at b
  refine ⟨by omega, by simp only [PyData.showable]; exact a3, by simp only [PyData.hasDict]; exact a4, ?_⟩
  simp only [PyData.depth]
  omega
theorem eq_strs : ∀ xs ys : List Str, eqDs (xs.map fun n => Da.fl (.str n)) (ys.map fun n => Da.fl (.str n)) = decide (xs = ys)
  | [], [] => by unfold eqDs; simp
  | [], y :: ys => by unfold eqDs; simp
  | x :: xs, [] => by unfold eqDs; simp
  | x :: xs, y :: ys => by
    rw [List.map_cons, List.map_cons]
    unfold eqDs
    rw [eq_strs xs ys]
    unfold eqD eqV
    by_cases h : x = y
    · subst h
      simp
    · simp [h]
def Small (t : Tr) : Prop := size t <= 60 /\ deep t <= 20
def spSignOf (C1 C2 : Addr) : Sp := fun vs H Q E => ∃ (G : List Fr) (t : Tr) (vg v : V), vs = [vg, v] /\ GIs H G vg /\ GOk G /\ TrIs H t v /\ TrOk t /\ deep t <= 71 /\ size t <= 1000 /\
  (¬ Small t -> ∀ H', Same H H' -> E (.ref C1) none H') /\ (Small t -> ∀ s, fit G t = some s -> ∀ H', Same H H' -> Q (.str s) H') /\ (Small t -> fit G t = none -> ∀ H', Same H H' -> E (.ref C2) none H')
def spFit (C : Addr) (n : Nat) : Sp := fun vs H Q E => ∃ (G : List Fr) (t : Tr) (vg v : V), vs = [vg, v] /\ GIs H G vg /\ GOk G /\ TrIs H t v /\ TrOk t /\ deep t <= n + 1 /\ size t <= 1000 /\
  (∀ s, fit G t = some s -> ∀ H', Same H H' -> Q (.str s) H') /\ (fit G t = none -> ∀ H', Same H H' -> E (.ref C) none H')
section
variable {P : Program} {w : World} {K : PySem.W.Frag} {mg : Str -> Option Value} {base : Heap} {T : Adr}
theorem ok_fit (X : Tx K mg T) : ∀ n : Nat, FnOk P w K mg base (CXe P w) (n + 4) T.qfittingsign T.d_qfittingsign ["grammar", "tree"] (spFit T.k_NoTree n) := by
  have step : ∀ (n : Nat) (sp : Sp), FnOk P w K mg base (CXe P w) (n + 3) T.qfittingsign T.d_qfittingsign ["grammar", "tree"] sp -> (∀ (G : List Fr) (t : Tr) (vg v : V) (H : Hp) (Q : VK) (E : XK), GIs H G vg -> GOk G -> TrIs H t v -> TrOk t -> deep t <= n -> size t <= 1000 -> (∀ s, fit G t = some s -> ∀ H', Same H H' -> Q (.str s) H') -> (fit G t = none -> ∀ H', Same H H' -> E (.ref T.k_NoTree) none H') -> sp [vg, v] H Q E) -> FnOk P w K mg base (CXe P w) (n + 4) T.qfittingsign T.d_qfittingsign ["grammar", "tree"] (spFit T.k_NoTree n) := by
    intro n sp G_qfittingsign hsp
    have G_qformof := (ok_formof (P := P) (w := w) (base := base) X).mono (show 3 <= n + 3 by omega)
    refine X.F_qfittingsign.okE sc_qfittingsign (fun vs H Q E h => ?_) (fun cdv A outer s H vs Q E hr h => ?_)
    · obtain ⟨_, _, _, _, rfl, _⟩ := h
      rfl
    obtain ⟨G, t, vg, v, rfl, hg, ok, hv, tok, hd, hz, qs, qn⟩ := h
    refine ⟨_, (qss_cons (qs_set (i := 2) sc_qfittingsign.nd rfl (Or.inl rfl) (qe_call G_qformof hr rfl X.m_qformof X.F_qformof.kp X.b_qformof .nil pass_on (qaN (qv 0) (qaS (qe_ix ix_tup (qv 1) qe_int (fun _ _ => rfl)) qa_nil)))) (qss_cons (qs_set (i := 3) sc_qfittingsign.nd rfl (Or.inl rfl) (qe_callTy call_tuple_of rfl X.z_tuple PyProof.Rows.boot_tuple (qaE (qe_compE (ys := ["grammar"]) (js := [0]) outB rfl rfl rfl rfl rfl (qi_tup (qe_ix ix_tup (qv 1) qe_int (fun _ _ => rfl))) (fun _ _ _ _ _ => qif_nil) (fun _ _ _ _ _ b => (qe_call G_qfittingsign hr rfl X.m_qfittingsign X.F_qfittingsign.kp X.b_qfittingsign .nil (pass_blk b) (qaN (qv 1) (qaN (qv 0) qa_nil))))) qa_nil))) (qss_cons (qs_if (qt_cmpR (op_neD hr.units) (qv 3) (qe_ix ix_tup (qv 2) qe_int (fun _ _ => rfl)) (nomark _)) (qss_cons (qs_set (i := 4) sc_qfittingsign.nd rfl (Or.inl rfl) (qe_ix ix_tup (qv 2) qe_int (fun _ _ => rfl))) (qss_one (qs_raise rfl rfl X.m_NoTree X.e_NoTree (qaJ (qe_join (qj_cons qe_str (qj_cons (qe_rep hr (qv 4)) (qj_cons qe_str (qj_cons (qe_rep hr (qv 3)) qj_nil))))) qa_nil) xe_raise))) qss_nil) (qss_one (qs_ret (qe_ix ix_tup (qv 2) qe_int (fun _ _ => rfl))))))), ?_⟩
    obtain ⟨p, b, vs, rfl, hp, hb, hvs⟩ := hv.op
    obtain ⟨g, a, y, us, rfl, hg1, ha, hfr⟩ := id hg
    have lvs := hvs.len
    have lbs := bs_len hz
    have e0 : Str.empty.length = 0 := rfl
    have l1 : (Str.ofString "a node of the form ").length = 19 := by decide
    have l2 : (Str.ofString " has the branches ").length = 18 := by decide
    have hsz : sizeLine = 16777216 := by decide
    have tn : TxOk t.nm := (tok [] t rfl).tx
    refine ⟨_, rfl, _, rfl, p, _, 0, _, rfl, rfl, SqT.of hp, rfl, g, a, y, names G, us, t.nm, rfl, hg1, ha, nmAt_all hfr, tn, ok.nd, ?_⟩
    cases hf : find G t.nm with
    | none =>
      refine .inr ⟨fun hm => ?_, fun H' s' => qn (fit_miss hf) H' s'⟩
      obtain ⟨f, hf'⟩ := find_some hm
      rw [hf] at hf'
      cases hf'
    | some f =>
      obtain ⟨fm, fn⟩ := find_mem hf
      obtain ⟨i, hi⟩ := List.getElem?_of_mem fm
      obtain ⟨vf, hvf, fis⟩ := l2r_at hfr hi
      refine .inl ⟨i, vf, hvf, by rw [List.getElem?_map, hi, <- fn]; rfl, ?_⟩
      obtain ⟨fp, fb, fr, rfl, hfp, hfb⟩ := fis
      refine ⟨_, rfl, p, _, 2, _, rfl, rfl, SqT.of hp, rfl, b, rfl, ⟨_, SqT.of hb⟩, fun D nD => ?_⟩
      refine comp_tpl (K := K) (a := b) (xs := vs) (fun i acc H' => i <= t.bs.length /\ Same H H' /\ H' D = some (.lst acc) /\ ∃ ss, fits G (t.bs.take i) = some ss /\ acc = ss.map V.str) (fitsL (by omega)) ⟨Nat.zero_le _, same_new nD _, upd_same, [], by rw [List.take_zero, fits], rfl⟩ (fun i acc H' ⟨li, sm, hD', ss, hs, e⟩ => ⟨hD', ?_, SqT.of (sm _ _ hb)⟩) (fun i m x acc H' hx ⟨li, sm, hD', ss, hs, e⟩ hm => ?_) (fun acc H' ⟨li, sm, hD', ss, hs, e⟩ => ?_)
      · rw [e, List.length_map, fits_len hs, List.length_take]
        omega
      · obtain ⟨u, hu, hux⟩ := hvs.get hx
        have um := List.mem_of_getElem? hu
        have du := deep_br um
        have zu := size_br um
        have li' := lt_of_some hu
        refine ⟨_, rfl, _, rfl, hsp G u _ x H' _ _ (GIs.same (sameT sm) hg) ok (TrIs.same (sameT sm) u hux) (tok.br hu) (by omega) (by omega) (fun s hs' H2 s2 => ?_) (fun hn H2 s2 => ?_)⟩
        · refine ⟨s2 _ _ hD', vs.length - (i + 1), by have := lt_of_some hx; omega, rfl, by have := lt_of_some hx; omega, by omega, same_upd nD (sm.trans s2), upd_same, ss ++ [s], ?_, ?_⟩
          · rw [take_snocA hu]
            exact fits_snoc hs hs'
          · rw [e, List.map_append]
            rfl
        · exact qn (fit_brs (fits_none hu hn)) _ (sm.trans s2)
      · rw [lvs, List.take_length] at hs
        subst e
        have lss := fits_len hs
        refine ⟨D, _, rfl, .inl ⟨SqL.of hD', fun D2 nD2 => ?_⟩⟩
        have s2 := same_new nD2 (.tup (ss.map V.str))
        have sm2 := sm.trans s2
        have hD2 := upd_same (H := H') (a := D2) (o := .tup (ss.map V.str))
        generalize upd H' D2 (.tup (ss.map V.str)) = H2 at s2 sm2 hD2 ⊢
        refine ⟨_, rfl, _, rfl, fp, _, 2, _, rfl, rfl, SqT.of (sm2 _ _ hfp), rfl, D2, fb, _, _, _, _, rfl, rfl, .inl ⟨SqT.of hD2, SqT.of (sm2 _ _ hfb)⟩, isds_strs _, isds_strs _, by rw [dep_strs]; decide, _, rfl, ?_⟩
        rw [eq_strs]
        refine iteNe (fun hne => ?_) (fun he => ?_)
        · have tfn : TxOk f.nm := (ok.nm f fm).tx
          have ls := shown_str tfn
          obtain ⟨w1, w2, w3, w4⟩ := tup_shown (fits_sh ok hs) (by omega)
          refine ⟨_, rfl, fp, _, 0, _, rfl, rfl, SqT.of (sm2 _ _ hfp), rfl, ?_⟩
          exact ⟨_, rfl, by rw [app_len, e0, l1]; omega, _, rfl, .str _, .str _, by simp only [PyData.showable], by simp only [PyData.hasDict], by simp only [PyData.depth]; decide, by omega, _, rfl, by rw [app_len, app_len, e0, l1]; omega, _, rfl, by rw [app_len, app_len, app_len, e0, l1, l2]; omega, _, rfl, .tuple (ss.map PyData.str), .tup (SqT.of hD2) (shwA_strs ss), w2, w3, w4, by omega, _, rfl, by rw [app_len, app_len, app_len, app_len, e0, l1, l2]; omega, (by show 1 <= 10; decide), qn (fit_ne hf fun ss' h' => by rw [hs] at h'; cases h'; exact hne) _ sm2⟩
        · refine ⟨_, rfl, fp, _, 1, _, rfl, rfl, SqT.of (sm2 _ _ hfp), rfl, qs _ ?_ _ sm2⟩
          exact fit_of hf (by rw [hs, he])
  intro n
  induction n with
  | zero => exact step 0 (fun _ _ _ _ => False) ⟨fun _ _ _ _ h => h.elim, fun _ _ _ _ _ _ _ _ _ _ _ _ _ h => h.elim⟩ (fun G t vg v H Q E _ _ _ _ hd _ _ _ => by have := deep_eq t; omega)
  | succ n ih => exact step (n + 1) _ ih fun G t vg v H Q E h1 h2 h3 h4 h5 h6 h7 h8 => ⟨G, t, vg, v, rfl, h1, h2, h3, h4, h5, h6, h7, h8⟩
theorem ok_signof (X : Tx K mg T) : FnOk P w K mg base (CXe P w) 73 T.qsignof T.d_qsignof ["grammar", "tree"] (spSignOf T.k_TooGreat T.k_NoTree) := by
  have G_qchecktreesize := ok_size (P := P) (w := w) (base := base) X
  have G_qfittingsign := (ok_fit (P := P) (w := w) (base := base) X 19).mono (show 23 <= 72 by omega)
  refine X.F_qsignof.okE sc_qsignof (fun vs H Q E h => ?_) (fun cdv A outer s H vs Q E hr h => ?_)
  · obtain ⟨_, _, _, _, rfl, _⟩ := h
    rfl
  obtain ⟨G, t, vg, v, rfl, hg, ok, hv, tok, hd, hz, qg, qs, qn⟩ := h
  refine ⟨_, (qss_cons (qs_expr (qe_call G_qchecktreesize hr rfl X.m_qchecktreesize X.F_qchecktreesize.kp X.b_qchecktreesize .nil pass_on (qaN (qv 1) qa_nil))) (qss_one (qs_ret (qe_call G_qfittingsign hr rfl X.m_qfittingsign X.F_qfittingsign.kp X.b_qfittingsign .nil pass_on (qaN (qv 0) (qaN (qv 1) qa_nil)))))), ?_⟩
  refine ⟨_, rfl, t, v, rfl, hv, hd, hz, fun hsm H1 s1 => ?_, fun hgr H1 s1 => qg hgr H1 s1⟩
  exact ⟨_, rfl, _, rfl, G, t, vg, v, rfl, GIs.same (sameT s1) hg, ok, TrIs.same (sameT s1) t hv, tok, hsm.2, by have := hsm.1; omega, fun s hs H2 s2 => qs hsm s hs H2 (s1.trans s2), fun hn H2 s2 => qn hsm hn H2 (s1.trans s2)⟩
end
end K22
namespace K22
open PySem L2 TR FT
open TM 
def spDeck (K : PySem.W.Frag) : Sp := fun vs H Q _ => ∃ (a : Addr) (ns : List Int), vs = [.ref a, .int 60] /\ SqL K H a (ns.map V.int) /\ ns.length <= 63 /\
  ∀ (D : Addr) (cs : List Int) (H' : Hp), Same H H' -> H D = none -> H' D = some (.lst (cs.map V.int)) -> cs.length = 60 -> (∀ c ∈ cs, 0 <= c /\ c < 1000000000000000000) -> Q (.ref D) H'
theorem fold_app : ∀ (l : List (Array Nat)) (acc : Array Nat), (l.foldl (· ++ ·) acc).toList = acc.toList ++ (l.map Array.toList).flatten
  | [], acc => by simp
  | a :: l, acc => by rw [List.foldl_cons, fold_app l]; simp
theorem mul_all (g : Nat) (n : Int) : ∀ c ∈ (Txt.mul ⟨#[g]⟩ n).cps.toList, c = g := by
  intro c hc
  unfold Txt.mul at hc
  split at hc
  · exact absurd hc (by simp [Str.empty])
  · split at hc
    · simpa using hc
    · rw [show ((⟨(List.replicate n.toNat (#[g] : Array Nat)).foldl (· ++ ·) #[]⟩ : Str)).cps.toList = _ from fold_app _ _] at hc
      simp only [List.map_replicate, List.nil_append, List.mem_flatten] at hc
      obtain ⟨l, hl, h⟩ := hc
      have h1 : 0 < n /\ l = [g] := by simpa using hl
      rw [h1.2] at h
      simpa using h
abbrev letters26 : Str := "abcdefghijklmnopqrstuvwxyz"
theorem let_in : ∀ c ∈ letters26.cps.toList, letOk c = true := by decide +kernel
theorem mul1_len (g : Nat) {n : Int} (h0 : 0 <= n) : ((Txt.mul ⟨#[g]⟩ n).length : Int) = n := by
  have e := PyProof.Rows.len_mul ⟨#[g]⟩ n
  have e1 : (Str.length ⟨#[g]⟩) = 1 := rfl
  rw [e1, if_neg (by simpa using h0)] at e
  omega
theorem mul_list (g : Nat) {n : Int} (h0 : 0 <= n) : (Txt.mul ⟨#[g]⟩ n).cps.toList = List.replicate n.toNat g := by
  have l := mul1_len g h0
  rw [len_list] at l
  refine List.eq_replicate_iff.mpr ⟨by omega, mul_all g n⟩
def wAt (c : Int) : Nat := (c / 8 % (1 + c % 8)).toNat
def wFill (c : Int) : Nat := letters26.cps.toList.getD (c / 64 % 26).toNat 97
def wSign (c k : Int) : Nat := letters26.cps.toList.getD ((c / 1664 + k) % 26).toNat 97
def wLst (c k : Int) : List Nat := List.replicate (wAt c) (wFill c) ++ wSign c k :: List.replicate ((1 + c % 8).toNat - wAt c - 1) (wFill c)
def wrd (c k : Int) : Str := mkS (wLst c k)
theorem let_len : letters26.cps.toList.length = 26 := by decide +kernel
theorem at_let (c : Int) : atI letters26.cps.toList (c % 26) = some (letters26.cps.toList.getD (c % 26).toNat 97) /\ letOk (letters26.cps.toList.getD (c % 26).toNat 97) = true := by
  have h0 := Int.emod_nonneg c (show (26 : Int) ≠ 0 by decide)
  have h1 := Int.emod_lt_of_pos c (show (0 : Int) < 26 by decide)
  generalize c % 26 = m at h0 h1
  obtain ⟨k, rfl⟩ := Int.eq_ofNat_of_zero_le h0
  have hl := let_len
  have hk : k < letters26.cps.toList.length := by omega
  have e : letters26.cps.toList.getD (Int.toNat (k : Int)) 97 = letters26.cps.toList[k] := by
    rw [List.getD_eq_getElem?_getD, show Int.toNat (k : Int) = k from rfl, List.getElem?_eq_getElem hk]
    rfl
  rw [e]
  exact ⟨atI_nat (List.getElem?_eq_getElem hk), let_in _ (List.getElem_mem _)⟩
theorem wrd_ok (c k : Int) : NmOk (wrd c k) := by
  have c0 := Int.emod_nonneg c (show (8 : Int) ≠ 0 by decide)
  have c1 := Int.emod_lt_of_pos c (show (0 : Int) < 8 by decide)
  have a0 := Int.emod_nonneg (c / 8) (show (1 + c % 8 : Int) ≠ 0 by omega)
  have a1 := Int.emod_lt_of_pos (c / 8) (show (0 : Int) < 1 + c % 8 by omega)
  unfold wrd NmOk
  rw [mk_list]
  refine ⟨by unfold wLst; simp, ?_, fun x hx => ?_⟩
  · unfold wLst wAt
    rw [List.length_append, List.length_cons, List.length_replicate, List.length_replicate]
    omega
  · unfold wLst at hx
    rcases List.mem_append.mp hx with h | h
    · rw [List.eq_of_mem_replicate h]; exact (at_let (c / 64)).2
    · rcases List.mem_cons.mp h with rfl | h
      · exact (at_let (c / 1664 + k)).2
      · rw [List.eq_of_mem_replicate h]; exact (at_let (c / 64)).2
theorem let_inj : ∀ i < 26, ∀ j < 26, letters26.cps.toList.getD i 97 = letters26.cps.toList.getD j 97 -> i = j := by decide +kernel
theorem wrd_inj {c k j : Int} (h0 : 0 <= k) (h1 : k < 26) (g0 : 0 <= j) (g1 : j < 26) (e : wrd c k = wrd c j) : k = j := by
  have e : wLst c k = wLst c j := by
    have := congrArg (fun s : Str => s.cps.toList) e
    unfold wrd at this
    simpa [mk_list] using this
  unfold wLst at e
  have e2 := (List.cons.inj (List.append_cancel_left e)).1
  unfold wSign at e2
  have k0 := Int.emod_nonneg (c / 1664 + k) (show (26 : Int) ≠ 0 by decide)
  have k1 := Int.emod_lt_of_pos (c / 1664 + k) (show (0 : Int) < 26 by decide)
  have j0 := Int.emod_nonneg (c / 1664 + j) (show (26 : Int) ≠ 0 by decide)
  have j1 := Int.emod_lt_of_pos (c / 1664 + j) (show (0 : Int) < 26 by decide)
  have := let_inj _ (by omega) _ (by omega) e2
  omega
theorem wrd_tx (c k : Int) : TxOk (wrd c k) := by
  obtain ⟨_, h2, h3⟩ := wrd_ok c k
  refine ⟨by rw [len_list]; omega, fun x hx => ?_⟩
  have := h3 x hx
  unfold letOk at this
  rw [Bool.and_eq_true, decide_eq_true_eq, decide_eq_true_eq] at this
  omega
def spWord : Sp := fun vs H Q _ => ∃ c k : Int, vs = [.int c, .int k] /\ Q (.str (wrd c k)) H
section
variable {P : Program} {w : World} {K : PySem.W.Frag} {mg : Str -> Option Value} {base : Heap} {T : Adr}
theorem ok_word (X : Tx K mg T) : FnOk P w K mg base CX0 1 T.qword T.d_qword ["_law_cell", "_law_k"] spWord := by
  refine X.F_qword.okQ sc_qword (fun vs H Q E h => ?_) (fun cdv A outer s H vs Q E hr h => ?_)
  · obtain ⟨_, _, rfl, _⟩ := h
    rfl
  obtain ⟨c, k, rfl, q⟩ := h
  refine ⟨_, (qss_cons (qs_set (i := 2) sc_qword.nd rfl (Or.inl rfl) qe_str) (qss_cons (qs_set (i := 3) sc_qword.nd rfl (Or.inl rfl) (qe_op op_add qe_int (qe_op op_mod (qv 0) qe_int))) (qss_cons (qs_set (i := 4) sc_qword.nd rfl (Or.inl rfl) (qe_op op_mod (qe_op op_fdiv (qv 0) qe_int) (qv 3))) (qss_cons (qs_set (i := 5) sc_qword.nd rfl (Or.inl rfl) (qe_ix ix_str (qv 2) (qe_op op_mod (qe_op op_fdiv (qv 0) qe_int) qe_int) (fun _ _ => rfl))) (qss_one (qs_ret (qe_op op_add_str (qe_op op_add_str (qe_op op_rep_str (qv 5) (qv 4)) (qe_ix ix_str (qv 2) (qe_op op_mod (qe_op op_add (qe_op op_fdiv (qv 0) qe_int) (qv 1)) qe_int) (fun _ _ => rfl))) (qe_op op_rep_str (qv 5) (qe_op op_sub (qe_op op_sub (qv 3) (qv 4)) qe_int))))))))), ?_⟩
  have c0 := Int.emod_nonneg c (show (8 : Int) ≠ 0 by decide)
  have c1 := Int.emod_lt_of_pos c (show (0 : Int) < 8 by decide)
  have hpos : (0 : Int) < 1 + c % 8 := by omega
  have a0 := Int.emod_nonneg (c / 8) (show (1 + c % 8 : Int) ≠ 0 by omega)
  have a1 := Int.emod_lt_of_pos (c / 8) hpos
  have hg := (at_let (c / 64)).1
  have hg2 := (at_let (c / 1664 + k)).1
  refine ⟨_, rfl, _, _, rfl, rfl, (by show (0 : Int) < 8; decide), _, _, rfl, rfl, ?_⟩
  refine ⟨_, rfl, _, _, rfl, rfl, ⟨by decide, by decide⟩, _, rfl, _, _, rfl, rfl, hpos, ?_⟩
  refine ⟨_, rfl, _, rfl, _, _, rfl, rfl, ⟨by decide, by decide⟩, _, _, rfl, rfl, (by show (0 : Int) < 26; decide), letters26, _, wFill c, rfl, rfl, (by decide +kernel), hg, ?_⟩
  have l1 := mul1_len (wFill c) (n := c / 8 % (1 + c % 8)) (by omega)
  have l2 := mul1_len (wFill c) (n := 1 + c % 8 - c / 8 % (1 + c % 8) - 1) (by omega)
  have e1 : (Str.length ⟨#[wFill c]⟩) = 1 := rfl
  have e2 : (Str.length ⟨#[wSign c k]⟩) = 1 := rfl
  refine ⟨_, rfl, _, rfl, _, _, rfl, rfl, (by rw [e1]; decide), by omega, by omega, _, rfl, _, rfl, _, _, rfl, rfl, ⟨by decide, by decide⟩, _, rfl, _, _, rfl, rfl, _, _, rfl, rfl, (by show (0 : Int) < 26; decide), letters26, _, wSign c k, rfl, rfl, (by decide +kernel), hg2, _, _, rfl, rfl, fits2 (by omega), ?_⟩
  refine ⟨_, rfl, _, rfl, _, rfl, _, _, rfl, rfl, _, _, rfl, rfl, _, _, rfl, rfl, (by rw [e1]; decide), by omega, by omega, _, _, rfl, rfl, fits2 (by rw [app_len]; omega), ?_⟩
  have ez : Txt.mul ⟨#[wFill c]⟩ (c / 8 % (1 + c % 8)) ++ (⟨#[wSign c k]⟩ : Str) ++ Txt.mul ⟨#[wFill c]⟩ (1 + c % 8 - c / 8 % (1 + c % 8) - 1) = wrd c k := by
    refine str_ext ?_
    unfold wrd wLst wAt
    rw [mk_list, app_list, app_list, mul_list _ (by omega), mul_list _ (by omega)]
    have e : (1 + c % 8 - c / 8 % (1 + c % 8) - 1).toNat = (1 + c % 8).toNat - (c / 8 % (1 + c % 8)).toNat - 1 := by omega
    rw [e]
    simp
  rw [ez]
  exact q
theorem ok_deck (X : Tx K mg T) : FnOk P w K mg base CX0 1 T.qdeck T.d_qdeck ["_law_script", "_law_many_here"] (spDeck K) := by
  refine X.F_qdeck.okQ sc_qdeck (fun vs H Q E h => ?_) (fun cdv A outer s H vs Q E hr h => ?_)
  · obtain ⟨_, _, rfl, _⟩ := h
    rfl
  obtain ⟨a, ns, rfl, hS, h63, q⟩ := h
  refine ⟨_, (qss_cons (qs_setC (ys := []) (js := []) rfl rfl (qi_list (qe_slice sl_list (qv 0) qo_none (qo_some (qv 1)))) (fun _ _ _ _ _ => qif_nil) (fun _ _ _ _ _ => (qe_op op_mod (qv 0) (qe_op op_pow qe_int qe_int))) (qg_name (i := 2) sc_qdeck.nd rfl (Or.inl rfl)) rfl) (qss_cons (qs_set (i := 3) sc_qdeck.nd rfl (Or.inl rfl) (qe_op op_add qe_int (qe_callB call_len_seq rfl X.z_len PySem.boot_len (qaN (qv 2) qa_nil)))) (qss_cons (qs_for PassesOwn.never rfl (qi_list (qv 2)) (qg_name (i := 4) sc_qdeck.nd rfl (Or.inl rfl)) (qss_one (qs_set (i := 3) sc_qdeck.nd rfl (Or.inl rfl) (qe_op op_mod (qe_op op_add (qe_op op_mul (qv 3) qe_int) (qv 4)) qe_int)))) (qss_cons (qs_while PassesOwn.never (qt_cmpR op_lt (qe_callB call_len_seq rfl X.z_len PySem.boot_len (qaN (qv 2) qa_nil)) (qv 1) (nomark _)) (qss_cons (qs_set (i := 3) sc_qdeck.nd rfl (Or.inl rfl) (qe_op op_mod (qe_op op_add (qe_op op_mul (qv 3) qe_int) qe_int) qe_int)) (qss_one (qs_expr (qe_bm PySem.F.plainAttrs_list PySem.F.slot_list_append PySem.F.type_list_append mt_append (qv 2) (qaN (qv 3) qa_nil)))))) (qss_one (qs_ret (qe_listRev rfl rfl X.z_list rfl X.z_reversed (qv 2)))))))), ?_⟩
  refine ⟨_, rfl, _, rfl, _, rfl, a, _, rfl, hS, fun sl hsl => ?_⟩
  have ecs : cutV (ns.map V.int) none (some 60) = (ns.take 60).map V.int := by
    rw [show (some 60 : Option Int) = some ((60 : Nat) : Int) from rfl, cut_take', List.map_take]
  rw [ecs]
  generalize hns : ns.take 60 = ms
  have lms : ms.length <= 60 := by rw [<- hns, List.length_take]; omega
  clear hns
  have s0 := same_new hsl (.lst (ms.map V.int))
  refine ⟨sl, rfl, ⟨_, SqL.of upd_same⟩, fun D hD => ?_⟩
  refine comp_lstM (K := K) (ys := (ms.map fun n => n % 10 ^ Int.toNat 18).map V.int) (fitsL (by rw [List.length_map]; omega)) (by simp) (SqL.of upd_same) hD (fun i x y H2 hx hy s2 Q' k => ?_) fun H1 s1 hD1 => ?_
  · rw [List.getElem?_map] at hx
    rw [List.getElem?_map, List.getElem?_map] at hy
    cases e : ms[i]? with
    | none => rw [e] at hx; cases hx
    | some n =>
      rw [e] at hx hy
      cases hx
      cases hy
      exact ⟨_, rfl, _, _, rfl, rfl, ⟨by decide, by decide, by decide⟩, _, _, rfl, rfl, (by show (0 : Int) < 10 ^ Int.toNat 18; decide), k H2 (Same.refl H2)⟩
  have hD0 : H D = none := s0.free hD
  have hcs : ∀ c ∈ (ms.map fun n => n % 10 ^ Int.toNat 18), 0 <= c /\ c < 1000000000000000000 := fun c hc => by
    obtain ⟨n, _, rfl⟩ := List.mem_map.mp hc
    exact ⟨Int.emod_nonneg _ (by decide), Int.emod_lt_of_pos _ (by decide)⟩
  have lcs : (ms.map fun n => n % 10 ^ Int.toNat 18).length <= 60 := by rw [List.length_map]; exact lms
  generalize (ms.map fun n => n % 10 ^ Int.toNat 18) = cs at hD1 hcs lcs
  refine ⟨_, rfl, D, _, rfl, .inl (SqL.of hD1), _, _, rfl, rfl, ?_⟩
  refine ⟨_, rfl, D, rfl, ⟨_, SqL.of hD1⟩, ?_⟩
  refine for_list (K := K) (a := D) (xs := cs.map V.int) (fun i σ H' => (∃ sd x4, σ = [some (.ref a), some (.int 60), some (.ref D), some (.int sd), x4]) /\ H' = H1) ⟨⟨_, _, rfl⟩, rfl⟩ (fun i σ H' _ ⟨_, e⟩ => by rw [e]; exact SqL.of hD1) ?_ ?_
  · rintro i y σ H' hy ⟨⟨sd, x4, rfl⟩, rfl⟩
    rw [List.getElem?_map] at hy
    cases e : cs[i]? with
    | none => rw [e] at hy; cases hy
    | some n =>
      rw [e] at hy
      cases hy
      exact ⟨_, rfl, _, _, rfl, rfl, .inr ⟨by decide, by decide⟩, _, rfl, _, _, rfl, rfl, _, _, rfl, rfl, (by show (0 : Int) < 999999937; decide), ⟨_, _, rfl⟩, rfl⟩
  · rintro σ H' ⟨⟨sd, x4, rfl⟩, rfl⟩
    refine ⟨fun m σ H' => ∃ (sd : Int) (x4 : Option V) (cs : List Int), m = 60 - cs.length /\ σ = [some (.ref a), some (.int 60), some (.ref D), some (.int sd), x4] /\ Same H H' /\ H' D = some (.lst (cs.map V.int)) /\ cs.length <= 60 /\ ∀ c ∈ cs, 0 <= c /\ c < 1000000000000000000, ⟨_, sd, x4, cs, rfl, rfl, s0.trans s1, hD1, lcs, hcs⟩, ?_⟩
    rintro m σ H2 ⟨sd, x4, cs, rfl, rfl, sm, hd, lc, hc⟩
    refine ⟨_, rfl, D, _, rfl, .inl (SqL.of hd), _, rfl, _, _, rfl, rfl, _, rfl, iteDd (fun hlt => ⟨_, fun σ' H'' h => h, ?_⟩) (fun hge => ?_)⟩
    · rw [List.length_map] at hlt
      refine ⟨_, rfl, _, _, rfl, rfl, .inr ⟨by decide, by decide⟩, _, _, rfl, rfl, _, _, rfl, rfl, (by show (0 : Int) < 2147483647; decide), ?_⟩
      have b0 := Int.emod_nonneg (sd * 48271 + 11) (show (2147483647 : Int) ≠ 0 by decide)
      have b1 := Int.emod_lt_of_pos (sd * 48271 + 11) (show (0 : Int) < 2147483647 by decide)
      refine ⟨_, rfl, .inl ⟨rfl, _, SqL.of hd⟩, _, rfl, D, _, _, rfl, rfl, hd, fitsL (by rw [List.length_map]; omega), ?_⟩
      refine ⟨60 - (cs ++ [(sd * 48271 + 11) % 2147483647]).length, by rw [List.length_append, List.length_singleton]; omega, _, _, cs ++ [(sd * 48271 + 11) % 2147483647], rfl, rfl, same_upd hD0 sm, by rw [upd_same, List.map_append]; rfl, by rw [List.length_append, List.length_singleton]; omega, fun c hm => ?_⟩
      rcases List.mem_append.mp hm with h | h
      · exact hc c h
      · rw [List.mem_singleton.mp h]
        exact ⟨b0, by omega⟩
    · rw [List.length_map] at hge
      refine ⟨_, rfl, D, _, rfl, SqL.of hd, fun r hr => ?_⟩
      refine q r cs.reverse _ (sm.trans (same_new hr _)) (sm.free hr) (by rw [upd_same, List.map_reverse]) (by rw [List.length_reverse]; omega) fun c hm => hc c (List.mem_reverse.mp hm)
end
theorem pig {α : Type} [DecidableEq α] : ∀ {l used : List α}, l.Nodup -> (∀ x ∈ l, x ∈ used) -> l.length <= used.length
  | [], used, _, _ => Nat.zero_le _
  | x :: l, used, nd, h => by
    obtain ⟨nx, nd'⟩ := List.nodup_cons.mp nd
    have hx := h x (by simp)
    have := pig (used := used.erase x) nd' fun y hy => (List.mem_erase_of_ne (fun z => nx (by rw [<- z]; exact hy))).mpr (h y (by simp [hy]))
    rw [List.length_erase_of_mem hx] at this
    have := List.length_pos_of_mem hx
    rw [List.length_cons]
    omega
def words26 (c : Int) : List Str := (List.range 26).map fun (k : Nat) => wrd c (k : Int)
theorem words_nd (c : Int) : (words26 c).Nodup := by
  unfold words26
  refine List.pairwise_map.mpr (List.pairwise_iff_getElem.mpr fun i j hi hj hlt he => ?_)
  rw [List.length_range] at hi hj
  rw [List.getElem_range, List.getElem_range] at he
  have := wrd_inj (by omega) (by omega) (by omega) (by omega) he
  omega
theorem inV_str {z : Str} {used : List Str} : inV (.str z) (used.map V.str) = decide (z ∈ used) := by
  unfold inV
  rw [List.any_map]
  by_cases h : z ∈ used
  · rw [decide_eq_true h, List.any_eq_true]
    exact ⟨_, h, by show (z == z) = true; simp⟩
  · rw [decide_eq_false h, List.any_eq_false]
    intro x hx
    show ¬ (x == z) = true
    intro q
    have q : x = z := by simpa using q
    rw [q] at hx
    exact h hx
theorem flat_strs (used : List Str) : (used.map V.str).all flatV = true := by rw [List.all_map, List.all_eq_true]; intro x _; rfl
theorem from_list' {x : Str} {k : Int} (j : Nat) (e : k = (j : Int)) (h : j <= x.cps.toList.length) : (Txt.slice x (some k) none).cps.toList = x.cps.toList.drop j := by
  subst e
  have := PySem.StrLaws.sliceText_from (x := x) (i := (j : Int)) ⟨by omega, by omega⟩
  have e : Txt.slice x (some (j : Int)) none = PySem.StrLaws.sliceText x (some (j : Int)) none := rfl
  rw [e, this]
  simp
  rw [List.take_of_length_le (by simp)]
theorem to_list {x : Str} {j : Nat} (h : j <= x.cps.toList.length) : (Txt.slice x none (some (j : Int))).cps.toList = x.cps.toList.take j := by
  have := PySem.StrLaws.sliceText_to (x := x) (j := (j : Int)) ⟨by omega, by omega⟩
  have e : Txt.slice x none (some (j : Int)) = PySem.StrLaws.sliceText x none (some (j : Int)) := rfl
  rw [e, this]
  simp
theorem init_list {x : Str} (h : 1 <= x.length) : (Txt.slice x none (some (-1))).cps.toList = x.cps.toList.take (x.length - 1) := by
  have e : Txt.slice x none (some (-1)) = PySem.StrLaws.sliceText x none (some (-1)) := rfl
  rw [e, PySem.StrLaws.sliceText_neg_hi x none (by decide) (by omega)]
  have e2 : (-1 : Int) + (x.length : Int) = ((x.length - 1 : Nat) : Int) := by omega
  rw [e2]
  exact to_list (by rw [<- len_list]; omega)
def Nm8 (z : Str) : Prop := z.length <= 9 /\ ∀ c ∈ z.cps.toList, c < 128
theorem wrd8 (c k : Int) : Nm8 (wrd c k) := ⟨by rw [len_list]; have := (wrd_ok c k).2.1; omega, (wrd_tx c k).2⟩
theorem wrd_len (c k : Int) : 0 < (wrd c k).length /\ (wrd c k).length < 9 := by
  obtain ⟨h1, h2, _⟩ := wrd_ok c k
  rw [len_list]
  exact ⟨List.length_pos_iff.mpr h1, by omega⟩
def spFresh : Sp := fun vs H Q _ => ∃ (u : Addr) (used : List Str) (near : Str) (c : Int), vs = [.ref u, .str near, .int c] /\ H u = some (.lst (used.map V.str)) /\ used.length <= 25 /\ 1 <= near.length /\ near.length <= 8 /\ (∀ c ∈ near.cps.toList, c < 128) /\ ∀ (z : Str) (H' : Hp), Same H H' -> z ∉ used -> Nm8 z -> Q (.str z) H'
section
variable {P : Program} {w : World} {K : PySem.W.Frag} {mg : Str -> Option Value} {base : Heap} {T : Adr}
theorem ok_fresh (X : Tx K mg T) : FnOk P w K mg base CX0 2 T.qfresh T.d_qfresh ["_law_used", "_law_near", "_law_cell"] spFresh := by
  have G_qword := ok_word (P := P) (w := w) (base := base) X
  refine X.F_qfresh.okQ sc_qfresh (fun vs H Q E h => ?_) (fun cdv A outer s H vs Q E hr h => ?_)
  · obtain ⟨_, _, _, _, rfl, _⟩ := h
    rfl
  obtain ⟨u, used, near, c, rfl, hu, l25, n1, n8, asc, q⟩ := h
  refine ⟨_, (qss_cons (qs_set (i := 3) sc_qfresh.nd rfl (Or.inl rfl) (qe_lst (qaS (qe_slice sl_str (qv 1) qo_none (qo_some (qe_un un_neg qe_int))) (qaB (qe_op op_add_str (qv 1) qe_str) (qaS (qe_slice sl_str (qv 1) (qo_some qe_int) qo_none) qa_nil))))) (qss_cons (qs_set (i := 3) sc_qfresh.nd rfl (Or.inl rfl) (qe_op op_cat (qe_slice sl_list (qv 3) (qo_some (qe_op op_mod (qv 2) qe_int)) qo_none) (qe_slice sl_list (qv 3) qo_none (qo_some (qe_op op_mod (qv 2) qe_int))))) (qss_cons (qs_for PassesOwn.never rfl (qi_list (qe_op op_cat (qv 3) (qe_comp (ys := ["_law_cell"]) (js := [2]) rfl rfl (qi_range1 rfl X.z_range (qaC qe_int qa_nil)) (fun _ _ _ _ _ => qif_nil) (fun _ _ _ _ _ => (qe_call G_qword hr rfl X.m_qword X.F_qword.kp X.b_qword .nil pass0 (qaN (qv 1) (qaN (qv 0) qa_nil))))))) (qg_name (i := 4) sc_qfresh.nd rfl (Or.inl rfl)) (qss_one (qs_if (qw_pt (qw_and (qt_cmpR op_notIn_seq (qv 4) (qv 0) rfl) (qw_and (qt_cmpR op_lt qe_int (qe_callB call_len_str rfl X.z_len PySem.boot_len (qaN (qv 4) qa_nil)) (nomark _)) (qw_and1 (qt_cmpR op_lt (qe_callB call_len_str rfl X.z_len PySem.boot_len (qaN (qv 4) qa_nil)) qe_int (nomark _)))))) (qss_one (qs_ret (qv 4))) qss_nil))) (qss_one (qs_ret qe_str))))), ?_⟩
  have ea : (Str.ofString "a").length = 1 := by decide
  have la : ("a" : Str).cps.toList = [97] := by decide
  refine ⟨_, rfl, _, rfl, _, rfl, near, rfl, fits2 (by omega), _, rfl, _, _, rfl, rfl, fits2 (by omega), _, rfl, _, rfl, near, rfl, fits2 (by omega), (by show 3 <= sizeLine; decide), fun a1 h1 => ?_⟩
  have g1 : Nm8 (Txt.slice near none (some (-1))) := by
    have e := init_list n1
    refine ⟨by rw [len_list, e, List.length_take, <- len_list]; omega, fun x hx => ?_⟩
    rw [e] at hx
    exact asc x (List.mem_of_mem_take hx)
  have g2 : Nm8 (near ++ "a") := by
    refine ⟨by rw [app_len]; show near.length + (Str.ofString "a").length <= 9; omega, fun x hx => ?_⟩
    rw [app_list, la] at hx
    rcases List.mem_append.mp hx with h | h
    · exact asc x h
    · rw [List.mem_singleton.mp h]; decide
  have g3 : Nm8 (Txt.slice near (some 1) none) := by
    have e := from_list' (x := near) (k := 1) 1 rfl (by rw [<- len_list]; omega)
    refine ⟨by rw [len_list, e, List.length_drop, <- len_list]; omega, fun x hx => ?_⟩
    rw [e] at hx
    exact asc x (List.mem_of_mem_drop hx)
  have sH := same_new h1 (.lst [.str (Txt.slice near none (some (-1))), .str (near ++ "a"), .str (Txt.slice near (some 1) none)])
  have hl1 : upd H a1 (.lst [.str (Txt.slice near none (some (-1))), .str (near ++ "a"), .str (Txt.slice near (some 1) none)]) a1 = some (.lst ([Txt.slice near none (some (-1)), near ++ "a", Txt.slice near (some 1) none].map V.str)) := upd_same
  have gw : ∀ z ∈ [Txt.slice near none (some (-1)), near ++ "a", Txt.slice near (some 1) none], Nm8 z := by
    intro z hz
    simp only [List.mem_cons, List.mem_nil_iff, or_false] at hz
    rcases hz with rfl | rfl | rfl
    · exact g1
    · exact g2
    · exact g3
  have l3 : [Txt.slice near none (some (-1)), near ++ "a", Txt.slice near (some 1) none].length = 3 := rfl
  generalize [Txt.slice near none (some (-1)), near ++ "a", Txt.slice near (some 1) none] = ws at hl1 gw l3
  generalize upd H a1 (.lst [.str (Txt.slice near none (some (-1))), .str (near ++ "a"), .str (Txt.slice near (some 1) none)]) = H1 at sH hl1 ⊢
  have m0 := Int.emod_nonneg c (show (3 : Int) ≠ 0 by decide)
  have m1 := Int.emod_lt_of_pos c (show (0 : Int) < 3 by decide)
  obtain ⟨m, hm⟩ := Int.eq_ofNat_of_zero_le m0
  refine ⟨_, rfl, _, rfl, _, _, rfl, rfl, (by show (0 : Int) < 3; decide), _, rfl, a1, _, rfl, SqL.of hl1, fun b1 hb1 => ?_⟩
  rw [hm, cut_drop', <- List.map_drop]
  have s1 := same_new hb1 (.lst ((ws.drop m).map V.str))
  refine ⟨_, rfl, _, rfl, _, _, rfl, rfl, (by show (0 : Int) < 3; decide), _, rfl, a1, _, rfl, SqL.of (s1 _ _ hl1), fun b2 hb2 => ?_⟩
  rw [hm, cut_take', <- List.map_take]
  have s2 := same_new hb2 (.lst ((ws.take m).map V.str))
  refine ⟨b1, b2, _, _, rfl, rfl, s2 _ _ upd_same, upd_same, fits2 (by rw [List.length_map, List.length_map, List.length_drop, List.length_take]; omega), fun b3 hb3 => ?_⟩
  have s3 := same_new hb3 (.lst ((ws.drop m).map V.str ++ (ws.take m).map V.str))
  have s13 := s1.trans (s2.trans s3)
  have hb3' : upd (upd (upd H1 b1 (.lst ((ws.drop m).map V.str))) b2 (.lst ((ws.take m).map V.str))) b3 (.lst ((ws.drop m).map V.str ++ (ws.take m).map V.str)) b3 = some (.lst ((ws.drop m ++ ws.take m).map V.str)) := by rw [upd_same, List.map_append]
  have gw' : ∀ z ∈ ws.drop m ++ ws.take m, Nm8 z := fun z hz => by
    rcases List.mem_append.mp hz with h | h
    · exact gw z (List.mem_of_mem_drop h)
    · exact gw z (List.mem_of_mem_take h)
  have lw : (ws.drop m ++ ws.take m).length <= 3 := by rw [List.length_append, List.length_drop, List.length_take]; omega
  generalize upd (upd (upd H1 b1 (.lst ((ws.drop m).map V.str))) b2 (.lst ((ws.take m).map V.str))) b3 (.lst ((ws.drop m).map V.str ++ (ws.take m).map V.str)) = H2 at s13 hb3' ⊢
  generalize ws.drop m ++ ws.take m = w3 at hb3' gw' lw
  refine ⟨_, rfl, _, rfl, (by decide), (by decide), fun B hB => ?_⟩
  refine comp_rng (fun i acc G => acc = ((words26 c).take i).map V.str /\ acc.length = i /\ Same H2 G /\ G B = some (.lst acc)) (by decide) ⟨rfl, rfl, same_new hB _, upd_same⟩ (fun i acc G ⟨_, l, _, d⟩ => ⟨d, l⟩) ?_ ?_
  · rintro i m' acc G hi ⟨e, l, sm, dd⟩ hm'
    have hi : i < 26 := hi
    refine ⟨_, rfl, _, rfl, c, _, rfl, cstep hi hm' dd ⟨?_, by rw [List.length_append, l]; rfl, same_upd hB sm, upd_same⟩⟩
    have hw : (words26 c)[i]? = some (wrd c (0 + (i : Int))) := by
      unfold words26
      rw [List.getElem?_map, List.getElem?_range hi, show (0 + (i : Int)) = (i : Int) by omega]
      rfl
    rw [take_snocA hw, List.map_append, e]
    rfl
  · rintro acc G ⟨e, l, sm, dd⟩
    have l26 : (words26 c).length = 26 := by unfold words26; rw [List.length_map, List.length_range]
    have e : acc = (words26 c).map V.str := by rw [e, List.take_of_length_le (by show (words26 c).length <= 26; omega)]
    subst e
    refine ⟨b3, B, _, _, rfl, rfl, sm _ _ hb3', dd, fits2 (by rw [List.length_map, List.length_map]; omega), fun b4 hb4 => ?_⟩
    have s4 := same_new hb4 (.lst (w3.map V.str ++ (words26 c).map V.str))
    have hb4' : upd G b4 (.lst (w3.map V.str ++ (words26 c).map V.str)) b4 = some (.lst ((w3 ++ words26 c).map V.str)) := by rw [upd_same, List.map_append]
    have sA := sH.trans (s13.trans (sm.trans s4))
    generalize upd G b4 (.lst (w3.map V.str ++ (words26 c).map V.str)) = G4 at sA hb4' ⊢
    have huA := sA _ _ hu
    have gall : ∀ z ∈ w3 ++ words26 c, Nm8 z := fun z hz => by
      rcases List.mem_append.mp hz with h | h
      · exact gw' z h
      · unfold words26 at h
        obtain ⟨k, _, rfl⟩ := List.mem_map.mp h
        exact wrd8 _ _
    refine ⟨b4, rfl, ⟨_, SqL.of hb4'⟩, for_list (K := K) (a := b4) (xs := (w3 ++ words26 c).map V.str) (fun i σ H' => H' = G4 /\ (∃ x3 x4, σ = [some (.ref u), some (.str near), some (.int c), x3, x4]) /\ ∀ j < i, ∀ z, (w3 ++ words26 c)[j]? = some z -> ¬ (z ∉ used /\ 0 < z.length /\ z.length < 9)) ⟨rfl, ⟨_, _, rfl⟩, (fun j hj => absurd hj (Nat.not_lt_zero j))⟩ (fun i σ H' _ ⟨e, _⟩ => by rw [e]; exact SqL.of hb4') ?_ ?_⟩
    · rintro i v σ H' hv ⟨rfl, ⟨x3, x4, rfl⟩, hno⟩
      obtain ⟨z, hz, rfl⟩ : ∃ z, (w3 ++ words26 c)[i]? = some z /\ v = .str z := by
        rw [List.getElem?_map] at hv
        cases e : (w3 ++ words26 c)[i]? with
        | none => rw [e] at hv; cases hv
        | some z => rw [e] at hv; exact ⟨z, rfl, (Option.some.inj hv).symm⟩
      have gz := gall z (List.mem_of_getElem? hz)
      have lz := gz.1
      try dsimp only
      refine ifS_by (fun H2' => H2' = H' /\ (z ∉ used /\ 0 < z.length /\ z.length < 9)) (fun H2' => H2' = H' /\ ¬ (z ∉ used /\ 0 < z.length /\ z.length < 9)) (fun Q' qT qF => ?_) (fun H2' ⟨e, h⟩ => ?_) (fun H2' ⟨e, h⟩ => ?_)
      · refine ⟨_, rfl, _, rfl, u, _, rfl, .inl (SqL.of huA), rfl, flat_strs _, _, rfl, ?_⟩
        show if (!inV (.str z) (used.map V.str)) = true then _ else _
        rw [inV_str]
        refine iteNe (fun g1 => ?_) (fun g1 => qF _ ⟨rfl, fun h => h.1 g1⟩)
        refine ⟨_, rfl, z, rfl, fits2 (by omega), _, _, rfl, rfl, _, rfl, iteDd (fun g2 => ?_) (fun g2 => qF _ ⟨rfl, fun h => g2 (by omega)⟩)⟩
        refine ⟨_, rfl, z, rfl, fits2 (by omega), _, _, rfl, rfl, _, rfl, ?_⟩
        by_cases g3 : (z.length : Int) < 9
        · rw [decide_eq_true g3]; exact qT _ ⟨rfl, g1, by omega, by omega⟩
        · rw [decide_eq_false g3]; exact qF _ ⟨rfl, fun h => g3 (by omega)⟩
      · subst e
        exact ⟨_, rfl, q z _ sA h.1 gz⟩
      · subst e
        refine ⟨rfl, ⟨_, _, rfl⟩, fun j hj z' hz' => ?_⟩
        rcases Nat.lt_succ_iff_lt_or_eq.mp hj with hj | rfl
        · exact hno j hj z' hz'
        · rw [hz] at hz'
          cases hz'
          exact h
    · rintro σ H' ⟨rfl, ⟨x3, x4, rfl⟩, hno⟩
      exfalso
      have := pig (words_nd c) (used := used) fun z hz => by
        obtain ⟨j, hj⟩ := List.getElem?_of_mem hz
        have hz2 : (w3 ++ words26 c)[w3.length + j]? = some z := by rw [List.getElem?_append_right (by omega), show w3.length + j - w3.length = j by omega]; exact hj
        have hb := lt_of_some hz2
        have h1 := hno (w3.length + j) (by rw [List.length_map]; exact hb) z hz2
        have h2 : 0 < z.length /\ z.length < 9 := by
          unfold words26 at hz
          obtain ⟨k, _, rfl⟩ := List.mem_map.mp hz
          exact wrd_len _ _
        by_cases h : z ∈ used
        · exact h
        · exact absurd ⟨h, h2⟩ h1
      omega
end
end K22
namespace K22
open PySem L2 TR FT
open TM 
def spNodes : Sp := fun vs H Q _ => ∃ t v, vs = [v] /\ TrIs H t v /\ size t <= 200 /\ ∀ D us H', Same H H' -> H' D = some (.lst us) -> L2R (NdIs H') (nds [] t) us -> Q (.ref D) H'
def wtN (xs : List (List Int × Tr)) : Nat := (xs.map fun x => size x.2).sum
theorem wtN_app (xs ys : List (List Int × Tr)) : wtN (xs ++ ys) = wtN xs + wtN ys := by unfold wtN; rw [List.map_append, List.sum_append]
theorem wtN_kids (p : List Int) : ∀ (ts : List Tr) (k : Int), wtN (kidsP p k ts) = sizes ts
  | [], k => by rw [kidsP, sizes]; rfl
  | t :: ts, k => by
    rw [kidsP, sizes, <- wtN_kids p ts (k + 1)]
    rfl
theorem wtN_rev (xs : List (List Int × Tr)) : wtN xs.reverse = wtN xs := by
  induction xs with
  | nil => rfl
  | cons x xs ih =>
    rw [List.reverse_cons, wtN_app, ih]
    show wtN xs + (size x.2 + 0) = size x.2 + wtN xs
    omega
theorem wtN_len (xs : List (List Int × Tr)) : xs.length <= wtN xs := by
  induction xs with
  | nil => exact Nat.le_refl _
  | cons x xs ih =>
    have := size_pos x.2
    show xs.length + 1 <= size x.2 + wtN xs
    omega
def ndF (xs : List (List Int × Tr)) : List (List Int × Tr) := xs.reverse.flatMap fun x => nds x.1 x.2
theorem ndF_app (xs ys : List (List Int × Tr)) : ndF (xs ++ ys) = ndF ys ++ ndF xs := by unfold ndF; simp
section
variable {P : Program} {w : World} {K : PySem.W.Frag} {mg : Str -> Option Value} {base : Heap} {T : Adr}
theorem ok_nodes (X : Tx K mg T) : FnOk P w K mg base CX0 1 T.qnodes T.d_qnodes ["_law_tree"] spNodes := by
  refine X.F_qnodes.okQ sc_qnodes (fun vs H Q E h => ?_) (fun cdv A outer s H vs Q E hr h => ?_)
  · obtain ⟨_, _, rfl, _⟩ := h
    rfl
  obtain ⟨t, v, rfl, hv, hz, q⟩ := h
  refine ⟨_, (qss_cons (qs_set (i := 1) sc_qnodes.nd rfl (Or.inl rfl) (qe_lst qa_nil)) (qss_cons (qs_set (i := 2) sc_qnodes.nd rfl (Or.inl rfl) (qe_lst (qaT (qe_tup (qaT (qe_tup qa_nil) (qaN (qv 0) qa_nil))) qa_nil))) (qss_cons (qs_while PassesOwn.never (qt_cmpR (op_neNil hr.units) (qv 2) (qe_lst qa_nil) (nomark _)) (qss_cons (qs_asg (qe_bm0 PySem.F.plainAttrs_list PySem.F.slot_list_pop PySem.F.type_list_pop mt_pop (qv 2)) (qg_tup rfl (qgs_cons (qg_name (i := 3) sc_qnodes.nd rfl (Or.inl rfl)) (qgs_cons (qg_name (i := 4) sc_qnodes.nd rfl (Or.inl rfl)) qgs_nil)))) (qss_cons (qs_expr (qe_bm PySem.F.plainAttrs_list PySem.F.slot_list_append PySem.F.type_list_append mt_append (qv 1) (qaT (qe_tup (qaN (qv 3) (qaN (qv 4) qa_nil))) qa_nil))) (qss_one (qs_for PassesOwn.never rfl (qi_revR rfl rfl X.z_reversed rfl X.z_range (qe_callB call_len_seq rfl X.z_len PySem.boot_len (qaS (qe_ix ix_tup (qv 4) qe_int (fun _ _ => rfl)) qa_nil))) (qg_name (i := 5) sc_qnodes.nd rfl (Or.inl rfl)) (qss_one (qs_expr (qe_bm PySem.F.plainAttrs_list PySem.F.slot_list_append PySem.F.type_list_append mt_append (qv 2) (qaT (qe_tup (qaB (qe_op op_catA (qv 3) (qe_tup (qaB (qe_op op_add (qv 5) qe_int) qa_nil))) (qaS (qe_ix ix_tup (qe_ix ix_tup (qv 4) qe_int (fun _ _ => rfl)) (qv 5) (fun _ _ => rfl)) qa_nil))) qa_nil))))))))) (qss_one (qs_ret (qv 1)))))), ?_⟩
  refine ⟨(by show 0 <= sizeLine; decide), fun R hR => ?_⟩
  have s1 := same_new hR (.lst [])
  refine ⟨(by show 0 <= sizeLine; decide), fun e he => ⟨_, rfl, (by show 2 <= sizeLine; decide), fun p0 hp0 => ⟨(by show 1 <= sizeLine; decide), fun L hL => ?_⟩⟩⟩
  have s2 := same_new he (.tup [])
  have s3 := same_new hp0 (.tup [.ref e, v])
  have s4 := same_new hL (.lst [.ref p0])
  have hR4 := (s2.trans (s3.trans s4)) _ _ (upd_same (H := H) (a := R) (o := .lst []))
  have nRL : R ≠ L := ne_of_none ((s2.trans s3) _ _ upd_same) hL
  have fL : H L = none := (s1.trans (s2.trans s3)).free hL
  have s14 := s1.trans (s2.trans (s3.trans s4))
  have hn4 : NdIs (upd (upd (upd (upd H R (.lst [])) e (.tup [])) p0 (.tup [.ref e, v])) L (.lst [.ref p0])) ([], t) (.ref p0) := ⟨p0, e, v, rfl, s4 _ _ upd_same, s4 _ _ (s3 _ _ upd_same), TrIs.same (sameT s14) t hv⟩
  have hL4 := upd_same (H := upd (upd (upd H R (.lst [])) e (.tup [])) p0 (.tup [.ref e, v])) (a := L) (o := .lst [.ref p0])
  generalize upd (upd (upd (upd H R (.lst [])) e (.tup [])) p0 (.tup [.ref e, v])) L (.lst [.ref p0]) = H4 at hR4 s14 hn4 hL4 ⊢
  refine ⟨fun m σ H' => ∃ (x3 x4 x5 : Option V) (fs xs : List (List Int × Tr)) (us vs : List V), m = wtN xs /\ σ = [some v, some (.ref R), some (.ref L), x3, x4, x5] /\ Same H H' /\ H' R = some (.lst us) /\ L2R (NdIs H') fs us /\ H' L = some (.lst vs) /\ L2R (NdIs H') xs vs /\ fs.length + wtN xs <= 200 /\ fs ++ ndF xs = nds [] t,
    ⟨_, none, none, none, [], [([], t)], [], [.ref p0], rfl, rfl, s14, hR4, .nil, hL4, .cons hn4 .nil, ?_, ?_⟩, ?_⟩
  · show 0 + (size t + 0) <= 200
    omega
  · unfold ndF
    simp
  rintro m σ H5 ⟨x3, x4, x5, fs, xs, us, vs, rfl, rfl, sm, hR5, gf, hL5, gx, hcnt, heq⟩
  have lvs := gx.len
  have lus := gf.len
  refine ⟨_, rfl, (by show 0 <= sizeLine; decide), fun e1 he1 => ?_⟩
  have se := same_new he1 (.lst [])
  refine ⟨L, e1, vs, rfl, rfl, SqL.of (se _ _ hL5), SqL.of upd_same, _, rfl, ?_⟩
  have hR6 := se _ _ hR5
  have hL6 := se _ _ hL5
  have gx6 := gx.imp fun _ _ => NdIs.same (sameT se)
  have gf6 := gf.imp fun _ _ => NdIs.same (sameT se)
  have sm6 := sm.trans se
  generalize upd H5 e1 (.lst []) = H6 at hR6 hL6 gx6 gf6 sm6 ⊢
  by_cases hnil : vs = []
  · have hx0 : xs = [] := by rw [hnil] at lvs; exact List.length_eq_zero_iff.mp lvs.symm
    subst hx0
    rw [decide_eq_true hnil]
    refine iteF ⟨_, rfl, q R us H6 sm6 hR6 ?_⟩
    have e0 : fs = nds [] t := by rw [<- heq]; simp [ndF]
    rw [<- e0]
    exact gf6
  · rw [decide_eq_false hnil]
    refine iteT ⟨_, fun σ' H'' h => h, ?_⟩
    obtain ⟨vs', y, rfl⟩ : ∃ vs' y, vs = vs' ++ [y] := ⟨vs.dropLast, vs.getLast hnil, (List.dropLast_concat_getLast hnil).symm⟩
    have hxn : xs ≠ [] := fun z => by rw [z] at lvs; simp at lvs
    obtain ⟨xs', x, rfl⟩ : ∃ xs' x, xs = xs' ++ [x] := ⟨xs.dropLast, xs.getLast hxn, (List.dropLast_concat_getLast hxn).symm⟩
    obtain ⟨g1, g2⟩ : L2R (NdIs H6) xs' vs' /\ NdIs H6 x y := by
      obtain ⟨a, b, e, h1, h2⟩ := L2R.unapp gx6
      obtain ⟨z, r, e2, h3, h4⟩ := h2.inv_cons
      have := h4.nil_of
      subst this e2
      obtain ⟨rfl, e4⟩ := List.append_inj' e rfl
      cases e4
      exact ⟨h1, h3⟩
    obtain ⟨pp, u⟩ := x
    have lpp : pp.length <= 1000 := by
      have hm : (pp, u) ∈ nds [] t := by
        rw [<- heq, ndF_app]
        unfold ndF
        simp [nds_eq]
      obtain ⟨r, e, h⟩ := nds_at t hm
      have := atT_deep h
      have := deep_size t
      rw [e, List.nil_append]
      omega
    rw [wtN_app] at hcnt ⊢
    have hw1 : wtN [(pp, u)] = size u := by show size u + 0 = _; omega
    refine ⟨_, rfl, .inl ⟨rfl, _, SqL.of hL6⟩, L, _, y, rfl, rfl, hL6, by simp, ?_⟩
    rw [List.dropLast_concat]
    have hL7 := upd_same (H := H6) (a := L) (o := .lst vs')
    have hR7 : upd H6 L (.lst vs') R = some (.lst us) := by rw [upd_ne nRL]; exact hR6
    have tL := sameT_lst (ys := vs') hL6
    have sm7 : Same H (upd H6 L (.lst vs')) := same_upd fL sm6
    have gx7 := g1.imp fun _ _ => NdIs.same tL
    have gf7 := gf6.imp fun _ _ => NdIs.same tL
    obtain ⟨a, b, yu, rfl, ha, hb, hu⟩ := NdIs.same tL g2
    generalize upd H6 L (.lst vs') = H7 at hL7 hR7 sm7 gx7 gf7 ha hb hu ⊢
    have hb' : H7 b = some (.tup (pp.map V.int)) := hb
    have hu' : TrIs H7 u yu := hu
    refine ⟨a, _, rfl, SqT.of ha, rfl, _, _, rfl, _, _, rfl, rfl, ?_⟩
    refine ⟨_, rfl, .inl ⟨rfl, _, SqL.of hR7⟩, _, rfl, _, rfl, (by show 2 <= sizeLine; decide), fun n1 hn1 => ?_⟩
    have s8 := same_new hn1 (.tup [.ref b, yu])
    refine ⟨R, us, _, rfl, rfl, s8 _ _ hR7, fitsL (by omega), ?_⟩
    have nnR : n1 ≠ R := ne_of_none' hR7 hn1
    have hR9 := upd_same (H := upd H7 n1 (.tup [.ref b, yu])) (a := R) (o := .lst (us ++ [.ref n1]))
    have t9 : SameT H7 (upd (upd H7 n1 (.tup [.ref b, yu])) R (.lst (us ++ [.ref n1]))) := (sameT s8).trans (sameT_lst (s8 _ _ hR7))
    have hn9 : upd (upd H7 n1 (.tup [.ref b, yu])) R (.lst (us ++ [.ref n1])) n1 = some (.tup [.ref b, yu]) := by rw [upd_ne nnR, upd_same]
    have hL9 : upd (upd H7 n1 (.tup [.ref b, yu])) R (.lst (us ++ [.ref n1])) L = some (.lst vs') := by rw [upd_ne nRL.symm]; exact s8 _ _ hL7
    have sm9 : Same H (upd (upd H7 n1 (.tup [.ref b, yu])) R (.lst (us ++ [.ref n1]))) := same_upd hR (sm7.trans s8)
    generalize upd (upd H7 n1 (.tup [.ref b, yu])) R (.lst (us ++ [.ref n1])) = H9 at hR9 t9 hn9 hL9 sm9 ⊢
    have gf9 : L2R (NdIs H9) (fs ++ [(pp, u)]) (us ++ [.ref n1]) := (gf7.imp fun _ _ => NdIs.same t9).snoc ⟨n1, b, yu, rfl, hn9, t9 _ _ hb', TrIs.same t9 u hu'⟩
    have gx9 := gx7.imp fun _ _ => NdIs.same t9
    have hb9 := t9 _ _ hb'
    obtain ⟨p, bb, ws, rfl, hp, hbb, hws⟩ := (TrIs.same t9 u hu').op
    have lws := hws.len
    have szu := size_eq u
    have slu := sizes_len u.bs
    have kl := kidsP_len pp u.bs 1
    have lx' := wtN_len xs'
    have lg := gx9.len
    refine ⟨_, rfl, p, _, 2, _, rfl, rfl, SqT.of hp, rfl, bb, ws, rfl, .inr (SqT.of hbb), ws.length, rfl, by omega, ?_⟩
    refine for_revR (fun i σ H' => ∃ (x5 : Option V) (vs2 : List V), σ = [some v, some (.ref R), some (.ref L), some (.ref b), some (.ref p), x5] /\ Same H H' /\ SameT H9 H' /\ H' R = some (.lst (us ++ [.ref n1])) /\ H' L = some (.lst vs2) /\ L2R (NdIs H') (xs' ++ (kidsP pp 1 u.bs).reverse.take i) vs2)
      ⟨_, _, rfl, sm9, SameT.refl _, hR9, hL9, by rw [List.take_zero, List.append_nil]; exact gx9⟩ ?_ ?_
    · rintro i σ H' hi ⟨x5', vs2, rfl, smi, tt, hRi, hLi, gi⟩
      have ek : ((ws.length : Int) - 1 - (i : Nat)) = ((ws.length - 1 - i : Nat) : Int) := by omega
      rw [ek]
      generalize hk : ws.length - 1 - i = k
      have hkl : k < ws.length := by omega
      obtain ⟨z, hz'⟩ := some_of_lt hkl
      obtain ⟨c, hc, hcz⟩ := hws.get hz'
      have lgi := gi.len
      have hp' := tt _ _ hp
      have hbb' := tt _ _ hbb
      have hbi := tt _ _ hb9
      refine ⟨_, rfl, .inl ⟨rfl, _, SqL.of hLi⟩, _, rfl, _, rfl, _, _, rfl, rfl, (by show 1 <= sizeLine; decide), fun t1 ht1 => ?_⟩
      have s10 := same_new ht1 (.tup [.int ((k : Int) + 1)])
      refine ⟨b, t1, _, _, rfl, rfl, s10 _ _ hbi, upd_same, fits2 (by rw [List.length_map, List.length_singleton]; omega), fun t2 H11 s11 ht2 => ?_⟩
      have s1011 := s10.trans s11
      refine ⟨_, rfl, p, _, 2, _, rfl, rfl, SqT.of (s1011 _ _ hp'), rfl, _, rfl, bb, _, _, z, rfl, rfl, SqT.of (s1011 _ _ hbb'), atI_nat hz', (by show 2 <= sizeLine; decide), fun t3 ht3 => ?_⟩
      have s12 := same_new ht3 (.tup [.ref t2, z])
      have s1012 := s1011.trans s12
      refine ⟨L, _, _, rfl, rfl, s1012 _ _ hLi, fitsL (by rw [lgi, List.length_append, List.length_take]; omega), ?_⟩
      have ntL : t3 ≠ L := ne_of_none' (s1011 _ _ hLi) ht3
      have tL2 := sameT_lst (ys := vs2 ++ [.ref t3]) (s1012 _ _ hLi)
      have tt2 := (sameT s1012).trans tL2
      refine ⟨_, _, rfl, same_upd fL (smi.trans s1012), tt.trans tt2, by rw [upd_ne nRL]; exact s1012 _ _ hRi, upd_same, ?_⟩
      have hkd : (kidsP pp 1 u.bs).reverse[i]? = some (pp ++ [1 + (k : Int)], c) := by
        rw [List.getElem?_reverse (by omega), kl]
        have e1 : u.bs.length - 1 - i = k := by omega
        rw [e1]
        exact kidsP_get pp u.bs 1 hc
      rw [take_snocA hkd, <- List.append_assoc]
      refine (gi.imp fun _ _ => NdIs.same tt2).snoc ⟨t3, t2, z, rfl, by rw [upd_ne ntL, upd_same], ?_, TrIs.same (tt.trans tt2) c hcz⟩
      have e2 : (pp ++ [1 + (k : Int)]).map V.int = pp.map V.int ++ [V.int ((k : Int) + 1)] := by rw [List.map_append, Int.add_comm]; rfl
      show _ = some (HO.tup ((pp ++ [1 + (k : Int)]).map V.int))
      rw [e2]
      exact tL2 _ _ (s12 _ _ ht2)
    · rintro σ H' ⟨x5', vs2, rfl, smi, tt, hRi, hLi, gi⟩
      have et : (kidsP pp 1 u.bs).reverse.take ws.length = (kidsP pp 1 u.bs).reverse := List.take_of_length_le (by rw [List.length_reverse]; omega)
      rw [et] at gi
      have wk : wtN (kidsP pp 1 u.bs).reverse = sizes u.bs := by rw [wtN_rev, wtN_kids]
      refine ⟨wtN (xs' ++ (kidsP pp 1 u.bs).reverse), by rw [wtN_app]; omega, _, _, _, fs ++ [(pp, u)], xs' ++ (kidsP pp 1 u.bs).reverse, us ++ [.ref n1], vs2, rfl, rfl, smi, hRi, gf9.imp fun _ _ => NdIs.same tt, hLi, gi, by rw [wtN_app, List.length_append, List.length_singleton]; omega, ?_⟩
      rw [<- heq, ndF_app, ndF_app]
      have e3 : ndF (kidsP pp 1 u.bs).reverse = ndss pp 1 u.bs := by unfold ndF; rw [List.reverse_reverse, ndss_eq]
      have e4 : ndF [(pp, u)] = (pp, u) :: ndss pp 1 u.bs := by unfold ndF; rw [List.reverse_singleton, List.flatMap_cons, List.flatMap_nil, List.append_nil, nds_eq]
      rw [e3, e4]
      simp
end
end K22
namespace L2
open PySem PySem.Spec PySem.Calls PyProof.Rows Builtin Builtin.Tuple
theorem tuple_mul1 (t : Addr) (items : Array Value) (n : Nat) (dd : Option Addr) (sl : Array (Option Value)) (x : Int) (u : Tok) (h1 : x = 1) :
    Meets (Builtin.«tuple.__mul__» ⟨[.ref t, .int x u], []⟩) (fun _ R s => s.heap.get? t = some { cls := .type "tuple", dict := dd, data := .seq items n, slots := sl } /\
      R (.ok (.ret (.ref t))) s) :=
  .of_wp fun prog w A R s h => by
    obtain ⟨hp, g, d, tk, os⟩ := s; obtain ⟨hl, h⟩ := h
    have c1 : (decide (x < -(2 ^ 63 : Int)) || decide (x >= 2 ^ 63)) = false := by
      rw [decide_eq_false (by omega), decide_eq_false (by omega)]; rfl
    have c2 : (items.isEmpty || x == 1) = true := by
      rw [h1]; simp
    wp_walk
    exact ⟨_, rfl, h⟩
theorem tuple_mul0 (t : Addr) (items : Array Value) (n : Nat) (dd : Option Addr) (sl : Array (Option Value)) (x : Int) (u : Tok) (h1 : x = 0) (hne : items.isEmpty = false) :
    Meets (Builtin.«tuple.__mul__» ⟨[.ref t, .int x u], []⟩) (fun _ R s => s.heap.get? t = some { cls := .type "tuple", dict := dd, data := .seq items n, slots := sl } /\
      R (.ok (.ret (.ref s.heap.objs.size))) { s with heap := s.heap.push { cls := .type "tuple", data := .seq #[] } }) :=
  .of_wp fun prog w A R s h => by
    obtain ⟨hp, g, d, tk, os⟩ := s; obtain ⟨hl, h⟩ := h
    have c1 : (decide (x < -(2 ^ 63 : Int)) || decide (x >= 2 ^ 63)) = false := by
      rw [decide_eq_false (by omega), decide_eq_false (by omega)]; rfl
    have c2 : (items.isEmpty || x == 1) = false := by
      rw [hne, Bool.false_or]; exact beq_eq_false_iff_ne.mpr (by omega)
    have c3 : (decide (x <= 0) || items.isEmpty) = true := by
      rw [hne, Bool.or_false]; exact decide_eq_true (by omega)
    wp_walk
    exact ⟨_, rfl, h⟩
def rRep01 (K : PySem.W.Frag) : R2 := fun x y H Q => ∃ l k xs, x = .ref l /\ y = .int k /\ H l = some (.tup xs) /\ xs ≠ [] /\ (k = 0 \/ k = 1) /\ ∀ p H', Same H H' -> H' p = some (.tup (if k = 1 then xs else [])) -> Q (.ref p) H'
section
variable {X : Cx}
theorem op_rep01 : OpR X (binaryOp .Mult) (rRep01 X.K) := by
  intro pins s σ H x y v u Q I rx ry h
  obtain ⟨l, k, xs, rfl, rfl, hH, hne, h01, q⟩ := h
  have hq : SqT X.K H l xs := SqT.of hH
  cases rx
  obtain ⟨t, rfl⟩ := ry
  obtain ⟨its, r, ⟨⟨cls, dd, data, sl⟩, ho, hc, n, hd⟩, _⟩ := I.tuple hq
  simp only at hc hd
  subst hc hd
  have hl := r.length
  have hi : its.toArray.isEmpty = false := by
    cases its with
    | nil => exact absurd (List.eq_nil_of_length_eq_zero hl) hne
    | cons a b => rfl
  rcases h01 with rfl | rfl
  rotate_left
  · refine wpAny_binaryOp_repeat_ref (T := "tuple") (U := "int") (by decide) ⟨_, ho, rfl⟩ (fun s' => typeIs_int s' 1 t) noFill_tuple_mul PySem.F.fills_int_mul PySem.F.slot_int_rmul repeat_tuple PySem.F.slot_int_index.lookup
      (call_meets PySem.F.slot_int_rmul (typeIs_int s 1 t) PySem.F.entry_int_rmul (PySem.F.args_int_rmul_2 _ _) (int_rmul_tuple 1 t l its.toArray n dd sl)
        ⟨ho, rfl, ⟨_, ho, rfl⟩, call_meets PySem.F.slot_tuple_mul ⟨_, ho, rfl⟩ PySem.F.entry_tuple_mul (PySem.F.args_tuple_mul_2 _ _) (tuple_mul1 l its.toArray n dd sl 1 t rfl) ⟨ho, ?_⟩⟩)
    exact ⟨.ref l, H, I, rfl, q _ _ (Same.refl _) hH⟩
  · refine wpAny_binaryOp_repeat_ref (T := "tuple") (U := "int") (by decide) ⟨_, ho, rfl⟩ (fun s' => typeIs_int s' 0 t) noFill_tuple_mul PySem.F.fills_int_mul PySem.F.slot_int_rmul repeat_tuple PySem.F.slot_int_index.lookup
      (call_meets PySem.F.slot_int_rmul (typeIs_int s 0 t) PySem.F.entry_int_rmul (PySem.F.args_int_rmul_2 _ _) (int_rmul_tuple 0 t l its.toArray n dd sl)
        ⟨ho, rfl, ⟨_, ho, rfl⟩, call_meets PySem.F.slot_tuple_mul ⟨_, ho, rfl⟩ PySem.F.entry_tuple_mul (PySem.F.args_tuple_mul_2 _ _) (tuple_mul0 l its.toArray n dd sl 0 t rfl hi) ⟨ho, ?_⟩⟩)
    exact ⟨.ref _, _, I.laid (o := .tup []) (t' := s.toks) (fun _ _ q' => Heap.get?_push_of_some _ q') (Nat.le_refl _) ⟨(by show 0 <= sizeLine; decide), [], .nil, ⟨_, Heap.get?_push_size _ rfl, rfl, _, rfl⟩⟩, rfl, q _ _ (same_new I.fresh _) upd_same⟩
end
end L2
namespace K22
open PySem L2 TR FT
open TM 
def Kp (S : List Addr) (H H' : Hp) : Prop := ∀ b o, b ∉ S -> H b = some o -> H' b = some o
theorem Kp.refl (S : List Addr) (H : Hp) : Kp S H H := fun _ _ _ h => h
theorem Kp.trans {S : List Addr} {H H1 H2 : Hp} (a : Kp S H H1) (b : Kp S H1 H2) : Kp S H H2 := fun c o n h => b c o n (a c o n h)
theorem Kp.same {S : List Addr} {H H1 H2 : Hp} (a : Kp S H H1) (b : Same H1 H2) : Kp S H H2 := fun c o n h => b c o (a c o n h)
theorem Kp.upd {S : List Addr} {H H1 : Hp} {a : Addr} {o : HO} (h : Kp S H H1) (m : a ∈ S) : Kp S H (upd H1 a o) := fun c u n e => by
  have ne : c ≠ a := fun z => n (by rw [z]; exact m)
  rw [upd_ne ne]
  exact h c u n e
theorem Kp.of {S : List Addr} {H H' : Hp} (s : Same H H') : Kp S H H' := fun c o _ h => s c o h
theorem Kp.mono {S S' : List Addr} {H H' : Hp} (h : Kp S H H') (m : ∀ a ∈ S, a ∈ S') : Kp S' H H' := fun c o n e => h c o (fun z => n (m c z)) e
theorem Kp.T {S : List Addr} {H H' : Hp} (h : Kp S H H') (m : ∀ a ∈ S, ∃ xs, H a = some (.lst xs)) : SameT H H' := fun b xs e => h b _ (fun z => by
  obtain ⟨ys, q⟩ := m b z
  rw [q] at e
  cases e) e
theorem Kp.free {S : List Addr} {H H' : Hp} (h : Kp S H H') {a : Addr} (hn : H' a = none) (m : a ∉ S) : H a = none := by
  cases e : H a with
  | none => rfl
  | some o => rw [h a o m e] at hn; cases hn
theorem snoc_of {α : Type} {l : List α} (h : 0 < l.length) : ∃ a x, l = a ++ [x] := by
  cases e : l.reverse with
  | nil => rw [List.reverse_eq_nil_iff.mp e] at h; exact absurd h (by simp)
  | cons x r => exact ⟨r.reverse, x, by rw [<- List.reverse_reverse l, e, List.reverse_cons]⟩
abbrev kd3 : List Str := ["num", "text", "row"]
def PrAt (H : Hp) (x : V) : Prop := ∃ q nm kd, x = .ref q /\ H q = some (.tup [.str nm, .str kd]) /\ kd ∈ kd3
def PrsOk (H : Hp) (a : Addr) : Prop := ∃ us, H a = some (.tup us) /\ us.length <= 1 /\ ∀ x ∈ us, PrAt H x
theorem PrAt.same {H H' : Hp} (e : SameT H H') {x : V} (h : PrAt H x) : PrAt H' x := by
  obtain ⟨q, nm, kd, a, b, c⟩ := h
  exact ⟨q, nm, kd, a, e _ _ b, c⟩
theorem PrsOk.same {H H' : Hp} (e : SameT H H') {a : Addr} (h : PrsOk H a) : PrsOk H' a := by
  obtain ⟨us, x, y, z⟩ := h
  exact ⟨us, e _ _ x, y, fun v hv => (z v hv).same e⟩
def SnIs (H : Hp) (n : Str) (v : V) : Prop := ∃ p d u, v = .ref p /\ H p = some (.tup [.str n, .ref d, .ref u]) /\ PrsOk H d /\ PrsOk H u
theorem SnIs.same {H H' : Hp} (e : SameT H H') {n : Str} {v : V} (h : SnIs H n v) : SnIs H' n v := by
  obtain ⟨p, d, u, a, b, c, f⟩ := h
  exact ⟨p, d, u, a, e _ _ b, c.same e, f.same e⟩
def spBase : Sp := fun vs H Q _ => ∃ kd : Str, vs = [.str kd] /\ kd ∈ kd3 /\ ∀ y H', Same H H' -> Q y H'
def spSigns : Sp := fun vs H Q _ => ∃ (d : Addr) (cs : List Int), vs = [.ref d] /\ H d = some (.lst (cs.map V.int)) /\ 20 <= cs.length /\ ∀ (a : Addr) (us : List V) (ss : List Str) (w0 : Int) (cs' : List Int) (H' : Hp), Kp [d] H H' -> H' a = some (.tup us) -> L2R (SnIs H') ss us -> 1 <= ss.length -> ss.length <= 5 -> (∀ (j : Nat) s, ss[j]? = some s -> s = wrd w0 j) -> H' d = some (.lst (cs'.map V.int)) -> cs.length <= cs'.length + 7 -> Q (.ref a) H'
section
variable {P : Program} {w : World} {K : PySem.W.Frag} {mg : Str -> Option Value} {base : Heap} {T : Adr}
theorem ok_base (X : Tx K mg T) : FnOk P w K mg base CX0 1 T.qbase T.d_qbase ["_law_kind"] spBase := by
  refine X.F_qbase.okQ sc_qbase (fun vs H Q E h => ?_) (fun cdv A outer s H vs Q E hr h => ?_)
  · obtain ⟨_, rfl, _⟩ := h
    rfl
  obtain ⟨kd, rfl, hk, q⟩ := h
  refine ⟨_, (qss_one (qs_ret (qe_dget (hu_of hr) (qe_disp (qps_cons qe_str (qe_tup (qaC qe_str qa_nil)) (qps_cons qe_str (qe_tup (qaC qe_str (qaC qe_str qa_nil))) (qps_cons qe_str (qe_tup (qaC qe_str qa_nil)) pps_nil)))) (qv 0)))), ?_⟩
  refine fun p np => ⟨(by show 1 <= sizeLine; decide), fun a1 h1 => ⟨(by show 2 <= sizeLine; decide), fun a2 h2 => ⟨(by show 1 <= sizeLine; decide), fun a3 h3 => ?_⟩⟩⟩
  have s0 := same_new np (.dK [])
  have s1 := same_new h1 (.tup [.str "mark"])
  have s2 := same_new h2 (.tup [.str "text", .str "a"])
  have s3 := same_new h3 (.tup [.str "row"])
  have sA := s0.trans (s1.trans (s2.trans s3))
  refine ⟨(s1.trans (s2.trans s3)) _ _ upd_same, [(.inr "num", .ref a1), (.inr "text", .ref a2), (.inr "row", .ref a3)], rfl, (by show 3 <= 15; decide), _, rfl, p, ?_⟩
  have hk' : kd = "num" \/ kd = "text" \/ kd = "row" := by simpa using hk
  rcases hk' with rfl | rfl | rfl
  · exact ⟨.ref a1, rfl, .inl ⟨_, .inr "num", .inl upd_same, rfl, by rfl⟩, q _ _ (same_upd np sA)⟩
  · exact ⟨.ref a2, rfl, .inl ⟨_, .inr "text", .inl upd_same, rfl, by rfl⟩, q _ _ (same_upd np sA)⟩
  · exact ⟨.ref a3, rfl, .inl ⟨_, .inr "row", .inl upd_same, rfl, by rfl⟩, q _ _ (same_upd np sA)⟩
theorem ok_signs (X : Tx K mg T) : FnOk P w K mg base CX0 2 T.qsigns T.d_qsigns ["_law_deck_here"] spSigns := by
  have G_qword := ok_word (P := P) (w := w) (base := base) X
  refine X.F_qsigns.okQ sc_qsigns (fun vs H Q E h => ?_) (fun cdv A outer s H vs Q E hr h => ?_)
  · obtain ⟨_, _, rfl, _⟩ := h
    rfl
  obtain ⟨d, cs, rfl, hd, l20, q⟩ := h
  refine ⟨_, (qss_cons (qs_set (i := 1) sc_qsigns.nd rfl (Or.inl rfl) (qe_bm0 PySem.F.plainAttrs_list PySem.F.slot_list_pop PySem.F.type_list_pop mt_pop (qv 0))) (qss_cons (qs_set (i := 2) sc_qsigns.nd rfl (Or.inl rfl) (qe_lst qa_nil)) (qss_cons (qs_for PassesOwn.never rfl (qi_range1 rfl X.z_range (qaS (qe_ix ix_list (qe_lst (qaC qe_int (qaC qe_int (qaC qe_int (qaC qe_int (qaC qe_int (qaC qe_int (qaC qe_int qa_nil)))))))) (qe_op op_mod (qe_bm0 PySem.F.plainAttrs_list PySem.F.slot_list_pop PySem.F.type_list_pop mt_pop (qv 0)) qe_int) (fun _ _ => rfl)) qa_nil)) (qg_name (i := 3) sc_qsigns.nd rfl (Or.inl rfl)) (qss_cons (qs_set (i := 4) sc_qsigns.nd rfl (Or.inl rfl) (qe_bm0 PySem.F.plainAttrs_list PySem.F.slot_list_pop PySem.F.type_list_pop mt_pop (qv 0))) (qss_cons (qs_set (i := 5) sc_qsigns.nd rfl (Or.inl rfl) (qe_op op_rep01 (qe_tup (qaT (qe_tup (qaK (qe_call G_qword hr rfl X.m_qword X.F_qword.kp X.b_qword .nil pass0 (qaN (qv 4) (qaC qe_int qa_nil))) (qaS (qe_ix ix_list (qe_lst (qaC qe_str (qaC qe_str qa_nil))) (qe_op op_mod (qv 4) qe_int) (fun _ _ => rfl)) qa_nil))) qa_nil)) (qe_op op_mod (qe_op op_fdiv (qv 4) qe_int) qe_int))) (qss_cons (qs_set (i := 6) sc_qsigns.nd rfl (Or.inl rfl) (qe_op op_rep01 (qe_tup (qaT (qe_tup (qaK (qe_call G_qword hr rfl X.m_qword X.F_qword.kp X.b_qword .nil pass0 (qaN (qv 4) (qaC qe_int qa_nil))) (qaS (qe_ix ix_list (qe_lst (qaC qe_str (qaC qe_str qa_nil))) (qe_op op_mod (qe_op op_fdiv (qv 4) qe_int) qe_int) (fun _ _ => rfl)) qa_nil))) qa_nil)) (qe_op op_mod (qe_op op_fdiv (qv 4) qe_int) qe_int))) (qss_one (qs_expr (qe_bm PySem.F.plainAttrs_list PySem.F.slot_list_append PySem.F.type_list_append mt_append (qv 2) (qaT (qe_tup (qaK (qe_call G_qword hr rfl X.m_qword X.F_qword.kp X.b_qword .nil pass0 (qaN (qv 1) (qaN (qv 3) qa_nil))) (qaN (qv 5) (qaN (qv 6) qa_nil)))) qa_nil)))))))) (qss_one (qs_ret (qe_callTy call_tuple_of rfl X.z_tuple PyProof.Rows.boot_tuple (qaN (qv 2) qa_nil))))))), ?_⟩
  obtain ⟨cs1, w0, rfl⟩ := snoc_of (l := cs) (by omega)
  rw [List.length_append, List.length_singleton] at l20 q
  have hd : H d = some (.lst (cs1.map V.int ++ [.int w0])) := by rw [hd, List.map_append]; rfl
  refine ⟨_, rfl, .inl ⟨rfl, _, SqL.of hd⟩, d, _, .int w0, rfl, rfl, hd, by simp, ?_⟩
  dsimp only
  rw [List.dropLast_concat]
  have k1 : Kp [d] H (upd H d (.lst (cs1.map V.int))) := (Kp.refl _ _).upd (by simp)
  have hd1 := upd_same (H := H) (a := d) (o := .lst (cs1.map V.int))
  generalize upd H d (.lst (cs1.map V.int)) = H1 at k1 hd1 ⊢
  refine ⟨(by show 0 <= sizeLine; decide), fun r hr' => ?_⟩
  have s4 := same_new hr' (.lst [])
  have nr : r ≠ d := fun z => by rw [z, hd1] at hr'; cases hr'
  refine ⟨(by show 7 <= sizeLine; decide), fun a5 h5 => ?_⟩
  have s5 := same_new h5 (.lst [.int 1, .int 2, .int 3, .int 4, .int 5, .int 3, .int 2])
  have ha5 := upd_same (H := upd H1 r (.lst [])) (a := a5) (o := .lst [.int 1, .int 2, .int 3, .int 4, .int 5, .int 3, .int 2])
  have hr5 := s5 _ _ (upd_same (H := H1) (a := r) (o := .lst []))
  have s35 := s4.trans s5
  have hd5 := s35 _ _ hd1
  have r0 : H r = none := k1.free hr' (by simpa using nr)
  have n5 : a5 ≠ d := fun z => by rw [z, s4 _ _ hd1] at h5; cases h5
  have k5 := k1.same s35
  generalize upd (upd H1 r (.lst [])) a5 (.lst [.int 1, .int 2, .int 3, .int 4, .int 5, .int 3, .int 2]) = H5 at k5 ha5 hr5 hd5 ⊢
  obtain ⟨cs3, c3, rfl⟩ := snoc_of (l := cs1) (by omega)
  rw [List.length_append, List.length_singleton] at l20 q
  have hd5 : H5 d = some (.lst (cs3.map V.int ++ [.int c3])) := by rw [hd5, List.map_append]; rfl
  obtain ⟨m, hm, m1, m6⟩ : ∃ m : Int, atI [V.int 1, V.int 2, V.int 3, V.int 4, V.int 5, V.int 3, V.int 2] (c3 % 7) = some (.int m) /\ 1 <= m /\ m <= 5 := by
    have : c3 % 7 = 0 \/ c3 % 7 = 1 \/ c3 % 7 = 2 \/ c3 % 7 = 3 \/ c3 % 7 = 4 \/ c3 % 7 = 5 \/ c3 % 7 = 6 := by omega
    rcases this with e | e | e | e | e | e | e <;> rw [e] <;> exact ⟨_, rfl, by decide, by decide⟩
  refine ⟨_, rfl, .inl ⟨rfl, _, SqL.of hd5⟩, d, _, .int c3, rfl, rfl, hd5, by simp, ?_⟩
  rw [List.dropLast_concat]
  refine ⟨_, _, rfl, rfl, (by show (0 : Int) < 7; decide), a5, _, _, .int m, rfl, rfl, SqL.of (by rw [upd_ne n5]; exact ha5), hm, _, rfl, by omega, by omega, ?_⟩
  have k6 : Kp [d] H (upd H5 d (.lst (cs3.map V.int))) := k5.upd (by simp)
  have hd6 := upd_same (H := H5) (a := d) (o := .lst (cs3.map V.int))
  have hr6 : upd H5 d (.lst (cs3.map V.int)) r = some (.lst []) := by rw [upd_ne nr]; exact hr5
  generalize upd H5 d (.lst (cs3.map V.int)) = H6 at k6 hd6 hr6 ⊢
  refine for_range (n := m.toNat) (fun i σ H' => ∃ (ds : List Int) (ss : List Str) (us : List V) (x3 x4 x5 x6 : Option V), σ = [some (.ref d), some (.int w0), some (.ref r), x3, x4, x5, x6] /\ Kp [d, r] H6 H' /\ H' d = some (.lst (ds.map V.int)) /\ ds.length + i = cs3.length /\ H' r = some (.lst us) /\ L2R (SnIs H') ss us /\ ss.length = i /\ (∀ (j : Nat) s, ss[j]? = some s -> s = wrd w0 j))
    ⟨cs3, [], [], none, none, none, none, rfl, Kp.refl _ _, hd6, rfl, hr6, .nil, rfl, (fun j s h => by simp at h)⟩ ?_ ?_
  · rintro i σ H' hi ⟨ds, ss, us, x3, x4, x5, x6, rfl, kp, hd', ld, hr2, hus, lss, nms⟩
    have lus := hus.len
    obtain ⟨ds', c, rfl⟩ := snoc_of (l := ds) (by omega)
    rw [List.length_append, List.length_singleton] at ld
    have hd' : H' d = some (.lst (ds'.map V.int ++ [.int c])) := by rw [hd', List.map_append]; rfl
    refine ⟨_, rfl, .inl ⟨rfl, _, SqL.of hd'⟩, d, _, .int c, rfl, rfl, hd', by simp, ?_⟩
    dsimp only
    rw [List.dropLast_concat]
    have T1 : SameT H' (upd H' d (.lst (ds'.map V.int))) := sameT_lst hd'
    have kp1 : Kp [d, r] H6 (upd H' d (.lst (ds'.map V.int))) := kp.upd (by simp)
    have hd1' := upd_same (H := H') (a := d) (o := .lst (ds'.map V.int))
    have hr1 : upd H' d (.lst (ds'.map V.int)) r = some (.lst us) := by rw [upd_ne nr]; exact hr2
    have hus1 : L2R (SnIs (upd H' d (.lst (ds'.map V.int)))) ss us := hus.imp fun _ _ h => SnIs.same T1 h
    generalize upd H' d (.lst (ds'.map V.int)) = G1 at kp1 hd1' hr1 hus1 ⊢
    obtain ⟨kd, hkd, mk⟩ : ∃ kd : Str, atI [V.str "num", V.str "text"] (c % 2) = some (.str kd) /\ kd ∈ kd3 := by
      have : c % 2 = 0 \/ c % 2 = 1 := by omega
      rcases this with e | e <;> rw [e] <;> exact ⟨_, rfl, by decide⟩
    refine ⟨_, rfl, c, 0, rfl, (by show 2 <= sizeLine; decide), fun l1 h1 => ⟨_, rfl, _, _, rfl, rfl, (by show (0 : Int) < 2; decide), l1, _, _, .str kd, rfl, rfl, SqL.of upd_same, hkd, (by show 2 <= sizeLine; decide), fun p1 hp1 => ⟨(by show 1 <= sizeLine; decide), fun t1 ht1 => ⟨_, rfl, _, _, rfl, rfl, ⟨by decide, by decide⟩, _, _, rfl, rfl, (by show (0 : Int) < 2; decide), t1, _, [.ref p1], rfl, rfl, upd_same, (fun z => nomatch z), by omega, fun dn G2 sG2 hdn => ?_⟩⟩⟩⟩
    have sl1 := same_new h1 (.lst [.str "num", .str "text"])
    have sp1 := same_new hp1 (.tup [.str (wrd c 0), .str kd])
    have st1 := same_new ht1 (.tup [.ref p1])
    have sB := sl1.trans (sp1.trans (st1.trans sG2))
    have okd : PrsOk G2 dn := ⟨_, hdn, by split <;> simp, fun x hx => by
      split at hx
      · rw [List.mem_singleton.mp hx]
        exact ⟨p1, wrd c 0, kd, rfl, (st1.trans sG2) _ _ upd_same, mk⟩
      · cases hx⟩
    obtain ⟨kd2, hkd2, mk2⟩ : ∃ kd : Str, atI [V.str "row", V.str "num"] (c / 4 % 2) = some (.str kd) /\ kd ∈ kd3 := by
      have : c / 4 % 2 = 0 \/ c / 4 % 2 = 1 := by omega
      rcases this with e | e <;> rw [e] <;> exact ⟨_, rfl, by decide⟩
    refine ⟨_, rfl, c, 1, rfl, (by show 2 <= sizeLine; decide), fun l2 h2 => ⟨_, rfl, _, _, rfl, rfl, ⟨by decide, by decide⟩, _, _, rfl, rfl, (by show (0 : Int) < 2; decide), l2, _, _, .str kd2, rfl, rfl, SqL.of upd_same, hkd2, (by show 2 <= sizeLine; decide), fun p2 hp2 => ⟨(by show 1 <= sizeLine; decide), fun t2 ht2 => ⟨_, rfl, _, _, rfl, rfl, ⟨by decide, by decide⟩, _, _, rfl, rfl, (by show (0 : Int) < 2; decide), t2, _, [.ref p2], rfl, rfl, upd_same, (fun z => nomatch z), by omega, fun un G3 sG3 hun => ?_⟩⟩⟩⟩
    have sl2 := same_new h2 (.lst [.str "row", .str "num"])
    have sp2 := same_new hp2 (.tup [.str (wrd c 1), .str kd2])
    have st2 := same_new ht2 (.tup [.ref p2])
    have sC := sl2.trans (sp2.trans (st2.trans sG3))
    have oku : PrsOk G3 un := ⟨_, hun, by split <;> simp, fun x hx => by
      split at hx
      · rw [List.mem_singleton.mp hx]
        exact ⟨p2, wrd c 1, kd2, rfl, (st2.trans sG3) _ _ upd_same, mk2⟩
      · cases hx⟩
    have sBC := sB.trans sC
    have hr3 := sBC _ _ hr1
    have hd3 := sBC _ _ hd1'
    refine ⟨_, rfl, .inl ⟨rfl, _, SqL.of hr3⟩, _, rfl, _, rfl, w0, _, rfl, _, rfl, _, rfl, (by show 3 <= sizeLine; decide), fun t3 ht3 => ?_⟩
    have s6 := same_new ht3 (.tup [.str (wrd w0 (0 + (i : Int))), .ref dn, .ref un])
    refine ⟨r, us, _, rfl, rfl, s6 _ _ hr3, fitsL (by omega), ?_⟩
    have nt3 : t3 ≠ r := ne_of_none' hr3 ht3
    have T3 : SameT G3 (upd (upd G3 t3 (.tup [.str (wrd w0 (0 + (i : Int))), .ref dn, .ref un])) r (.lst (us ++ [.ref t3]))) := (sameT s6).trans (sameT_lst (s6 _ _ hr3))
    refine ⟨ds', ss ++ [wrd w0 i], us ++ [.ref t3], _, _, _, _, rfl, (kp1.same (sBC.trans s6)).upd (by simp), by rw [upd_ne nr.symm]; exact s6 _ _ hd3, by omega, upd_same, ?_, by rw [List.length_append, lss]; rfl, fun j s hj => ?_⟩
    · refine (hus1.imp fun _ _ h => SnIs.same ((sameT sBC).trans T3) h).snoc ⟨t3, dn, un, rfl, ?_, (okd.same (sameT sC)).same T3, oku.same T3⟩
      rw [upd_ne nt3, upd_same, show (0 + (i : Int)) = (i : Int) by omega]
    · by_cases hjl : j < ss.length
      · rw [List.getElem?_append_left hjl] at hj
        exact nms j s hj
      · rw [List.getElem?_append_right (by omega)] at hj
        have : j = i := by
          have := lt_of_some hj
          simp at this
          omega
        subst this
        rw [lss, Nat.sub_self] at hj
        cases hj
        rfl
  · rintro σ H' ⟨ds, ss, us, x3, x4, x5, x6, rfl, kp, hd', ld, hr2, hus, lss, nms⟩
    refine ⟨_, rfl, r, us, rfl, .inl ⟨SqL.of hr2, fun t ht => ?_⟩⟩
    have st := same_new ht (.tup us)
    refine q t us ss w0 ds _ ?_ upd_same (hus.imp fun _ _ h => SnIs.same (sameT st) h) (by omega) (by omega) nms (st _ _ hd') (by omega)
    intro b o hb hB
    have hbr : b ≠ r := ne_of_none hB r0
    have hbd : b ≠ d := by simpa using hb
    exact st _ _ (kp b o (by simp; exact ⟨hbd, hbr⟩) (k6 b o hb hB))
end
end K22
namespace K22
open PySem L2 TR FT
open TM 
def sgn (ss : List Str) (k : Nat) : Str := (ss[k]?).getD Str.empty
theorem sgn_at {ss : List Str} {k : Nat} (h : k < ss.length) : ss[k]? = some (sgn ss k) := by
  unfold sgn
  rw [List.getElem?_eq_getElem h]
  rfl
abbrev iVs (sh : List Nat) : List V := sh.map fun (j : Nat) => V.int (j : Int)
def mkF (ss : List Str) (nm : Str) (sh : List Nat) : Fr := ⟨nm, sgn ss (sh.headD 0), sh.tail.map (sgn ss)⟩
def spForm : Sp := fun vs H Q _ => ∃ (a l : Addr) (us : List V) (ss : List Str) (nm : Str) (sh : List Nat), vs = [.ref a, .str nm, .ref l] /\ H a = some (.tup us) /\ L2R (SnIs H) ss us /\ ss.length <= 5 /\ H l = some (.lst (iVs sh)) /\ sh ≠ [] /\ sh.length <= 4 /\ (∀ j ∈ sh, j < ss.length) /\ ∀ v H', Same H H' -> FrIs H' (mkF ss nm sh) v -> Q v H'
section
variable {P : Program} {w : World} {K : PySem.W.Frag} {mg : Str -> Option Value} {base : Heap} {T : Adr}
theorem ok_form (X : Tx K mg T) : FnOk P w K mg base CX0 2 T.qform T.d_qform ["_law_signs_here", "_law_name", "_law_at"] spForm := by
  have G_qbase := ok_base (P := P) (w := w) (base := base) X
  refine X.F_qform.okQ sc_qform (fun vs H Q E h => ?_) (fun cdv A outer s H vs Q E hr h => ?_)
  · obtain ⟨_, _, _, _, _, _, rfl, _⟩ := h
    rfl
  obtain ⟨a, l, us, ss, nm, sh, rfl, ha, hus, l5, hl, hne, l4, hlt, q⟩ := h
  refine ⟨_, (qss_cons (qs_set (i := 3) sc_qform.nd rfl (Or.inl rfl) (qe_lst qa_nil)) (qss_cons (qs_for PassesOwn.never rfl (qi_tup (qe_ix ix_tup (qe_ix ix_tup (qv 0) (qe_ix ix_list (qv 2) qe_int (fun _ _ => rfl)) (fun _ _ => rfl)) qe_int (fun _ _ => rfl))) (qg_tup rfl (qgs_cons (qg_name (i := 4) sc_qform.nd rfl (Or.inl rfl)) (qgs_cons (qg_name (i := 5) sc_qform.nd rfl (Or.inl rfl)) qgs_nil))) (qss_one (qs_expr (qe_bm PySem.F.plainAttrs_list PySem.F.slot_list_append PySem.F.type_list_append mt_append (qv 3) (qaT (qe_tup (qaC qe_int (qaN (qv 4) (qaK (qe_call G_qbase hr rfl X.m_qbase X.F_qbase.kp X.b_qbase .nil pass0 (qaN (qv 5) qa_nil)) qa_nil)))) qa_nil))))) (qss_cons (qs_for PassesOwn.never rfl (qi_range2 rfl X.z_range (qaC qe_int (qaK (qe_callB call_len_seq rfl X.z_len PySem.boot_len (qaN (qv 2) qa_nil)) qa_nil))) (qg_name (i := 6) sc_qform.nd rfl (Or.inl rfl)) (qss_one (qs_for PassesOwn.never rfl (qi_tup (qe_ix ix_tup (qe_ix ix_tup (qv 0) (qe_ix ix_list (qv 2) (qv 6) (fun _ _ => rfl)) (fun _ _ => rfl)) qe_int (fun _ _ => rfl))) (qg_tup rfl (qgs_cons (qg_name (i := 7) sc_qform.nd rfl (Or.inl rfl)) (qgs_cons (qg_name (i := 5) sc_qform.nd rfl (Or.inl rfl)) qgs_nil))) (qss_one (qs_expr (qe_bm PySem.F.plainAttrs_list PySem.F.slot_list_append PySem.F.type_list_append mt_append (qv 3) (qaT (qe_tup (qaN (qv 6) (qaN (qv 7) (qaK (qe_call G_qbase hr rfl X.m_qbase X.F_qbase.kp X.b_qbase .nil pass0 (qaN (qv 5) qa_nil)) qa_nil)))) qa_nil))))))) (qss_one (qs_ret (qe_tup (qaN (qv 1) (qaS (qe_ix ix_tup (qe_ix ix_tup (qv 0) (qe_ix ix_list (qv 2) qe_int (fun _ _ => rfl)) (fun _ _ => rfl)) qe_int (fun _ _ => rfl)) (qaK (qe_callTy call_tuple_of rfl X.z_tuple PyProof.Rows.boot_tuple (qaE (qe_comp (ys := ["_law_signs_here"]) (js := [0]) rfl rfl (qi_list (qe_slice sl_list (qv 2) (qo_some qe_int) qo_none)) (fun _ _ _ _ _ => qif_nil) (fun _ _ _ _ _ => (qe_ix (ix_tupC (K := K) rfl) (qe_ix (ix_tupC (K := K) rfl) (qv 1) (qv 0) (fun _ _ => rfl)) qe_int (fun _ _ => rfl)))) qa_nil)) (qaK (qe_callTy call_tuple_of rfl X.z_tuple PyProof.Rows.boot_tuple (qaN (qv 3) qa_nil)) qa_nil)))))))))), ?_⟩
  have lus := hus.len
  cases sh with
  | nil => exact absurd rfl hne
  | cons k0 ks =>
  have lks : ks.length <= 3 := by rw [List.length_cons] at l4; omega
  have ed : (iVs (k0 :: ks)).drop 1 = iVs ks := rfl
  have hk0 : k0 < ss.length := hlt k0 List.mem_cons_self
  have e0 := sgn_at hk0
  obtain ⟨v0, hv0, s0is⟩ := l2r_at hus e0
  obtain ⟨p0, d0, u0, rfl, hp0, okd0, oku0⟩ := s0is
  refine ⟨(by show 0 <= sizeLine; decide), fun r nr => ?_⟩
  have s1 := same_new nr (.lst [])
  have hr1 := upd_same (H := H) (a := r) (o := .lst [])
  generalize upd H r (.lst []) = H1 at s1 hr1 ⊢
  obtain ⟨wus, hu0, lw, wall⟩ := oku0
  refine ⟨_, rfl, _, rfl, l, _, 0, .int (k0 : Int), rfl, rfl, SqL.of (s1 _ _ hl), atI_head _ _, a, _, _, _, rfl, rfl, SqT.of (s1 _ _ ha), atI_nat hv0, p0, _, 2, _, rfl, rfl, SqT.of (s1 _ _ hp0), rfl, u0, rfl, ⟨_, SqT.of (s1 _ _ hu0)⟩, ?_⟩
  refine for_tup (K := K) (a := u0) (xs := wus) (fun i σ H' => ∃ (rs : List V) (x4 x5 x6 x7 : Option V), σ = [some (.ref a), some (.str nm), some (.ref l), some (.ref r), x4, x5, x6, x7] /\ Same H H' /\ H' r = some (.lst rs) /\ rs.length <= i) ⟨[], none, none, none, none, rfl, s1, hr1, Nat.zero_le _⟩ (fun i σ H' _ ⟨_, _, _, _, _, _, sm, _⟩ => SqT.of (sm _ _ hu0)) ?_ ?_
  · rintro i x σ H' hx ⟨rs, x4, x5, x6, x7, rfl, sm, hr', lr⟩
    obtain ⟨qq, un, kd, rfl, hqq, mk⟩ := wall x (List.mem_of_getElem? hx)
    have hi := lt_of_some hx
    refine ⟨qq, _, rfl, SqT.of (sm _ _ hqq), rfl, _, _, rfl, _, _, rfl, rfl, ?_⟩
    refine ⟨_, rfl, .inl ⟨rfl, _, SqL.of hr'⟩, _, rfl, _, rfl, kd, rfl, mk, fun y H2 s2 => ⟨(by show 3 <= sizeLine; decide), fun t ht => ?_⟩⟩
    have st := same_new ht (.tup [.int 0, .str un, y])
    refine ⟨r, rs, _, rfl, rfl, st _ _ (s2 _ _ hr'), fitsL (by omega), ?_⟩
    exact ⟨rs ++ [.ref t], _, _, _, _, rfl, same_upd nr (sm.trans (s2.trans st)), upd_same, by rw [List.length_append, List.length_singleton]; omega⟩
  rintro σ H2 ⟨rs, x4, x5, x6, x7, rfl, s2, hr2, lr2⟩
  refine ⟨_, rfl, l, _, rfl, .inl (SqL.of (s2 _ _ hl)), 1, _, rfl, ⟨by decide, by decide, by omega, by simp at l4; simp; omega⟩, ?_⟩
  refine for_range (fun i σ H' => ∃ (rs : List V) (x4 x5 x6 x7 : Option V), σ = [some (.ref a), some (.str nm), some (.ref l), some (.ref r), x4, x5, x6, x7] /\ Same H H' /\ H' r = some (.lst rs) /\ rs.length <= i + 1) ⟨rs, x4, x5, x6, x7, rfl, s2, hr2, by omega⟩ ?_ ?_
  · rintro i σ H' hi ⟨rs, x4, x5, x6, x7, rfl, sm, hr', lr⟩
    have hi' : i < ks.length := by simp at hi; omega
    obtain ⟨k, hk⟩ := some_of_lt (xs := ks) hi'
    have hkl : k < ss.length := hlt k (List.mem_cons_of_mem _ (List.mem_of_getElem? hk))
    obtain ⟨vk, hvk, skis⟩ := l2r_at hus (sgn_at hkl)
    obtain ⟨pk, dk, uk, rfl, hpk, okdk, _⟩ := skis
    obtain ⟨dus, hdk, ldk, dall⟩ := okdk
    have hat : atI (iVs (k0 :: ks)) (1 + (i : Int)) = some (.int (k : Int)) := by
      rw [show (1 + (i : Int)) = ((i + 1 : Nat) : Int) by omega]
      refine atI_nat ?_
      show (V.int (k0 : Int) :: iVs ks)[i + 1]? = _
      rw [List.getElem?_cons_succ, List.getElem?_map, hk]
      rfl
    refine ⟨_, rfl, _, rfl, _, rfl, l, _, _, .int (k : Int), rfl, rfl, SqL.of (sm _ _ hl), hat, a, _, _, _, rfl, rfl, SqT.of (sm _ _ ha), atI_nat hvk, pk, _, 1, _, rfl, rfl, SqT.of (sm _ _ hpk), rfl, dk, rfl, ⟨_, SqT.of (sm _ _ hdk)⟩, ?_⟩
    refine for_tup (K := K) (a := dk) (xs := dus) (fun j σ H'' => ∃ (rs' : List V) (x4 x5 x7 : Option V), σ = [some (.ref a), some (.str nm), some (.ref l), some (.ref r), x4, x5, some (.int (1 + (i : Int))), x7] /\ Same H H'' /\ H'' r = some (.lst rs') /\ rs'.length <= i + 1 + j) ⟨rs, _, _, _, rfl, sm, hr', by omega⟩ (fun j σ H'' _ ⟨_, _, _, _, _, sm', _⟩ => SqT.of (sm' _ _ hdk)) ?_ ?_
    · rintro j x σ H'' hx ⟨rs', x4', x5', x7', rfl, sm', hr'', lr'⟩
      obtain ⟨qq, un, kd, rfl, hqq, mk⟩ := dall x (List.mem_of_getElem? hx)
      have hj := lt_of_some hx
      refine ⟨qq, _, rfl, SqT.of (sm' _ _ hqq), rfl, _, _, rfl, _, _, rfl, rfl, ?_⟩
      refine ⟨_, rfl, .inl ⟨rfl, _, SqL.of hr''⟩, _, rfl, _, rfl, _, rfl, kd, rfl, mk, fun y H2 s2 => ⟨(by show 3 <= sizeLine; decide), fun t ht => ?_⟩⟩
      have st := same_new ht (.tup [.int (1 + (i : Int)), .str un, y])
      refine ⟨r, rs', _, rfl, rfl, st _ _ (s2 _ _ hr''), fitsL (by omega), ?_⟩
      exact ⟨rs' ++ [.ref t], _, _, _, rfl, same_upd nr (sm'.trans (s2.trans st)), upd_same, by rw [List.length_append, List.length_singleton]; omega⟩
    · rintro σ H'' ⟨rs', x4', x5', x7', rfl, sm', hr'', lr'⟩
      exact ⟨rs', _, _, _, _, rfl, sm', hr'', by omega⟩
  rintro σ H3 ⟨rs, x4, x5, x6, x7, rfl, s3, hr3, lr3⟩
  refine ⟨_, rfl, _, rfl, _, rfl, l, _, 0, .int (k0 : Int), rfl, rfl, SqL.of (s3 _ _ hl), atI_head _ _, a, _, _, _, rfl, rfl, SqT.of (s3 _ _ ha), atI_nat hv0, p0, _, 0, _, rfl, rfl, SqT.of (s3 _ _ hp0), rfl, _, rfl, _, rfl, l, _, rfl, SqL.of (s3 _ _ hl), fun sl nsl => ?_⟩
  rw [show (some 1 : Option Int) = some ((1 : Nat) : Int) from rfl, cut_drop', ed]
  have s4 := same_new nsl (.lst (iVs ks))
  refine ⟨sl, rfl, ⟨_, SqL.of upd_same⟩, fun D nD => ?_⟩
  have s34 := s3.trans s4
  refine comp_lstM (K := K) (ys := (ks.map (sgn ss)).map V.str) (fitsL (by rw [List.length_map]; simp at l4; omega)) (by simp) (SqL.of upd_same) nD (fun i x y H5 hx hy s5 Q' k => ?_) (fun H5 s5 hD5 => ?_)
  · rw [List.getElem?_map] at hx
    rw [List.getElem?_map, List.getElem?_map] at hy
    cases e : ks[i]? with
    | none => rw [e] at hx; cases hx
    | some kk =>
      rw [e] at hx hy
      cases hx
      cases hy
      have hkl : kk < ss.length := hlt kk (List.mem_cons_of_mem _ (List.mem_of_getElem? e))
      obtain ⟨vk, hvk, skis⟩ := l2r_at hus (sgn_at hkl)
      obtain ⟨pk, dk, uk, rfl, hpk, _, _⟩ := skis
      have s35 := s34.trans s5
      exact ⟨_, rfl, _, rfl, a, _, _, _, rfl, rfl, SqT.of (s35 _ _ ha), atI_nat hvk, pk, _, 0, _, rfl, rfl, SqT.of (s35 _ _ hpk), rfl, k _ (Same.refl _)⟩
  · refine ⟨D, _, rfl, .inl ⟨SqL.of hD5, fun t5 nt5 => ?_⟩⟩
    have s6 := same_new nt5 (.tup ((ks.map (sgn ss)).map V.str))
    have hr6 := (s4.trans (s5.trans s6)) _ _ hr3
    have ht6 := upd_same (H := H5) (a := t5) (o := .tup ((ks.map (sgn ss)).map V.str))
    have sA := s34.trans (s5.trans s6)
    generalize upd H5 t5 (.tup ((ks.map (sgn ss)).map V.str)) = H6 at s6 hr6 ht6 sA ⊢
    refine ⟨_, rfl, r, rs, rfl, .inl ⟨SqL.of hr6, fun t7 nt7 => ⟨(by show 4 <= sizeLine; decide), fun t8 nt8 => ?_⟩⟩⟩
    have s7 := same_new nt7 (.tup rs)
    have s8 := same_new nt8 (.tup [.str nm, .str (sgn ss k0), .ref t5, .ref t7])
    exact q _ _ (sA.trans (s7.trans s8)) ⟨t8, t5, _, rfl, upd_same, (s7.trans s8) _ _ ht6⟩
end
end K22
namespace K22
open PySem L2 TR FT
open TM 
def ShI (S : List Addr) (H : Hp) (sh : List Nat) (v : V) : Prop := ∃ l, v = .ref l /\ l ∉ S /\ H l = some (.lst (iVs sh))
theorem ShI.kp {S : List Addr} {H H' : Hp} (k : Kp S H H') {sh : List Nat} {v : V} (h : ShI S H sh v) : ShI S H' sh v := by
  obtain ⟨l, e, n, x⟩ := h
  exact ⟨l, e, n, k _ _ n x⟩
def GAt (H : Hp) (ss : List Str) (G : List Fr) (v : V) : Prop := ∃ g sa fa sus fus, v = .ref g /\ H g = some (.tup [.ref sa, .ref fa]) /\ H sa = some (.tup sus) /\ L2R (SnIs H) ss sus /\ H fa = some (.tup fus) /\ L2R (FrIs H) G fus
theorem GAt.same {H H' : Hp} (e : SameT H H') {ss : List Str} {G : List Fr} {v : V} (h : GAt H ss G v) : GAt H' ss G v := by
  obtain ⟨g, sa, fa, sus, fus, a, b, c, d, f, k⟩ := h
  exact ⟨g, sa, fa, sus, fus, a, e _ _ b, e _ _ c, d.imp fun _ _ => SnIs.same e, e _ _ f, k.imp fun _ _ => FrIs.same e⟩
theorem GAt.g {H : Hp} {ss : List Str} {G : List Fr} {v : V} (h : GAt H ss G v) : GIs H G v := by
  obtain ⟨g, sa, fa, sus, fus, a, b, c, d, f, k⟩ := h
  exact ⟨g, fa, _, fus, a, b, f, k⟩
structure Shs (N : Nat) (shs : List (List Nat)) : Prop where
  one : ∀ k, k < N -> shs[k]? = some [k]
  two : shs[N]? = some [0, 0]
  fou : shs[N + 1]? = some [0, 0, 0, 0]
  all : ∀ sh ∈ shs, sh ≠ [] /\ sh.length <= 4 /\ ∀ j ∈ sh, j < N
structure Gram (ss : List Str) (G : List Fr) : Prop where
  n1 : 1 <= ss.length
  n5 : ss.length <= 5
  sw : ∃ w, ∀ (j : Nat) s, ss[j]? = some s -> s = wrd w j
  ex : ∃ (w : Int) (shs : List (List Nat)), Shs ss.length shs /\ shs.length <= 10 /\ G.length = shs.length /\ ∀ (k : Nat) sh, shs[k]? = some sh -> G[k]? = some (mkF ss (wrd w k) sh)
def spGram : Sp := fun vs H Q _ => ∃ (d : Addr) (cs : List Int), vs = [.ref d] /\ H d = some (.lst (cs.map V.int)) /\ cs.length = 60 /\ ∀ (v : V) (ss : List Str) (G : List Fr) (cs' : List Int) (H' : Hp), Kp [d] H H' -> GAt H' ss G v -> Gram ss G -> H' d = some (.lst (cs'.map V.int)) -> 48 <= cs'.length -> Q v H'
theorem shs0 {N : Nat} (h : 1 <= N) : Shs N (((List.range N).map fun k => [k]) ++ [[0, 0], [0, 0, 0, 0]]) := by
  have l : ((List.range N).map fun k => [k]).length = N := by rw [List.length_map, List.length_range]
  refine ⟨fun k hk => ?_, ?_, ?_, fun sh hs => ?_⟩
  · rw [List.getElem?_append_left (by omega), List.getElem?_map, List.getElem?_range hk]
    rfl
  · rw [List.getElem?_append_right (by omega), l, Nat.sub_self]
    rfl
  · rw [List.getElem?_append_right (by omega), l, show N + 1 - N = 1 by omega]
    rfl
  · rcases List.mem_append.mp hs with h1 | h1
    · obtain ⟨k, hk, rfl⟩ := List.mem_map.mp h1
      refine ⟨(fun z => nomatch z), (by show 1 <= 4; decide), fun j hj => ?_⟩
      rw [List.mem_singleton.mp hj]
      exact List.mem_range.mp hk
    · have h1 : sh = [0, 0] \/ sh = [0, 0, 0, 0] := by simpa using h1
      rcases h1 with rfl | rfl
      · exact ⟨(fun z => nomatch z), (by decide), fun j hj => (show j = 0 by simpa using hj) ▸ h⟩
      · exact ⟨(fun z => nomatch z), (by decide), fun j hj => (show j = 0 by simpa using hj) ▸ h⟩
theorem Shs.snoc {N : Nat} {shs : List (List Nat)} {sh : List Nat} (h : Shs N shs) (h1 : sh ≠ []) (h2 : sh.length <= 4) (h3 : ∀ j ∈ sh, j < N) : Shs N (shs ++ [sh]) := by
  have ap : ∀ {k : Nat} {x}, shs[k]? = some x -> (shs ++ [sh])[k]? = some x := fun {k x} e => by rw [List.getElem?_append_left (lt_of_some e)]; exact e
  refine ⟨fun k hk => ap (h.one k hk), ap h.two, ap h.fou, fun x hx => ?_⟩
  rcases List.mem_append.mp hx with g | g
  · exact h.all x g
  · rw [List.mem_singleton.mp g]
    exact ⟨h1, h2, h3⟩
section
variable {P : Program} {w : World} {K : PySem.W.Frag} {mg : Str -> Option Value} {base : Heap} {T : Adr}
theorem ok_gram (X : Tx K mg T) : FnOk P w K mg base CX0 3 T.qgrammar T.d_qgrammar ["_law_deck_here"] spGram := by
  have G_qword := (ok_word (P := P) (w := w) (base := base) X).mono (show 1 <= 2 by decide)
  have G_qsigns := ok_signs (P := P) (w := w) (base := base) X
  have G_qform := ok_form (P := P) (w := w) (base := base) X
  refine X.F_qgrammar.okQ sc_qgrammar (fun vs H Q E h => ?_) (fun cdv A outer s H vs Q E hr h => ?_)
  · obtain ⟨_, _, rfl, _⟩ := h
    rfl
  obtain ⟨d, cs, rfl, hd, lcs, q⟩ := h
  refine ⟨_, (qss_cons (qs_set (i := 1) sc_qgrammar.nd rfl (Or.inr rfl) (qe_call G_qsigns hr rfl X.m_qsigns X.F_qsigns.kp X.b_qsigns .nil pass0 (qaN (qv 0) qa_nil))) (qss_cons (qs_set (i := 2) sc_qgrammar.nd rfl (Or.inr rfl) (qe_op op_cat (qe_comp (ys := []) (js := []) rfl rfl (qi_range1 rfl X.z_range (qaK (qe_callB call_len_seq rfl X.z_len PySem.boot_len (qaN (qv 1) qa_nil)) qa_nil)) (fun _ _ _ _ _ => qif_nil) (fun _ _ _ _ _ => (qe_lst (qaN (qv 0) qa_nil)))) (qe_lst (qaL (qe_lst (qaC qe_int (qaC qe_int qa_nil))) (qaL (qe_lst (qaC qe_int (qaC qe_int (qaC qe_int (qaC qe_int qa_nil))))) qa_nil))))) (qss_cons (qs_for PassesOwn.never rfl (qi_range1 rfl X.z_range (qaB (qe_op op_mod (qe_bm0 PySem.F.plainAttrs_list PySem.F.slot_list_pop PySem.F.type_list_pop mt_pop (qv 0)) qe_int) qa_nil)) (qg_name (i := 3) sc_qgrammar.nd rfl (Or.inl rfl)) (qss_cons (qs_set (i := 4) sc_qgrammar.nd rfl (Or.inr rfl) (qe_bm0 PySem.F.plainAttrs_list PySem.F.slot_list_pop PySem.F.type_list_pop mt_pop (qv 0))) (qss_one (qs_expr (qe_bm PySem.F.plainAttrs_list PySem.F.slot_list_append PySem.F.type_list_append mt_append (qv 2) (qaE (qe_comp (ys := ["_law_signs_here", "_law_cell"]) (js := [1, 4]) rfl rfl (qi_range1 rfl X.z_range (qaB (qe_op op_add qe_int (qe_op op_mod (qv 4) qe_int)) qa_nil)) (fun _ _ _ _ _ => qif_nil) (fun _ _ _ _ _ => (qe_op op_mod (qe_op op_fdiv (qv 2) (qe_op op_add qe_int (qe_op op_mul qe_int (qv 0)))) (qe_callB (call_len_seqC (K := K) rfl) rfl X.z_len PySem.boot_len (qaN (qv 1) qa_nil))))) qa_nil)))))) (qss_cons (qs_set (i := 5) sc_qgrammar.nd rfl (Or.inr rfl) (qe_bm0 PySem.F.plainAttrs_list PySem.F.slot_list_pop PySem.F.type_list_pop mt_pop (qv 0))) (qss_one (qs_ret (qe_tup (qaN (qv 1) (qaK (qe_callTy call_tuple_of rfl X.z_tuple PyProof.Rows.boot_tuple (qaE (qe_comp (ys := ["_law_signs_here", "_law_shapes", "_law_word_here"]) (js := [1, 2, 5]) rfl rfl (qi_range1 rfl X.z_range (qaK (qe_callB call_len_seq rfl X.z_len PySem.boot_len (qaN (qv 2) qa_nil)) qa_nil)) (fun _ _ _ _ _ => qif_nil) (fun _ _ _ _ _ => (qe_call G_qform hr rfl X.m_qform X.F_qform.kp X.b_qform .nil pass0 (qaN (qv 1) (qaK (qe_call G_qword hr rfl X.m_qword X.F_qword.kp X.b_qword .nil pass0 (qaN (qv 3) (qaN (qv 0) qa_nil))) (qaS (qe_ix (ix_listC (K := K) rfl) (qv 2) (qv 0) (fun _ _ => rfl)) qa_nil)))))) qa_nil)) qa_nil))))))))), ?_⟩
  refine ⟨_, rfl, d, cs, rfl, hd, by omega, fun a us ss sw cs1 H1 k1 ha hus n1 n5 hsw hd1 lc1 => ?_⟩
  have lus := hus.len
  refine ⟨_, rfl, a, us, rfl, .inr (SqT.of ha), _, rfl, by omega, by omega, fun D nD => ?_⟩
  have nDd : D ≠ d := ne_of_none' hd1 nD
  refine comp_rng (fun i acc H' => Kp [D] H1 H' /\ H' D = some (.lst acc) /\ acc.length = i /\ L2R (ShI [d, D] H') ((List.range i).map fun k => [k]) acc) (fitsL (by omega)) ⟨(Kp.refl _ _).upd (by simp), upd_same, rfl, .nil⟩ (fun i acc H' ⟨_, x, y, _⟩ => ⟨x, y⟩) (fun i m acc H' hi ⟨kp, hD, la, hsh⟩ hm => ?_) (fun acc H2 ⟨k2, hD2, la, hsh⟩ => ?_)
  · have hd' : H' d = some (.lst (cs1.map V.int)) := kp _ _ (by simpa using nDd.symm) hd1
    refine ⟨_, rfl, (by show 1 <= sizeLine; decide), fun l nl => ?_⟩
    have sl := same_new nl (.lst [.int (0 + (i : Int))])
    have nlD : l ≠ D := ne_of_none' hD nl
    have nld : l ≠ d := ne_of_none' hd' nl
    refine cstep hi hm (sl _ _ hD) ⟨(kp.same sl).upd (by simp), upd_same, by rw [List.length_append, la]; rfl, ?_⟩
    rw [List.range_succ, List.map_append]
    have kk : Kp [d, D] H' (upd (upd H' l (.lst [.int (0 + (i : Int))])) D (.lst (acc ++ [.ref l]))) := ((Kp.of sl)).upd (by simp)
    refine (hsh.imp fun _ _ h => h.kp kk).snoc ⟨l, rfl, by simp; exact ⟨nld, nlD⟩, ?_⟩
    rw [upd_ne nlD, upd_same]
    show some (HO.lst [V.int (0 + (i : Int))]) = some (HO.lst [V.int (i : Int)])
    rw [Int.zero_add]
  have hN : (us.length : Int).toNat = ss.length := by omega
  have hd2 : H2 d = some (.lst (cs1.map V.int)) := k2 _ _ (by simpa using nDd.symm) hd1
  refine ⟨(by show 2 <= sizeLine; decide), fun a1 h1 => ⟨(by show 4 <= sizeLine; decide), fun a2 h2 => ⟨(by show 2 <= sizeLine; decide), fun a3 h3 => ?_⟩⟩⟩
  have t1 := same_new h1 (.lst [.int 0, .int 0])
  have t2 := same_new h2 (.lst [.int 0, .int 0, .int 0, .int 0])
  have t3 := same_new h3 (.lst [.ref a1, .ref a2])
  have t13 := t1.trans (t2.trans t3)
  refine ⟨D, a3, _, _, rfl, rfl, t13 _ _ hD2, upd_same, fits2 (by show acc.length + 2 <= 100000; omega), fun S nS => ?_⟩
  have t4 := same_new nS (.lst (acc ++ [.ref a1, .ref a2]))
  have t14 := t13.trans t4
  have hd3 := t14 _ _ hd2
  have hS3 := upd_same (H := upd (upd (upd H2 a1 (.lst [.int 0, .int 0])) a2 (.lst [.int 0, .int 0, .int 0, .int 0])) a3 (.lst [.ref a1, .ref a2])) (a := S) (o := .lst (acc ++ [.ref a1, .ref a2]))
  have nSd : S ≠ d := ne_of_none' (t13 _ _ hd2) nS
  have hsh3 : L2R (ShI [d, S] (upd (upd (upd (upd H2 a1 (.lst [.int 0, .int 0])) a2 (.lst [.int 0, .int 0, .int 0, .int 0])) a3 (.lst [.ref a1, .ref a2])) S (.lst (acc ++ [.ref a1, .ref a2])))) (((List.range (us.length : Int).toNat).map fun k => [k]) ++ [[0, 0], [0, 0, 0, 0]]) (acc ++ [.ref a1, .ref a2]) := by
    refine (hsh.imp fun sh v h => ?_).app (.cons ⟨a1, rfl, ?_, (t2.trans (t3.trans t4)) _ _ upd_same⟩ (.cons ⟨a2, rfl, ?_, (t3.trans t4) _ _ upd_same⟩ .nil))
    · obtain ⟨l, e, n, x⟩ := h
      have nl : l ≠ d /\ l ≠ D := by simpa using n
      exact ⟨l, e, by simp; exact ⟨nl.1, ne_of_none (t13 _ _ x) nS⟩, t14 _ _ x⟩
    · simp
      exact ⟨ne_of_none' hd2 h1, ne_of_none ((t2.trans t3) _ _ upd_same) nS⟩
    · simp
      exact ⟨ne_of_none' (t1 _ _ hd2) h2, ne_of_none (t3 _ _ upd_same) nS⟩
  have k3 : Kp [d] H (upd (upd (upd (upd H2 a1 (.lst [.int 0, .int 0])) a2 (.lst [.int 0, .int 0, .int 0, .int 0])) a3 (.lst [.ref a1, .ref a2])) S (.lst (acc ++ [.ref a1, .ref a2]))) := fun b o hb hB => by
    have b1 := k1 b o hb hB
    exact t14 _ _ (k2 _ _ (by simpa using ne_of_none b1 nD) b1)
  have T13 : SameT H1 (upd (upd (upd (upd H2 a1 (.lst [.int 0, .int 0])) a2 (.lst [.int 0, .int 0, .int 0, .int 0])) a3 (.lst [.ref a1, .ref a2])) S (.lst (acc ++ [.ref a1, .ref a2]))) := fun b xs e => t14 _ _ (k2 _ _ (by simpa using ne_of_none e nD) e)
  have S1 : H1 S = none := by
    cases e : H1 S with
    | none => rfl
    | some o => rw [t13 _ _ (k2 _ _ (by simpa using ne_of_none e nD) e)] at nS; cases nS
  have S0 : H S = none := k1.free S1 (by simpa using nSd)
  rw [hN] at hsh3
  generalize upd (upd (upd (upd H2 a1 (.lst [.int 0, .int 0])) a2 (.lst [.int 0, .int 0, .int 0, .int 0])) a3 (.lst [.ref a1, .ref a2])) S (.lst (acc ++ [.ref a1, .ref a2])) = H3 at hd3 hS3 hsh3 k3 T13 ⊢
  have ha3 := T13 _ _ ha
  have hus3 := hus.imp fun _ _ h => SnIs.same T13 h
  have sh0 := shs0 n1
  have ls0 : (((List.range ss.length).map fun k => [k]) ++ [[0, 0], [0, 0, 0, 0]]).length = ss.length + 2 := by rw [List.length_append, List.length_map, List.length_range]; rfl
  generalize (((List.range ss.length).map fun k => [k]) ++ [[0, 0], [0, 0, 0, 0]]) = shs0' at hsh3 sh0 ls0
  generalize acc ++ [.ref a1, .ref a2] = ws0 at hS3 hsh3
  obtain ⟨cs2, c0, rfl⟩ := snoc_of (l := cs1) (by omega)
  rw [List.length_append, List.length_singleton] at lc1
  have hd3 : H3 d = some (.lst (cs2.map V.int ++ [.int c0])) := by rw [hd3, List.map_append]; rfl
  refine ⟨_, rfl, .inl ⟨rfl, _, SqL.of hd3⟩, d, _, .int c0, rfl, rfl, hd3, by simp, ?_⟩
  rw [List.dropLast_concat]
  have c40 := Int.emod_nonneg c0 (show (4 : Int) ≠ 0 by decide)
  have c41 := Int.emod_lt_of_pos c0 (show (0 : Int) < 4 by decide)
  refine ⟨_, _, rfl, rfl, (by show (0 : Int) < 4; decide), _, rfl, by omega, by omega, ?_⟩
  have k4 : Kp [d] H (upd H3 d (.lst (cs2.map V.int))) := k3.upd (by simp)
  have hd4 := upd_same (H := H3) (a := d) (o := .lst (cs2.map V.int))
  have hS4 : upd H3 d (.lst (cs2.map V.int)) S = some (.lst ws0) := by rw [upd_ne nSd]; exact hS3
  have kk4 : Kp [d, S] H3 (upd H3 d (.lst (cs2.map V.int))) := (Kp.refl _ _).upd (by simp)
  have hsh4 := hsh3.imp fun _ _ h => ShI.kp kk4 h
  have T34 : SameT H3 (upd H3 d (.lst (cs2.map V.int))) := sameT_lst hd3
  have ha4 := T34 _ _ ha3
  have hus4 := hus3.imp fun _ _ h => SnIs.same T34 h
  generalize upd H3 d (.lst (cs2.map V.int)) = H4 at k4 hd4 hS4 hsh4 ha4 hus4 ⊢
  refine for_range (n := (c0 % 4).toNat) (fun i σ H' => ∃ (ds : List Int) (shs : List (List Nat)) (ws : List V) (x3 x4 x5 : Option V), σ = [some (.ref d), some (.ref a), some (.ref S), x3, x4, x5] /\ Kp [d, S] H4 H' /\ H' d = some (.lst (ds.map V.int)) /\ ds.length + i = cs2.length /\ H' S = some (.lst ws) /\ L2R (ShI [d, S] H') shs ws /\ shs.length = ss.length + 2 + i /\ Shs ss.length shs)
    ⟨cs2, _, ws0, none, none, none, rfl, Kp.refl _ _, hd4, rfl, hS4, hsh4, ls0, sh0⟩ ?_ ?_
  · rintro i σ H' hi ⟨ds, shs, ws, x3, x4, x5, rfl, kp, hd', ld, hS', hws, lsh, shok⟩
    have lws := hws.len
    obtain ⟨ds', c, rfl⟩ := snoc_of (l := ds) (by omega)
    rw [List.length_append, List.length_singleton] at ld
    have hd' : H' d = some (.lst (ds'.map V.int ++ [.int c])) := by rw [hd', List.map_append]; rfl
    refine ⟨_, rfl, .inl ⟨rfl, _, SqL.of hd'⟩, d, _, .int c, rfl, rfl, hd', by simp, ?_⟩
    dsimp only
    rw [List.dropLast_concat]
    have kp1 : Kp [d, S] H4 (upd H' d (.lst (ds'.map V.int))) := kp.upd (by simp)
    have hd1' := upd_same (H := H') (a := d) (o := .lst (ds'.map V.int))
    have hS1 : upd H' d (.lst (ds'.map V.int)) S = some (.lst ws) := by rw [upd_ne nSd]; exact hS'
    have kk1 : Kp [d, S] H' (upd H' d (.lst (ds'.map V.int))) := (Kp.refl _ _).upd (by simp)
    have hws1 := hws.imp fun _ _ h => ShI.kp kk1 h
    generalize upd H' d (.lst (ds'.map V.int)) = G1 at kp1 hd1' hS1 hws1 ⊢
    have nad : a ∉ [d, S] := by
      simp
      exact ⟨ne_of ha4 hd4 (fun z => nomatch z), ne_of ha4 hS4 (fun z => nomatch z)⟩
    have haG := kp1 _ _ nad ha4
    have b0 := Int.emod_nonneg c (show (4 : Int) ≠ 0 by decide)
    have b1 := Int.emod_lt_of_pos c (show (0 : Int) < 4 by decide)
    refine ⟨_, rfl, .inl ⟨rfl, _, SqL.of hS1⟩, _, rfl, _, _, rfl, rfl, (by show (0 : Int) < 4; decide), _, _, rfl, rfl, _, rfl, by omega, by omega, fun E1 nE1 => ?_⟩
    refine comp_rng (fun j acc H'' => ∃ sh : List Nat, acc = iVs sh /\ sh.length = j /\ (∀ x ∈ sh, x < ss.length) /\ Same G1 H'' /\ H'' E1 = some (.lst acc)) (fitsL (by omega)) ⟨[], rfl, rfl, (fun x hx => nomatch hx), same_new nE1 _, upd_same⟩ (fun j acc H'' ⟨sh, e, l, _, _, x⟩ => ⟨x, by rw [e, List.length_map]; exact l⟩) (fun j m acc H'' hj ⟨sh, e, l, hlt, sm, hE⟩ hm => ?_) (fun acc G2 ⟨sh, e, l, hlt, sm, hE⟩ => ?_)
    · have hj4 : (j : Int) < 4 := by omega
      refine ⟨_, rfl, _, rfl, _, _, rfl, rfl, .inl ⟨by decide, by decide⟩, _, _, rfl, rfl, _, _, rfl, rfl, ⟨by omega, by omega⟩, _, rfl, a, us, rfl, .inr (SqT.of (sm _ _ haG)), _, _, rfl, rfl, (by show (0 : Int) < (us.length : Int); omega), ?_⟩
      have e0 := Int.emod_nonneg (c / (4 + 7 * (0 + (j : Int)))) (show (us.length : Int) ≠ 0 by omega)
      have e1 := Int.emod_lt_of_pos (c / (4 + 7 * (0 + (j : Int)))) (show (0 : Int) < (us.length : Int) by omega)
      obtain ⟨y, hy⟩ := Int.eq_ofNat_of_zero_le e0
      dsimp only
      rw [hy]
      refine cstep hj hm hE ⟨sh ++ [y], ?_, by rw [List.length_append, l]; rfl, fun x hx => ?_, same_upd nE1 sm, upd_same⟩
      · rw [e]
        show _ = (sh ++ [y]).map _
        rw [List.map_append]
        rfl
      · rcases List.mem_append.mp hx with g | g
        · exact hlt x g
        · rw [List.mem_singleton.mp g]
          omega
    · subst e
      have nES : E1 ≠ S := ne_of_none' hS1 nE1
      have nEd : E1 ≠ d := ne_of_none' hd1' nE1
      refine ⟨S, ws, _, rfl, rfl, sm _ _ hS1, fitsL (by omega), ?_⟩
      have kk2 : Kp [d, S] G1 (upd G2 S (.lst (ws ++ [.ref E1]))) := (Kp.of sm).upd (by simp)
      refine ⟨ds', shs ++ [sh], ws ++ [.ref E1], _, _, _, rfl, (kp1.same sm).upd (by simp), by rw [upd_ne nSd.symm]; exact sm _ _ hd1', by omega, upd_same, (hws1.imp fun _ _ h => ShI.kp kk2 h).snoc ⟨E1, rfl, by simp; exact ⟨nEd, nES⟩, by rw [upd_ne nES]; exact hE⟩, by rw [List.length_append, List.length_singleton]; omega, shok.snoc (fun z => ?_) (by omega) hlt⟩
      rw [z] at l
      simp at l
      omega
  rintro σ H5 ⟨ds, shs, ws, x3, x4, x5, rfl, kp, hd', ld, hS', hws, lsh, shok⟩
  have lws := hws.len
  obtain ⟨ds', c, rfl⟩ := snoc_of (l := ds) (by omega)
  rw [List.length_append, List.length_singleton] at ld
  have hd' : H5 d = some (.lst (ds'.map V.int ++ [.int c])) := by rw [hd', List.map_append]; rfl
  refine ⟨_, rfl, .inl ⟨rfl, _, SqL.of hd'⟩, d, _, .int c, rfl, rfl, hd', by simp, ?_⟩
  dsimp only
  rw [List.dropLast_concat]
  have nad : a ∉ [d, S] := by
    simp
    exact ⟨ne_of ha4 hd4 (fun z => nomatch z), ne_of ha4 hS4 (fun z => nomatch z)⟩
  have kp1 : Kp [d, S] H4 (upd H5 d (.lst (ds'.map V.int))) := kp.upd (by simp)
  have hd6 := upd_same (H := H5) (a := d) (o := .lst (ds'.map V.int))
  have hS6 : upd H5 d (.lst (ds'.map V.int)) S = some (.lst ws) := by rw [upd_ne nSd]; exact hS'
  have kk1 : Kp [d, S] H5 (upd H5 d (.lst (ds'.map V.int))) := (Kp.refl _ _).upd (by simp)
  have hws6 := hws.imp fun _ _ h => ShI.kp kk1 h
  have k6 : Kp [d] H (upd H5 d (.lst (ds'.map V.int))) := fun b o hb hB => kp1 b o (by simp; exact ⟨by simpa using hb, ne_of_none hB S0⟩) (k4 b o hb hB)
  have T46 : SameT H4 (upd H5 d (.lst (ds'.map V.int))) := kp1.T fun x hx => by
    have hx : x = d \/ x = S := by simpa using hx
    rcases hx with rfl | rfl
    · exact ⟨_, hd4⟩
    · exact ⟨_, hS4⟩
  have ha6 := T46 _ _ ha4
  have hus6 := hus4.imp fun _ _ h => SnIs.same T46 h
  generalize upd H5 d (.lst (ds'.map V.int)) = H6 at kp1 hd6 hS6 hws6 k6 ha6 hus6 ⊢
  refine ⟨_, rfl, _, rfl, S, ws, rfl, .inl (SqL.of hS6), _, rfl, by omega, by omega, fun D6 nD6 => ?_⟩
  refine comp_rng (fun i acc H' => ∃ G : List Fr, G.length = i /\ (∀ (k : Nat) sh, k < i -> shs[k]? = some sh -> G[k]? = some (mkF ss (wrd c k) sh)) /\ L2R (FrIs H') G acc /\ Same H6 H' /\ H' D6 = some (.lst acc)) (fitsL (by omega)) ⟨[], rfl, (fun k sh hk => absurd hk (Nat.not_lt_zero k)), .nil, same_new nD6 _, upd_same⟩ (fun i acc H' ⟨G, l, _, r, _, x⟩ => ⟨x, by rw [r.len, l]⟩) (fun i m acc H' hi ⟨G, l, hG, r, sm, hD⟩ hm => ?_) (fun acc H7 ⟨G, l, hG, r, sm, hD⟩ => ?_)
  · have hi' : i < shs.length := by omega
    obtain ⟨sh, hsh⟩ := some_of_lt hi'
    obtain ⟨v, hv, sl, rfl, nsl, hsl⟩ := l2r_at hws6 hsh
    obtain ⟨h1, h2, h3⟩ := shok.all sh (List.mem_of_getElem? hsh)
    refine ⟨_, rfl, _, rfl, _, rfl, c, _, rfl, _, rfl, _, rfl, S, _, _, _, rfl, rfl, SqL.of (sm _ _ hS6), (by rw [Int.zero_add]; exact atI_nat hv), a, sl, us, ss, _, sh, rfl, sm _ _ ha6, hus6.imp fun _ _ h => SnIs.same (sameT sm) h, n5, sm _ _ hsl, h1, h2, h3, fun v H8 s8 hf => ?_⟩
    refine cstep hi hm (s8 _ _ hD) ⟨G ++ [mkF ss (wrd c i) sh], by rw [List.length_append, l]; rfl, fun k sh' hk hsh' => ?_, ?_, same_upd nD6 (sm.trans s8), upd_same⟩
    · rcases Nat.lt_succ_iff_lt_or_eq.mp hk with hk | rfl
      · rw [List.getElem?_append_left (by omega)]
        exact hG k sh' hk hsh'
      · rw [hsh] at hsh'
        cases hsh'
        rw [List.getElem?_append_right (by omega), l, Nat.sub_self]
        rfl
    · have tD := sameT_lst (ys := acc ++ [v]) (s8 _ _ hD)
      rw [Int.zero_add] at hf
      exact (r.imp fun _ _ h => FrIs.same ((sameT s8).trans tD) h).snoc (FrIs.same tD hf)
  · refine ⟨D6, _, rfl, .inl ⟨SqL.of hD, fun t7 nt7 => ⟨(by show 2 <= sizeLine; decide), fun t8 nt8 => ?_⟩⟩⟩
    have s7 := same_new nt7 (.tup acc)
    have s8 := same_new nt8 (.tup [.ref a, .ref t7])
    have sA := sm.trans (s7.trans s8)
    refine q _ ss G ds' _ (k6.same sA) ⟨t8, a, t7, us, acc, rfl, upd_same, sA _ _ ha6, hus6.imp fun _ _ h => SnIs.same (sameT sA) h, s8 _ _ upd_same, r.imp fun _ _ h => FrIs.same (sameT (s7.trans s8)) h⟩ ⟨n1, n5, ⟨sw, hsw⟩, c, shs, shok, by omega, by omega, fun k sh hk => hG k sh (by have := lt_of_some hk; omega) hk⟩ (sA _ _ hd6) (by omega)
end
end K22
namespace K22
open PySem L2 TR FT
open TM 
structure Wds (G : List Fr) (s0 w0 w1 w2 : Str) : Prop where
  h0 : find G w0 = some ⟨w0, s0, []⟩
  h1 : find G w1 = some ⟨w1, s0, [s0]⟩
  h2 : find G w2 = some ⟨w2, s0, [s0, s0, s0]⟩
def mu (n : Nat) : Nat := if n < 4 then n else n / 4 + 3
theorem fit0 {G : List Fr} {s0 w0 w1 w2 : Str} (h : Wds G s0 w0 w1 w2) (m : Int) : fit G (.node w0 m []) = some s0 := fit_of (t := .node w0 m []) h.h0 (by show fits G [] = _; rw [fits])
theorem fit1 {G : List Fr} {s0 w0 w1 w2 : Str} (h : Wds G s0 w0 w1 w2) {m : Int} {t : Tr} (ht : fit G t = some s0) : fit G (.node w1 m [t]) = some s0 := fit_of (t := .node w1 m [t]) h.h1 (by
  show fits G [t] = _
  exact fits_cons ht (by rw [fits]))
theorem fit3 {G : List Fr} {s0 w0 w1 w2 : Str} (h : Wds G s0 w0 w1 w2) {m : Int} {t u v : Tr} (ht : fit G t = some s0) (hu : fit G u = some s0) (hv : fit G v = some s0) : fit G (.node w2 m [t, u, v]) = some s0 := fit_of (t := .node w2 m [t, u, v]) h.h2 (by
  show fits G [t, u, v] = _
  exact fits_cons ht (fits_cons hu (fits_cons hv (by rw [fits]))))
theorem sd0 (n : Str) (m : Int) : size (.node n m []) = 1 /\ deep (.node n m []) = 1 := by rw [size, deep, sizes, deeps]; exact ⟨rfl, rfl⟩
theorem sd1 (n : Str) (m : Int) (t : Tr) : size (.node n m [t]) = 1 + size t /\ deep (.node n m [t]) = 1 + deep t := by
  rw [size, deep, sizes, deeps, sizes, deeps]
  omega
theorem sd3 (n : Str) (m : Int) (t u v : Tr) : size (.node n m [t, u, v]) = 1 + (size t + size u + size v) /\ deep (.node n m [t, u, v]) = 1 + max (deep t) (max (deep u) (deep v)) := by
  rw [size, deep, sizes, deeps, sizes, deeps, sizes, deeps, sizes, deeps]
  omega
def TreeN (G : List Fr) (s0 : Str) (H : Hp) (n : Nat) (v : V) : Prop := ∃ t, TrIs H t v /\ size t = n /\ deep t <= mu n /\ fit G t = some s0
theorem TreeN.same {G : List Fr} {s0 : Str} {H H' : Hp} {n : Nat} {v : V} (e : SameT H H') (h : TreeN G s0 H n v) : TreeN G s0 H' n v := by
  obtain ⟨t, a, b, c, d⟩ := h
  exact ⟨t, TrIs.same e t a, b, c, d⟩
def spMany (m : Nat) : Sp := fun vs H Q _ => ∃ (G : List Fr) (s0 w0 w1 w2 : Str) (l : Addr) (n : Nat), vs = [.ref l, .int (n : Int)] /\ H l = some (.lst [.str w0, .str w1, .str w2]) /\ Wds G s0 w0 w1 w2 /\ 1 <= n /\ mu n <= m + 1 /\ ∀ v H', Same H H' -> TreeN G s0 H' n v -> Q v H'
def spDeep : Sp := fun vs H Q _ => ∃ (G : List Fr) (s0 w0 w1 w2 : Str) (l : Addr) (n : Nat) (c : Int), vs = [.ref l, .int (n : Int), .int c] /\ H l = some (.lst [.str w0, .str w1, .str w2]) /\ Wds G s0 w0 w1 w2 /\ 3 <= n /\ n <= 60 /\ ∀ t v H', Same H H' -> TrIs H' t v -> size t = n + 2 -> deep t = n -> fit G t = some s0 -> Q v H'
section
variable {P : Program} {w : World} {K : PySem.W.Frag} {mg : Str -> Option Value} {base : Heap} {T : Adr}
theorem ok_many (X : Tx K mg T) : ∀ m : Nat, FnOk P w K mg base CX0 (m + 1) T.qmany T.d_qmany ["_law_words", "_law_many_here"] (spMany m) := by
  have step : ∀ (m : Nat) (sp : Sp), FnOk P w K mg base CX0 m T.qmany T.d_qmany ["_law_words", "_law_many_here"] sp -> (∀ (G : List Fr) (s0 w0 w1 w2 : Str) (l : Addr) (n : Nat) (H : Hp) (Q : VK) (E : XK), H l = some (.lst [.str w0, .str w1, .str w2]) -> Wds G s0 w0 w1 w2 -> 1 <= n -> mu n <= m -> (∀ v H', Same H H' -> TreeN G s0 H' n v -> Q v H') -> sp [.ref l, .int (n : Int)] H Q E) -> FnOk P w K mg base CX0 (m + 1) T.qmany T.d_qmany ["_law_words", "_law_many_here"] (spMany m) := by
    intro m sp G_qmany hsp
    refine X.F_qmany.okQ sc_qmany (fun vs H Q E h => ?_) (fun cdv A outer s H vs Q E hr h => ?_)
    · obtain ⟨_, _, _, _, _, _, _, rfl, _⟩ := h
      rfl
    obtain ⟨G, s0, w0, w1, w2, l, n, rfl, hl, wd, n1, hm, q⟩ := h
    refine ⟨_, (qss_cons (qs_if (qt_cmpR op_eq (qv 1) qe_int (nomark _)) (qss_one (qs_ret (qe_tup (qaS (qe_ix ix_list (qv 0) qe_int (fun _ _ => rfl)) (qaC qe_int (qaT (qe_tup qa_nil) qa_nil)))))) qss_nil) (qss_cons (qs_if (qt_cmpR op_lt (qv 1) qe_int (nomark _)) (qss_one (qs_ret (qe_tup (qaS (qe_ix ix_list (qv 0) qe_int (fun _ _ => rfl)) (qaN (qv 1) (qaT (qe_tup (qaK (qe_call G_qmany hr rfl X.m_qmany X.F_qmany.kp X.b_qmany .nil pass0 (qaN (qv 0) (qaB (qe_op op_sub (qv 1) qe_int) qa_nil))) qa_nil)) qa_nil)))))) qss_nil) (qss_cons (qs_set (i := 2) sc_qmany.nd rfl (Or.inl rfl) (qe_op op_fdiv (qe_op op_sub (qv 1) qe_int) qe_int)) (qss_cons (qs_set (i := 3) sc_qmany.nd rfl (Or.inl rfl) (qe_lst (qaN (qv 2) (qaN (qv 2) (qaB (qe_op op_sub (qe_op op_sub (qv 1) qe_int) (qe_op op_mul qe_int (qv 2))) qa_nil))))) (qss_one (qs_ret (qe_tup (qaS (qe_ix ix_list (qv 0) qe_int (fun _ _ => rfl)) (qaC qe_int (qaK (qe_callTy call_tuple_of rfl X.z_tuple PyProof.Rows.boot_tuple (qaE (qe_comp (ys := ["_law_words"]) (js := [0]) rfl rfl (qi_list (qv 3)) (fun _ _ _ _ _ => qif_nil) (fun _ _ _ _ _ => (qe_call G_qmany hr rfl X.m_qmany X.F_qmany.kp X.b_qmany .nil pass0 (qaN (qv 1) (qaN (qv 0) qa_nil))))) qa_nil)) qa_nil)))))))))), ?_⟩
    refine ⟨_, rfl, rfl, _, rfl, iteDd (fun h => ?_) (fun h1 => ?_)⟩
    · have e : (n : Int) = 1 := V.int.inj h
      have e : n = 1 := by omega
      subst e
      refine ⟨_, rfl, l, _, 0, .str w0, rfl, rfl, SqL.of hl, rfl, (by show 0 <= sizeLine; decide), fun p1 h1 => ⟨(by show 3 <= sizeLine; decide), fun p2 h2 => ?_⟩⟩
      have t1 := same_new h1 (.tup [])
      have t2 := same_new h2 (.tup [.str w0, .int 7, .ref p1])
      have z := sd0 w0 7
      exact q _ _ (t1.trans t2) ⟨_, TrIs.cl upd_same (t2 _ _ upd_same) .nil, z.1, by rw [z.2]; decide, fit0 wd 7⟩
    have hn1 : n ≠ 1 := fun e => h1 (by rw [e]; rfl)
    refine ⟨_, rfl, _, _, rfl, rfl, _, rfl, iteDd (fun h => ?_) (fun h => ?_)⟩
    · have hn4 : n < 4 := by omega
      have em : mu n = n := by unfold mu; rw [if_pos hn4]
      have em1 : mu (n - 1) = n - 1 := by unfold mu; rw [if_pos (by omega)]
      have ei : (n : Int) - 1 = ((n - 1 : Nat) : Int) := by omega
      refine ⟨_, rfl, l, _, 1, .str w1, rfl, rfl, SqL.of hl, rfl, _, rfl, _, rfl, _, rfl, _, _, rfl, rfl, ?_⟩
      show sp [V.ref l, V.int ((n : Int) - 1)] H _ _
      rw [ei]
      refine hsp G s0 w0 w1 w2 l (n - 1) H _ _ hl wd (by omega) (by omega) fun v H1 s1 ⟨t, ht, sz, dp, ft⟩ => ⟨(by show 1 <= sizeLine; decide), fun p1 h1 => ⟨(by show 3 <= sizeLine; decide), fun p2 h2 => ?_⟩⟩
      have t1 := same_new h1 (.tup [v])
      have t2 := same_new h2 (.tup [.str w1, .int (n : Int), .ref p1])
      have z := sd1 w1 (n : Int) t
      exact q _ _ (s1.trans (t1.trans t2)) ⟨_, TrIs.cl upd_same (t2 _ _ upd_same) (.cons (TrIs.same (sameT (t1.trans t2)) t ht) .nil), by rw [z.1]; omega, by rw [z.2]; omega, fit1 wd ft⟩
    · have hn4 : 4 <= n := by omega
      have em : mu n = n / 4 + 3 := by unfold mu; rw [if_neg (by omega)]
      refine ⟨_, rfl, _, _, rfl, rfl, _, _, rfl, rfl, ⟨by decide, by decide⟩, ?_⟩
      have es : ((n : Int) - 1) / 3 = (((n - 1) / 3 : Nat) : Int) := by omega
      refine ⟨_, rfl, _, rfl, _, rfl, _, _, rfl, rfl, _, rfl, _, _, rfl, rfl, .inl ⟨by decide, by decide⟩, _, _, rfl, rfl, (by show 3 <= sizeLine; decide), fun r nr => ?_⟩
      have er : (n : Int) - 1 - 2 * (((n : Int) - 1) / 3) = ((n - 1 - 2 * ((n - 1) / 3) : Nat) : Int) := by omega
      dsimp only at nr ⊢
      rw [er, es]
      have tr := same_new nr (.lst [V.int (((n - 1) / 3 : Nat) : Int), V.int (((n - 1) / 3 : Nat) : Int), V.int ((n - 1 - 2 * ((n - 1) / 3) : Nat) : Int)])
      have hr1 : upd H r (.lst [V.int (((n - 1) / 3 : Nat) : Int), V.int (((n - 1) / 3 : Nat) : Int), V.int ((n - 1 - 2 * ((n - 1) / 3) : Nat) : Int)]) r = some (.lst (([(n - 1) / 3, (n - 1) / 3, n - 1 - 2 * ((n - 1) / 3)] : List Nat).map fun (j : Nat) => V.int (j : Int))) := upd_same
      generalize upd H r (.lst [V.int (((n - 1) / 3 : Nat) : Int), V.int (((n - 1) / 3 : Nat) : Int), V.int ((n - 1 - 2 * ((n - 1) / 3) : Nat) : Int)]) = H1 at tr hr1 ⊢
      refine ⟨_, rfl, l, _, 2, .str w2, rfl, rfl, SqL.of (tr _ _ hl), rfl, _, rfl, r, rfl, ⟨_, SqL.of hr1⟩, fun D nD => ?_⟩
      have small : ∀ c ∈ [(n - 1) / 3, (n - 1) / 3, n - 1 - 2 * ((n - 1) / 3)], 1 <= c /\ mu c <= m /\ mu c + 1 <= mu n := by
        intro c hc
        have hc : c = (n - 1) / 3 \/ c = n - 1 - 2 * ((n - 1) / 3) := by simpa using hc
        have : 1 <= c /\ mu c + 1 <= n / 4 + 3 := by
          unfold mu
          refine ⟨by omega, ?_⟩
          split
          · omega
          · omega
        omega
      refine comp_lstR (K := K) (R := fun H c v => TreeN G s0 H c v) (as := [(n - 1) / 3, (n - 1) / 3, n - 1 - 2 * ((n - 1) / 3)]) (OffD.ofT fun _ _ _ _ e r => TreeN.same e r) (by show 3 < sizeLine; decide) rfl (SqL.of hr1) nD (fun j x c H2 hx hc s2 _ Q' k => ?_) (fun ys H2 s2 hD2 hys => ?_)
      · rw [List.getElem?_map, hc] at hx
        cases hx
        obtain ⟨c1, c2, _⟩ := small c (List.mem_of_getElem? hc)
        exact ⟨_, rfl, _, rfl, hsp G s0 w0 w1 w2 l c H2 _ _ ((tr.trans s2) _ _ hl) wd c1 c2 fun v H3 s3 ht => k _ _ s3 ht⟩
      · refine ⟨D, _, rfl, .inl ⟨SqL.of hD2, fun p1 h1 => ⟨(by show 3 <= sizeLine; decide), fun p2 h2 => ?_⟩⟩⟩
        have t1 := same_new h1 (.tup ys)
        have t2 := same_new h2 (.tup [.str w2, .int 0, .ref p1])
        obtain ⟨y1, r1, rfl, ⟨u1, a1, b1, d1, f1⟩, hys⟩ := hys.inv_cons
        obtain ⟨y2, r2, rfl, ⟨u2, a2, b2, d2, f2⟩, hys⟩ := hys.inv_cons
        obtain ⟨y3, r3, rfl, ⟨u3, a3, b3, d3, f3⟩, hys⟩ := hys.inv_cons
        have := hys.nil_of
        subst this
        have T := sameT (t1.trans t2)
        have z := sd3 w2 0 u1 u2 u3
        have g1 := (small ((n - 1) / 3) (by simp)).2.2
        have g3 := (small (n - 1 - 2 * ((n - 1) / 3)) (by simp)).2.2
        exact q _ _ (tr.trans (s2.trans (t1.trans t2))) ⟨_, TrIs.cl upd_same (t2 _ _ upd_same) (.cons (TrIs.same T u1 a1) (.cons (TrIs.same T u2 a2) (.cons (TrIs.same T u3 a3) .nil))), by rw [z.1]; omega, by rw [z.2]; omega, fit3 wd f1 f2 f3⟩
  intro m
  induction m with
  | zero => exact step 0 (fun _ _ _ _ => False) ⟨fun _ _ _ _ h => h.elim, fun _ _ _ _ _ _ _ _ _ _ _ _ _ h => h.elim⟩ (fun G s0 w0 w1 w2 l n H Q E _ _ n1 hm _ => by unfold mu at hm; split at hm <;> omega)
  | succ m ih => exact step (m + 1) _ ih fun G s0 w0 w1 w2 l n H Q E h1 h2 h3 h4 h5 => ⟨G, s0, w0, w1, w2, l, n, rfl, h1, h2, h3, h4, h5⟩
theorem ok_deep (X : Tx K mg T) : FnOk P w K mg base CX0 1 T.qdeep T.d_qdeep ["_law_words", "_law_level", "_law_cell"] spDeep := by
  refine X.F_qdeep.okQ sc_qdeep (fun vs H Q E h => ?_) (fun cdv A outer s H vs Q E hr h => ?_)
  · obtain ⟨_, _, _, _, _, _, _, _, rfl, _⟩ := h
    rfl
  obtain ⟨G, s0, w0, w1, w2, l, n, c, rfl, hl, wd, n3, n60, q⟩ := h
  refine ⟨_, (qss_cons (qs_set (i := 3) sc_qdeep.nd rfl (Or.inl rfl) (qe_tup (qaS (qe_ix ix_list (qv 0) qe_int (fun _ _ => rfl)) (qaC qe_int (qaT (qe_tup qa_nil) qa_nil))))) (qss_cons (qs_for PassesOwn.never rfl (qi_range1 rfl X.z_range (qaB (qe_op op_sub (qv 1) qe_int) qa_nil)) (qg_name (i := 4) sc_qdeep.nd rfl (Or.inl rfl)) (qss_one (qs_set (i := 3) sc_qdeep.nd rfl (Or.inl rfl) (qe_tup (qaS (qe_ix ix_list (qv 0) qe_int (fun _ _ => rfl)) (qaN (qv 4) (qaT (qe_tup (qaN (qv 3) qa_nil)) qa_nil))))))) (qss_cons (qs_set (i := 5) sc_qdeep.nd rfl (Or.inl rfl) (qe_lst (qaT (qe_tup (qaS (qe_ix ix_list (qv 0) qe_int (fun _ _ => rfl)) (qaC qe_int (qaT (qe_tup qa_nil) qa_nil)))) (qaT (qe_tup (qaS (qe_ix ix_list (qv 0) qe_int (fun _ _ => rfl)) (qaC qe_int (qaT (qe_tup qa_nil) qa_nil)))) qa_nil)))) (qss_cons (qs_expr (qe_bm PySem.F.plainAttrs_list PySem.F.slot_list_insert PySem.F.type_list_insert mt_insert (qv 5) (qaB (qe_op op_mod (qv 2) qe_int) (qaN (qv 3) qa_nil)))) (qss_one (qs_ret (qe_tup (qaS (qe_ix ix_list (qv 0) qe_int (fun _ _ => rfl)) (qaC qe_int (qaK (qe_callTy call_tuple_of rfl X.z_tuple PyProof.Rows.boot_tuple (qaN (qv 5) qa_nil)) qa_nil)))))))))), ?_⟩
  refine ⟨_, rfl, l, _, 0, .str w0, rfl, rfl, SqL.of hl, rfl, (by show 0 <= sizeLine; decide), fun p1 h1 => ⟨(by show 3 <= sizeLine; decide), fun p2 h2 => ?_⟩⟩
  have t1 := same_new h1 (.tup [])
  have t2 := same_new h2 (.tup [.str w0, .int 5, .ref p1])
  have tr0 : TrIs (upd (upd H p1 (.tup [])) p2 (.tup [.str w0, .int 5, .ref p1])) (.node w0 5 []) (.ref p2) := TrIs.cl upd_same (t2 _ _ upd_same) .nil
  have t12 := t1.trans t2
  generalize upd (upd H p1 (.tup [])) p2 (.tup [.str w0, .int 5, .ref p1]) = H1 at tr0 t12 ⊢
  have z0 := sd0 w0 5
  refine ⟨_, rfl, _, _, rfl, rfl, _, rfl, by omega, by omega, ?_⟩
  refine for_range (fun i σ H' => ∃ (t : Tr) (v : V) (x4 x5 : Option V), σ = [some (.ref l), some (.int (n : Int)), some (.int c), some v, x4, x5] /\ Same H H' /\ TrIs H' t v /\ size t = i + 1 /\ deep t = i + 1 /\ fit G t = some s0) ⟨_, _, none, none, rfl, t12, tr0, z0.1, z0.2, fit0 wd 5⟩ ?_ ?_
  · rintro i σ H' hi ⟨t, v, x4, x5, rfl, sm, ht, sz, dp, ft⟩
    refine ⟨_, rfl, l, _, 1, .str w1, rfl, rfl, SqL.of (sm _ _ hl), rfl, _, rfl, _, rfl, (by show 1 <= sizeLine; decide), fun p1 h1 => ⟨(by show 3 <= sizeLine; decide), fun p2 h2 => ?_⟩⟩
    have t1 := same_new h1 (.tup [v])
    have t2 := same_new h2 (.tup [.str w1, .int (0 + (i : Int)), .ref p1])
    have z := sd1 w1 (0 + (i : Int)) t
    exact ⟨.node w1 (0 + (i : Int)) [t], .ref p2, _, _, rfl, sm.trans (t1.trans t2), TrIs.cl upd_same (t2 _ _ upd_same) (.cons (TrIs.same (sameT (t1.trans t2)) t ht) .nil), by rw [z.1]; omega, by rw [z.2]; omega, fit1 wd ft⟩
  rintro σ H2 ⟨t, v, x4, x5, rfl, sm, ht, sz, dp, ft⟩
  have en : ((n : Int) - 2).toNat = n - 2 := by omega
  rw [en] at sz dp
  refine ⟨_, rfl, l, _, 0, .str w0, rfl, rfl, SqL.of (sm _ _ hl), rfl, (by show 0 <= sizeLine; decide), fun a1 g1 => ⟨(by show 3 <= sizeLine; decide), fun a2 g2 => ?_⟩⟩
  have u1 := same_new g1 (.tup [])
  have u2 := same_new g2 (.tup [.str w0, .int 0, .ref a1])
  refine ⟨_, rfl, l, _, 0, .str w0, rfl, rfl, SqL.of ((sm.trans (u1.trans u2)) _ _ hl), rfl, (by show 0 <= sizeLine; decide), fun a3 g3 => ⟨(by show 3 <= sizeLine; decide), fun a4 g4 => ⟨(by show 2 <= sizeLine; decide), fun r nr => ?_⟩⟩⟩
  have u3 := same_new g3 (.tup [])
  have u4 := same_new g4 (.tup [.str w0, .int 1, .ref a3])
  have u5 := same_new nr (.lst [.ref a2, .ref a4])
  have L1 : TrIs (upd (upd (upd (upd (upd H2 a1 (.tup [])) a2 (.tup [.str w0, .int 0, .ref a1])) a3 (.tup [])) a4 (.tup [.str w0, .int 1, .ref a3])) r (.lst [.ref a2, .ref a4])) (.node w0 0 []) (.ref a2) := TrIs.cl ((u3.trans (u4.trans u5)) _ _ upd_same) ((u2.trans (u3.trans (u4.trans u5))) _ _ upd_same) .nil
  have L2' : TrIs (upd (upd (upd (upd (upd H2 a1 (.tup [])) a2 (.tup [.str w0, .int 0, .ref a1])) a3 (.tup [])) a4 (.tup [.str w0, .int 1, .ref a3])) r (.lst [.ref a2, .ref a4])) (.node w0 1 []) (.ref a4) := TrIs.cl (u5 _ _ upd_same) ((u4.trans u5) _ _ upd_same) .nil
  have uA := u1.trans (u2.trans (u3.trans (u4.trans u5)))
  have hr5 := upd_same (H := upd (upd (upd (upd H2 a1 (.tup [])) a2 (.tup [.str w0, .int 0, .ref a1])) a3 (.tup [])) a4 (.tup [.str w0, .int 1, .ref a3])) (a := r) (o := .lst [.ref a2, .ref a4])
  have r0 : H r = none := (sm.trans (u1.trans (u2.trans (u3.trans u4)))).free nr
  generalize upd (upd (upd (upd (upd H2 a1 (.tup [])) a2 (.tup [.str w0, .int 0, .ref a1])) a3 (.tup [])) a4 (.tup [.str w0, .int 1, .ref a3])) r (.lst [.ref a2, .ref a4]) = H5 at L1 L2' uA hr5 ⊢
  have c0 := Int.emod_nonneg c (show (3 : Int) ≠ 0 by decide)
  have c1 := Int.emod_lt_of_pos c (show (0 : Int) < 3 by decide)
  refine ⟨_, rfl, .inl ⟨rfl, _, SqL.of hr5⟩, _, rfl, _, _, rfl, rfl, (by show (0 : Int) < 3; decide), _, rfl, r, _, _, v, rfl, rfl, hr5, c0, (by show c % 3 <= 2; omega), (by show 2 < sizeLine; decide), ?_⟩
  have hsm := same_upd (o := .lst (([V.ref a2, V.ref a4] : List V).take (c % 3).toNat ++ v :: ([V.ref a2, V.ref a4] : List V).drop (c % 3).toNat)) r0 (sm.trans uA)
  have tL := sameT_lst (ys := ([V.ref a2, V.ref a4] : List V).take (c % 3).toNat ++ v :: ([V.ref a2, V.ref a4] : List V).drop (c % 3).toNat) hr5
  have hr6 := upd_same (H := H5) (a := r) (o := .lst (([V.ref a2, V.ref a4] : List V).take (c % 3).toNat ++ v :: ([V.ref a2, V.ref a4] : List V).drop (c % 3).toNat))
  have L1 := TrIs.same tL _ L1
  have L2' := TrIs.same tL _ L2'
  have L3 := TrIs.same ((sameT uA).trans tL) t ht
  generalize upd H5 r (.lst (([V.ref a2, V.ref a4] : List V).take (c % 3).toNat ++ v :: ([V.ref a2, V.ref a4] : List V).drop (c % 3).toNat)) = H6 at hsm hr6 L1 L2' L3 ⊢
  refine ⟨_, rfl, l, _, 2, .str w2, rfl, rfl, SqL.of (hsm _ _ hl), rfl, _, rfl, r, _, rfl, .inl ⟨SqL.of hr6, fun b1 k1 => ⟨(by show 3 <= sizeLine; decide), fun b2 k2 => ?_⟩⟩⟩
  have v1 := same_new k1 (.tup (([V.ref a2, V.ref a4] : List V).take (c % 3).toNat ++ v :: ([V.ref a2, V.ref a4] : List V).drop (c % 3).toNat))
  have v2 := same_new k2 (.tup [.str w2, .int 3, .ref b1])
  have T := sameT (v1.trans v2)
  have L1 := TrIs.same T _ L1
  have L2' := TrIs.same T _ L2'
  have L3 := TrIs.same T _ L3
  have hb1 := v2 _ _ (upd_same (H := H6) (a := b1) (o := .tup (([V.ref a2, V.ref a4] : List V).take (c % 3).toNat ++ v :: ([V.ref a2, V.ref a4] : List V).drop (c % 3).toNat)))
  have hb2 := upd_same (H := upd H6 b1 (.tup (([V.ref a2, V.ref a4] : List V).take (c % 3).toNat ++ v :: ([V.ref a2, V.ref a4] : List V).drop (c % 3).toNat))) (a := b2) (o := .tup [.str w2, .int 3, .ref b1])
  have sA := hsm.trans (v1.trans v2)
  generalize upd (upd H6 b1 (.tup (([V.ref a2, V.ref a4] : List V).take (c % 3).toNat ++ v :: ([V.ref a2, V.ref a4] : List V).drop (c % 3).toNat))) b2 (.tup [.str w2, .int 3, .ref b1]) = H8 at sA hb1 hb2 L1 L2' L3 ⊢
  have y0 := sd0 w0 0
  have y1 := sd0 w0 1
  have hc3 : c % 3 = 0 \/ c % 3 = 1 \/ c % 3 = 2 := by omega
  rcases hc3 with e | e | e
  · rw [e] at hb1
    have z := sd3 w2 3 t (.node w0 0 []) (.node w0 1 [])
    exact q _ _ _ sA (TrIs.cl hb2 hb1 (.cons L3 (.cons L1 (.cons L2' .nil)))) (by rw [z.1]; omega) (by rw [z.2]; omega) (fit3 wd ft (fit0 wd 0) (fit0 wd 1))
  · rw [e] at hb1
    have z := sd3 w2 3 (.node w0 0 []) t (.node w0 1 [])
    exact q _ _ _ sA (TrIs.cl hb2 hb1 (.cons L1 (.cons L3 (.cons L2' .nil)))) (by rw [z.1]; omega) (by rw [z.2]; omega) (fit3 wd (fit0 wd 0) ft (fit0 wd 1))
  · rw [e] at hb1
    have z := sd3 w2 3 (.node w0 0 []) (.node w0 1 []) t
    exact q _ _ _ sA (TrIs.cl hb2 hb1 (.cons L1 (.cons L2' (.cons L3 .nil)))) (by rw [z.1]; omega) (by rw [z.2]; omega) (fit3 wd (fit0 wd 0) (fit0 wd 1) ft)
end
end K22
namespace K22
open PySem L2 TR FT
open TM 
theorem comp_frF {K : PySem.W.Frag} {a : Addr} {us : List V} {G : List Fr} {js : List Nat} {tc : TT} {te : TE} {σ : St} {Q : VK} {D : Addr} {H1 : Hp} {R : Hp -> Fr -> V -> Prop} (st : ∀ H H' f v, SameT H H' -> R H f v -> R H' f v) (pr : Fr -> Bool) (hz : us.length < sizeLine) (ha : H1 a = some (.tup us)) (hus : L2R (FrIs H1) G us) (hD : H1 D = none)
    (hc : ∀ f v H, f ∈ G -> FrIs H f v -> Same H1 H -> ∀ Q' : Bool -> Hp -> Prop, (∀ H', Same H H' -> Q' (pr f) H') -> tc (some v :: compS js σ) H Q')
    (he : ∀ f v H, f ∈ G -> FrIs H f v -> Same H1 H -> ∀ Q' : VK, (∀ y H', Same H H' -> R H' f y -> Q' y H') -> te (some v :: compS js σ) H Q')
    (hq : ∀ ys H', Same H1 H' -> H' D = some (.lst ys) -> L2R (R H') (G.filter pr) ys -> Q (.ref D) H') : CompW (Itt K a) js tc te σ Q D H1 := by
  have lus := hus.len
  refine ⟨fun i m acc H => m = us.length - i /\ i <= us.length /\ Same H1 H /\ H D = some (.lst acc) /\ L2R (R H) ((G.take i).filter pr) acc, ⟨us.length, by simp, Nat.zero_le _, same_new hD _, upd_same, .nil⟩, ?_⟩
  rintro i m acc H ⟨hm, hi, sm, hDi, hr⟩
  have la := hr.len
  have lf : ((G.take i).filter pr).length <= i := Nat.le_trans (List.length_filter_le _ _) (by rw [List.length_take]; omega)
  refine ⟨hDi, by omega, ?_⟩
  by_cases hlt : i < us.length
  · refine .inr ⟨⟨us, us[i], SqT.of (sm _ _ ha), by simp [hlt]⟩, fun x H' y => ?_⟩
    obtain ⟨e, y⟩ := y
    subst e
    have hx := y us (SqT.of (sm _ _ ha))
    obtain ⟨f, hf, hfi⟩ := hus.get hx
    have fm := List.mem_of_getElem? hf
    refine hc f x _ fm (FrIs.same (sameT sm) hfi) sm _ fun H2 s2 => ?_
    have hD2 := s2 _ _ hDi
    have et : (G.take (i + 1)).filter pr = (G.take i).filter pr ++ [f].filter pr := by rw [take_snocA hf, List.filter_append]
    cases hp : pr f with
    | true =>
      rw [if_pos rfl]
      refine he f x H2 fm (FrIs.same (sameT (sm.trans s2)) hfi) (sm.trans s2) _ fun y H3 s3 hR => ⟨s3 _ _ hD2, us.length - (i + 1), by omega, rfl, by omega, same_upd hD (sm.trans (s2.trans s3)), upd_same, ?_⟩
      have tD := sameT_lst (ys := acc ++ [y]) (s3 _ _ hD2)
      rw [et, List.filter_cons_of_pos hp, List.filter_nil]
      exact (hr.imp fun f v h => st _ _ f v ((sameT (s2.trans s3)).trans tD) h).snoc (st _ _ _ _ tD hR)
    | false =>
      rw [if_neg (by simp)]
      refine ⟨us.length - (i + 1), by omega, rfl, by omega, sm.trans s2, hD2, ?_⟩
      rw [et, List.filter_cons_of_neg (by simp [hp]), List.filter_nil, List.append_nil]
      exact hr.imp fun f v h => st _ _ f v (sameT s2) h
  · have e : i = us.length := by omega
    subst e
    rw [lus, List.take_length] at hr
    exact .inl ⟨⟨us, SqT.of (sm _ _ ha), Nat.le_refl _⟩, hq acc H sm hDi hr⟩
theorem TrOk.node {nm : Str} {mk : Int} {bs : List Tr} (h : Sh nm) (hb : ∀ (i : Nat) b, bs[i]? = some b -> TrOk b) : TrOk (.node nm mk bs) := fun p u hu => by
  cases p with
  | nil => cases hu; exact h
  | cons k p =>
    obtain ⟨_, _, c, hc, _, h'⟩ := atT_cons hu
    exact hb _ c hc p u h'
theorem TrOk.put : ∀ {p : List Int} {t x r : Tr}, TrOk t -> TrOk x -> putT p t x = some r -> TrOk r
  | [], t, x, r, ht, hx, h => by cases h; exact hx
  | k :: p, t, x, r, ht, hx, h => by
    obtain ⟨_, _, c, c', hc, _, h', rfl⟩ := putT_cons h
    refine TrOk.node (ht [] t rfl) fun i b hb => ?_
    by_cases hi : i = (k - 1).toNat
    · subst hi
      rw [set_get hc] at hb
      cases hb
      exact TrOk.put (ht.br hc) hx h'
    · rw [List.getElem?_set_ne (Ne.symm hi)] at hb
      exact ht.br hb
theorem fit_ok {G : List Fr} {t : Tr} {s : Str} (g : GOk G) (h : fit G t = some s) : TrOk t := fun p u hu => by
  obtain ⟨su, hs⟩ := fit_at h hu
  obtain ⟨f, hf, _, _⟩ := fit_some hs
  obtain ⟨fm, e⟩ := find_mem hf
  rw [<- e]
  exact g.nm f fm
def spRepl (n : Nat) : Sp := fun vs H Q _ => ∃ (t b r : Tr) (v x : V) (q : List Int) (a : Addr), vs = [v, .ref a, x] /\ TrIs H t v /\ TrIs H b x /\ H a = some (.tup (q.map V.int)) /\ putT q t b = some r /\ q.length <= n /\ size t <= 300 /\ ∀ y H', Same H H' -> TrIs H' r y -> Q y H'
def spLack : Sp := fun vs H Q _ => ∃ (G : List Fr) (t : Tr) (vg v : V) (c : Int), vs = [vg, v, .int c] /\ GIs H G vg /\ G.length <= 10 /\ TrIs H t v /\ size t <= 200 /\ ∀ p u vg' H', Same H H' -> atT p t = some u -> GIs H' (G.filter fun f => !decide (f.nm = u.nm)) vg' -> Q vg' H'
section
variable {P : Program} {w : World} {K : PySem.W.Frag} {mg : Str -> Option Value} {base : Heap} {T : Adr}
theorem ok_repl (X : Tx K mg T) : ∀ n : Nat, FnOk P w K mg base CX0 (n + 1) T.qreplaced T.d_qreplaced ["_law_tree", "_law_path", "_law_branch"] (spRepl n) := by
  have step : ∀ (n : Nat) (sp : Sp), FnOk P w K mg base CX0 n T.qreplaced T.d_qreplaced ["_law_tree", "_law_path", "_law_branch"] sp -> (∀ vs H Q E (t b r : Tr) (v x : V) (q : List Int) (a : Addr), vs = [v, .ref a, x] -> TrIs H t v -> TrIs H b x -> H a = some (.tup (q.map V.int)) -> putT q t b = some r -> q.length < n -> size t <= 300 -> (∀ y H', Same H H' -> TrIs H' r y -> Q y H') -> sp vs H Q E) -> FnOk P w K mg base CX0 (n + 1) T.qreplaced T.d_qreplaced ["_law_tree", "_law_path", "_law_branch"] (spRepl n) := by
    intro n sp G_qreplaced hsp
    refine X.F_qreplaced.okQ sc_qreplaced (fun vs H Q E h => ?_) (fun cdv A outer s H vs Q E hr h => ?_)
    · obtain ⟨_, _, _, _, _, _, _, rfl, _⟩ := h
      rfl
    obtain ⟨t, b, r, v, x, q, a, rfl, hv, hx, ha, hput, hq, hz, k⟩ := h
    refine ⟨_, (qss_cons (qs_if (qt_cmpR (op_eqNilT hr.units) (qv 1) (qe_tup qa_nil) (nomark _)) (qss_one (qs_ret (qv 2))) qss_nil) (qss_cons (qs_set (i := 3) sc_qreplaced.nd rfl (Or.inl rfl) (qe_callTy call_list_of rfl X.z_list PyProof.Rows.boot_list (qaS (qe_ix ix_tup (qv 0) qe_int (fun _ _ => rfl)) qa_nil))) (qss_cons (qs_asg (qe_call G_qreplaced hr rfl X.m_qreplaced X.F_qreplaced.kp X.b_qreplaced .nil pass0 (qaS (qe_ix ix_list (qv 3) (qe_op op_sub (qe_ix ix_tup (qv 1) qe_int (fun _ _ => rfl)) qe_int) (fun _ _ => rfl)) (qaS (qe_slice sl_tupA (qv 1) (qo_some qe_int) qo_none) (qaN (qv 2) qa_nil)))) (qg_sub (qv 3) (qe_op op_sub (qe_ix ix_tup (qv 1) qe_int (fun _ _ => rfl)) qe_int) set_list)) (qss_one (qs_ret (qe_tup (qaS (qe_ix ix_tup (qv 0) qe_int (fun _ _ => rfl)) (qaS (qe_ix ix_tup (qv 0) qe_int (fun _ _ => rfl)) (qaK (qe_callTy call_tuple_of rfl X.z_tuple PyProof.Rows.boot_tuple (qaN (qv 3) qa_nil)) qa_nil))))))))), ?_⟩
    refine ⟨_, rfl, (by show 0 <= sizeLine; decide), fun e ne => ?_⟩
    have se := same_new ne (.tup [])
    refine ⟨a, e, _, rfl, rfl, SqT.of (se _ _ ha), SqT.of upd_same, _, rfl, iteDd (fun hn => ?_) (fun hn => ?_)⟩
    · have : q = [] := by cases q with
        | nil => rfl
        | cons _ _ => cases hn
      subst this
      cases hput
      exact ⟨_, rfl, k _ _ se (TrIs.same (sameT se) _ hx)⟩
    cases q with
    | nil => exact absurd rfl hn
    | cons k0 ks =>
    obtain ⟨k1, k2, c, c', hc, cm, hp', rfl⟩ := putT_cons hput
    generalize upd H e (.tup []) = H1 at se ⊢
    obtain ⟨p, bb, vs, rfl, hp, hb, hvs⟩ := hv.op
    have lvs := hvs.len
    have lbs := bs_len hz
    have zc := size_br cm
    refine ⟨_, rfl, p, _, 2, _, rfl, rfl, SqT.of (se _ _ hp), rfl, bb, vs, rfl, .inr (SqT.of (se _ _ hb)), fun L nL => ?_⟩
    have sL := same_new nL (.lst vs)
    have hL := upd_same (H := H1) (a := L) (o := .lst vs)
    have s2 := se.trans sL
    have L0 : H L = none := se.free nL
    generalize upd H1 L (.lst vs) = H2 at sL hL s2 ⊢
    obtain ⟨yc, hyc, cis⟩ := l2r_at hvs hc
    have hat : atI vs (k0 - 1) = some yc := by
      rw [show k0 - 1 = (((k0 - 1).toNat : Nat) : Int) by omega]
      exact atI_nat hyc
    refine ⟨_, rfl, _, rfl, a, _, 0, .int k0, rfl, rfl, SqT.of (s2 _ _ ha), atI_head _ _, _, _, rfl, rfl, L, _, _, yc, rfl, rfl, SqL.of hL, hat, _, rfl, _, rfl, a, _, rfl, s2 _ _ ha, fun a2 H3 s3 ha2 => ⟨_, rfl, ?_⟩⟩
    have e1 : (List.map V.int (k0 :: ks)).drop 1 = ks.map V.int := rfl
    rw [show (some 1 : Option Int) = some ((1 : Nat) : Int) from rfl, cut_drop', e1] at ha2
    have s23 := s2.trans s3
    refine hsp _ _ _ _ c b c' yc x ks a2 rfl (TrIs.same (sameT s23) c cis) (TrIs.same (sameT s23) b hx) ha2 hp' (by rw [List.length_cons] at hq; omega) (by omega) (fun z H4 s4 hz4 => ?_)
    have s24 := s3.trans s4
    have hL4 := s24 _ _ hL
    have ix : ixN vs.length (k0 - 1) = some (k0 - 1).toNat := by
      unfold ixN
      rw [if_pos (by omega), if_pos (by omega)]
    refine ⟨_, rfl, _, rfl, a, _, 0, .int k0, rfl, rfl, SqT.of ((s23.trans s4) _ _ ha), atI_head _ _, _, _, rfl, rfl, L, vs, _, _, rfl, rfl, hL4, ix, ?_⟩
    have tL := sameT_lst (ys := vs.set (k0 - 1).toNat z) hL4
    have hL5 := upd_same (H := H4) (a := L) (o := .lst (vs.set (k0 - 1).toNat z))
    have s5 : Same H (upd H4 L (.lst (vs.set (k0 - 1).toNat z))) := same_upd L0 (s23.trans s4)
    have hz5 := TrIs.same tL c' hz4
    generalize upd H4 L (.lst (vs.set (k0 - 1).toNat z)) = H5 at hL5 s5 hz5 ⊢
    refine ⟨_, rfl, p, _, 0, _, rfl, rfl, SqT.of (s5 _ _ hp), rfl, _, rfl, p, _, 1, _, rfl, rfl, SqT.of (s5 _ _ hp), rfl, _, rfl, L, _, rfl, .inl ⟨SqL.of hL5, fun b1 n1 => ⟨(by show 3 <= sizeLine; decide), fun b2 n2 => ?_⟩⟩⟩
    have v1 := same_new n1 (.tup (vs.set (k0 - 1).toNat z))
    have v2 := same_new n2 (.tup [.str t.nm, .int t.mk', .ref b1])
    have v12 := v1.trans v2
    exact k _ _ (s5.trans v12) (TrIs.cl upd_same (v2 _ _ upd_same) (L2R.setV (hvs.imp fun _ _ h => TrIs.same (sameT (s5.trans v12)) _ h) (TrIs.same (sameT v12) c' hz5)))
  intro n
  induction n with
  | zero => exact step 0 (fun _ _ _ _ => False) ⟨fun _ _ _ _ h => h.elim, fun _ _ _ _ _ _ _ _ _ _ _ _ _ h => h.elim⟩ (fun vs H Q E t b r v x q a _ _ _ _ _ hq => absurd hq (Nat.not_lt_zero _))
  | succ n ih => exact step (n + 1) _ ih fun vs H Q E t b r v x q a e h1 h2 h3 h4 h5 h6 h7 => ⟨t, b, r, v, x, q, a, e, h1, h2, h3, h4, by omega, h6, h7⟩
theorem ok_lack (X : Tx K mg T) : FnOk P w K mg base CX0 2 T.qlacking T.d_qlacking ["_law_grammar_here", "_law_tree", "_law_cell"] spLack := by
  have G_qnodes := ok_nodes (P := P) (w := w) (base := base) X
  refine X.F_qlacking.okQ sc_qlacking (fun vs H Q E h => ?_) (fun cdv A outer s H vs Q E hr h => ?_)
  · obtain ⟨_, _, _, _, _, rfl, _⟩ := h
    rfl
  obtain ⟨G, t, vg, v, c, rfl, hg, lG, hv, hz, q⟩ := h
  refine ⟨_, (qss_cons (qs_set (i := 3) sc_qlacking.nd rfl (Or.inl rfl) (qe_call G_qnodes hr rfl X.m_qnodes X.F_qnodes.kp X.b_qnodes .nil pass0 (qaN (qv 1) qa_nil))) (qss_cons (qs_set (i := 4) sc_qlacking.nd rfl (Or.inr rfl) (qe_ix ix_tup (qe_ix ix_tup (qe_ix ix_list (qv 3) (qe_op op_mod (qv 2) (qe_callB call_len_seq rfl X.z_len PySem.boot_len (qaN (qv 3) qa_nil))) (fun _ _ => rfl)) qe_int (fun _ _ => rfl)) qe_int (fun _ _ => rfl))) (qss_one (qs_ret (qe_tup (qaS (qe_ix ix_tup (qv 0) qe_int (fun _ _ => rfl)) (qaK (qe_callTy call_tuple_of rfl X.z_tuple PyProof.Rows.boot_tuple (qaE (qe_comp (ys := ["_law_name"]) (js := [4]) rfl rfl (qi_tup (qe_ix ix_tup (qv 0) qe_int (fun _ _ => rfl))) (fun _ _ _ _ _ => qif_one (qt_cmpR op_ne (qe_ix (ix_tupC (K := K) rfl) (qv 0) qe_int (fun _ _ => rfl)) (qv 1) (nomark _))) (fun _ _ _ _ _ => (qv 0))) qa_nil)) qa_nil))))))), ?_⟩
  refine ⟨_, rfl, t, v, rfl, hv, hz, fun D us H1 s1 hD hus => ?_⟩
  have lus := hus.len
  have ln := nds_len t (p := [])
  have sp := size_pos t
  have i0 := Int.emod_nonneg c (show (us.length : Int) ≠ 0 by omega)
  have i1 := Int.emod_lt_of_pos c (show (0 : Int) < (us.length : Int) by omega)
  obtain ⟨i, hi⟩ := Int.eq_ofNat_of_zero_le i0
  obtain ⟨y, hy⟩ := some_of_lt (xs := us) (i := i) (by omega)
  obtain ⟨⟨pp, u⟩, hnd, nis⟩ := hus.get hy
  obtain ⟨a1, b1, yu, rfl, ha1, hb1, hu⟩ := nis
  have hu : TrIs H1 u yu := hu
  obtain ⟨pu, bu, vsu, rfl, hpu, hbu, hvsu⟩ := hu.op
  obtain ⟨r, er, hat⟩ := nds_at t (List.mem_of_getElem? hnd)
  refine ⟨_, rfl, _, rfl, _, rfl, D, us, rfl, .inl (SqL.of hD), _, _, rfl, rfl, (by show (0 : Int) < (us.length : Int); omega), D, _, _, _, rfl, rfl, SqL.of hD, (by rw [hi]; exact atI_nat hy), a1, _, 1, _, rfl, rfl, SqT.of ha1, rfl, pu, _, 0, .str u.nm, rfl, rfl, SqT.of hpu, rfl, ?_⟩
  obtain ⟨g, fa, y0, fus, rfl, hg1, hfa, hfr⟩ := hg
  have lf := hfr.len
  refine ⟨_, rfl, g, _, 0, _, rfl, rfl, SqT.of (s1 _ _ hg1), rfl, _, rfl, g, _, 1, _, rfl, rfl, SqT.of (s1 _ _ hg1), rfl, fa, rfl, ⟨_, SqT.of (s1 _ _ hfa)⟩, fun D2 nD2 => ?_⟩
  refine comp_frF (K := K) (a := fa) (us := fus) (G := G) (R := FrIs) (fun _ _ _ _ e h => FrIs.same e h) (fun f => !decide (f.nm = u.nm)) (fitsL (by omega)) (s1 _ _ hfa) (hfr.imp fun _ _ h => FrIs.same (sameT s1) h) nD2 (fun f v' H2 fm hf s2 Q' k => ?_) (fun f v' H2 fm hf s2 Q' k => ⟨_, rfl, k _ _ (Same.refl _) hf⟩) (fun ys H2 s2 hD2 hys => ?_)
  · obtain ⟨p, b, rr, rfl, hp, hb⟩ := hf
    refine ⟨_, rfl, p, _, 0, _, rfl, rfl, SqT.of hp, rfl, _, rfl, rfl, _, rfl, ?_⟩
    have e : (!decide (V.str f.nm = V.str u.nm)) = (!decide (f.nm = u.nm)) := by
      congr 1
      exact decide_eq_decide.mpr ⟨V.str.inj, fun z => by rw [z]⟩
    rw [e]
    exact k _ (Same.refl _)
  · refine ⟨D2, _, rfl, .inl ⟨SqL.of hD2, fun t1 n1 => ⟨(by show 2 <= sizeLine; decide), fun t2 n2 => ?_⟩⟩⟩
    have v1 := same_new n1 (.tup ys)
    have v2 := same_new n2 (.tup [y0, .ref t1])
    exact q _ u _ _ (s1.trans (s2.trans (v1.trans v2))) hat ⟨t2, t1, y0, ys, rfl, upd_same, v2 _ _ upd_same, hys.imp fun _ _ h => FrIs.same (sameT (v1.trans v2)) h⟩
end
end K22
namespace K22
open PySem L2 TR FT
open TM 
theorem op_neDC {X : Cx} {K : PySem.W.Frag} (h : X.K = K) (hu : X.A.units + 64 < cLine) : OpR X (compareOp .NotEq) (rCmpD K not) := h ▸ op_neD hu
theorem op_eqNilTC {X : Cx} {K : PySem.W.Frag} (h : X.K = K) (hu : X.A.units + 64 < cLine) : OpR X (compareOp .Eq) (fun x y H Q => ∃ a b xs, x = .ref a /\ y = .ref b /\ SqT K H a xs /\ SqT K H b [] /\ Q (.bl (decide (xs = []))) H) := h ▸ op_eqNilT hu
theorem eqS_dec (x y : Str) : decide (V.str x = V.str y) = decide (x = y) := decide_eq_decide.mpr ⟨V.str.inj, fun z => by rw [z]⟩
theorem l2r_mem {α : Type} {R : α -> V -> Prop} {as : List α} {vs : List V} {v : V} (h : L2R R as vs) (hv : v ∈ vs) : ∃ a ∈ as, R a v := by
  obtain ⟨i, hi⟩ := List.getElem?_of_mem hv
  obtain ⟨a, ha, r⟩ := h.get hi
  exact ⟨a, List.mem_of_getElem? ha, r⟩
theorem l2r_take {α : Type} {R : α -> V -> Prop} : ∀ {as : List α} {vs : List V} (i : Nat), L2R R as vs -> L2R R (as.take i) (vs.take i)
  | _, _, i, .nil => by rw [List.take_nil, List.take_nil]; exact .nil
  | _, _, 0, .cons _ _ => .nil
  | _, _, i + 1, .cons h1 h2 => .cons h1 (l2r_take i h2)
theorem l2r_drop {α : Type} {R : α -> V -> Prop} : ∀ {as : List α} {vs : List V} (i : Nat), L2R R as vs -> L2R R (as.drop i) (vs.drop i)
  | _, _, i, .nil => by rw [List.drop_nil, List.drop_nil]; exact .nil
  | _, _, 0, .cons h1 h2 => .cons h1 h2
  | _, _, i + 1, .cons h1 h2 => l2r_drop i h2
def spFaulty : Sp := fun vs H Q _ => ∃ (G : List Fr) (t : Tr) (vg v : V) (c : Int), vs = [vg, v, .int c] /\ GIs H G vg /\ GOk G /\ (∀ f ∈ G, 1 <= f.nm.length /\ f.nm.length <= 8) /\ TrIs H t v /\ size t <= 200 /\ deep t <= 61 /\ (∀ p u, atT p t = some u -> u.nm ∈ names G) /\
  ∀ p u x f r y H', Same H H' -> atT p t = some u -> find G u.nm = some f -> Flt G c p u f x -> TrOk x -> putT p t x = some r -> TrIs H' r y -> Q y H'
section
variable {P : Program} {w : World} {K : PySem.W.Frag} {mg : Str -> Option Value} {base : Heap} {T : Adr}
theorem ok_faulty (X : Tx K mg T) : FnOk P w K mg base CX0 62 T.qfaulty T.d_qfaulty ["_law_grammar_here", "_law_tree", "_law_cell"] spFaulty := by
  have G_qnodes := (ok_nodes (P := P) (w := w) (base := base) X).mono (show 1 <= 61 by decide)
  have G_qfresh := (ok_fresh (P := P) (w := w) (base := base) X).mono (show 2 <= 61 by decide)
  have G_qreplaced := ok_repl (P := P) (w := w) (base := base) X 60
  refine X.F_qfaulty.okQ sc_qfaulty (fun vs H Q E h => ?_) (fun cdv A outer s H vs Q E hr h => ?_)
  · obtain ⟨_, _, _, _, _, rfl, _⟩ := h
    rfl
  obtain ⟨G, t, vg, v, c, rfl, hg, ok, l8, hv, hz, hdp, hnm, q⟩ := h
  refine ⟨_, (qss_cons (qs_set (i := 3) sc_qfaulty.nd rfl (Or.inl rfl) (qe_call G_qnodes hr rfl X.m_qnodes X.F_qnodes.kp X.b_qnodes .nil pass0 (qaN (qv 1) qa_nil))) (qss_cons (qs_asg (qe_ix ix_list (qv 3) (qe_op op_mod (qe_op op_fdiv (qv 2) qe_int) (qe_callB call_len_seq rfl X.z_len PySem.boot_len (qaN (qv 3) qa_nil))) (fun _ _ => rfl)) (qg_tup rfl (qgs_cons (qg_name (i := 4) sc_qfaulty.nd rfl (Or.inl rfl)) (qgs_cons (qg_name (i := 5) sc_qfaulty.nd rfl (Or.inl rfl)) qgs_nil)))) (qss_cons (qs_setC (ys := []) (js := []) rfl rfl (qi_tup (qe_ix ix_tup (qv 0) qe_int (fun _ _ => rfl))) (fun _ _ _ _ _ => qif_nil) (fun _ _ _ _ _ => (qe_ix (ix_tupC (K := K) rfl) (qv 0) qe_int (fun _ _ => rfl))) (qg_name (i := 6) sc_qfaulty.nd rfl (Or.inl rfl)) rfl) (qss_cons (qs_set (i := 7) sc_qfaulty.nd rfl (Or.inr rfl) (qe_ix ix_tup (qe_ix ix_tup (qv 0) qe_int (fun _ _ => rfl)) (qe_bmC (K := K) rfl PySem.F.plainAttrs_list PySem.F.slot_list_index PySem.F.type_list_index (mt_idxC (K := K) rfl) (qv 6) (qaS (qe_ix ix_tup (qv 5) qe_int (fun _ _ => rfl)) qa_nil)) (fun _ _ => rfl))) (qss_cons (qs_setC (ys := ["_law_form_here"]) (js := [7]) rfl rfl (qi_tup (qe_ix ix_tup (qv 0) qe_int (fun _ _ => rfl))) (fun _ _ _ _ _ => qif_one (qw_pt (qw_and (qt_cmpR op_ne (qe_ix (ix_tupC (K := K) rfl) (qv 0) qe_int (fun _ _ => rfl)) (qe_ix (ix_tupC (K := K) rfl) (qv 1) qe_int (fun _ _ => rfl)) (nomark _)) (qw_and1 (qt_cmpR (op_eqNilTC (K := K) rfl hr.units) (qe_ix (ix_tupC (K := K) rfl) (qv 0) qe_int (fun _ _ => rfl)) (qe_tup qa_nil) (nomark _)))))) (fun _ _ _ _ _ => (qv 0)) (qg_name (i := 8) sc_qfaulty.nd rfl (Or.inl rfl)) rfl) (qss_cons (qs_setC (ys := ["_law_form_here"]) (js := [7]) rfl rfl (qi_tup (qe_ix ix_tup (qv 0) qe_int (fun _ _ => rfl))) (fun _ _ _ _ _ => qif_one (qt_cmpR (op_neDC (K := K) rfl hr.units) (qe_ix (ix_tupC (K := K) rfl) (qv 0) qe_int (fun _ _ => rfl)) (qe_ix (ix_tupC (K := K) rfl) (qv 1) qe_int (fun _ _ => rfl)) (nomark _))) (fun _ _ _ _ _ => (qv 0)) (qg_name (i := 9) sc_qfaulty.nd rfl (Or.inl rfl)) rfl) (qss_cons (qs_set (i := 10) sc_qfaulty.nd rfl (Or.inl rfl) (qe_ix ix_tup (qv 5) qe_int (fun _ _ => rfl))) (qss_cons (qs_if (qw_pt (qw_and (qt_cmpR op_eq (qe_op op_mod (qv 2) qe_int) qe_int (nomark _)) (qw_and1 (qt_cmpR op_gt (qe_callB call_len_seq rfl X.z_len PySem.boot_len (qaN (qv 10) qa_nil)) qe_int (nomark _))))) (qss_cons (qs_set (i := 11) sc_qfaulty.nd rfl (Or.inl rfl) (qe_op op_mod (qe_op op_fdiv (qv 2) qe_int) (qe_callB call_len_seq rfl X.z_len PySem.boot_len (qaN (qv 10) qa_nil)))) (qss_one (qs_set (i := 10) sc_qfaulty.nd rfl (Or.inl rfl) (qe_op op_catA (qe_slice sl_tupA (qv 10) qo_none (qo_some (qv 11))) (qe_slice sl_tupA (qv 10) (qo_some (qe_op op_add (qv 11) qe_int)) qo_none))))) (qss_one (qs_if (qw_pt (qw_and (qt_cmpR op_eq (qe_op op_mod (qv 2) qe_int) qe_int (nomark _)) (qw_and (qt_cmpR (op_neNilT hr.units) (qv 4) (qe_tup qa_nil) (nomark _)) (qw_and1 (qt_cmpR (op_neNil hr.units) (qv 8) (qe_lst qa_nil) (nomark _)))))) (qss_one (qs_ret (qe_call G_qreplaced hr rfl X.m_qreplaced X.F_qreplaced.kp X.b_qreplaced .nil pass0 (qaN (qv 1) (qaN (qv 4) (qaT (qe_tup (qaS (qe_ix ix_tup (qe_ix ix_list (qv 8) (qe_op op_mod (qe_op op_fdiv (qv 2) qe_int) (qe_callB call_len_seq rfl X.z_len PySem.boot_len (qaN (qv 8) qa_nil))) (fun _ _ => rfl)) qe_int (fun _ _ => rfl)) (qaC qe_int (qaT (qe_tup qa_nil) qa_nil)))) qa_nil)))))) (qss_one (qs_if (qw_pt (qw_and (qt_cmpR op_eq (qe_op op_mod (qv 2) qe_int) qe_int (nomark _)) (qw_and1 (qt_cmpR (op_neNil hr.units) (qv 9) (qe_lst qa_nil) (nomark _))))) (qss_one (qs_ret (qe_call G_qreplaced hr rfl X.m_qreplaced X.F_qreplaced.kp X.b_qreplaced .nil pass0 (qaN (qv 1) (qaN (qv 4) (qaT (qe_tup (qaS (qe_ix ix_tup (qe_ix ix_list (qv 9) (qe_op op_mod (qe_op op_fdiv (qv 2) qe_int) (qe_callB call_len_seq rfl X.z_len PySem.boot_len (qaN (qv 9) qa_nil))) (fun _ _ => rfl)) qe_int (fun _ _ => rfl)) (qaS (qe_ix ix_tup (qv 5) qe_int (fun _ _ => rfl)) (qaN (qv 10) qa_nil)))) qa_nil)))))) (qss_one (qs_if (qt_cmpR op_eq (qe_op op_mod (qv 2) qe_int) qe_int (nomark _)) (qss_cons (qs_set (i := 11) sc_qfaulty.nd rfl (Or.inl rfl) (qe_op op_mod (qe_op op_fdiv (qv 2) qe_int) (qe_op op_add (qe_callB call_len_seq rfl X.z_len PySem.boot_len (qaN (qv 10) qa_nil)) qe_int))) (qss_one (qs_set (i := 10) sc_qfaulty.nd rfl (Or.inl rfl) (qe_op op_catA (qe_op op_catA (qe_slice sl_tupA (qv 10) qo_none (qo_some (qv 11))) (qe_tup (qaT (qe_tup (qaS (qe_ix ix_list (qv 6) qe_int (fun _ _ => rfl)) (qaC qe_int (qaT (qe_tup qa_nil) qa_nil)))) qa_nil))) (qe_slice sl_tupA (qv 10) (qo_some (qv 11)) qo_none))))) (qss_one (qs_ret (qe_call G_qreplaced hr rfl X.m_qreplaced X.F_qreplaced.kp X.b_qreplaced .nil pass0 (qaN (qv 1) (qaN (qv 4) (qaT (qe_tup (qaK (qe_call G_qfresh hr rfl X.m_qfresh X.F_qfresh.kp X.b_qfresh .nil pass0 (qaN (qv 6) (qaS (qe_ix ix_tup (qv 5) qe_int (fun _ _ => rfl)) (qaB (qe_op op_fdiv (qv 2) qe_int) qa_nil)))) (qaS (qe_ix ix_tup (qv 5) qe_int (fun _ _ => rfl)) (qaN (qv 10) qa_nil)))) qa_nil))))))))))))) (qss_one (qs_ret (qe_call G_qreplaced hr rfl X.m_qreplaced X.F_qreplaced.kp X.b_qreplaced .nil pass0 (qaN (qv 1) (qaN (qv 4) (qaT (qe_tup (qaS (qe_ix ix_tup (qv 5) qe_int (fun _ _ => rfl)) (qaS (qe_ix ix_tup (qv 5) qe_int (fun _ _ => rfl)) (qaN (qv 10) qa_nil)))) qa_nil)))))))))))))), ?_⟩
  refine ⟨_, rfl, t, v, rfl, hv, hz, fun D us H1 s1 hD hus => ?_⟩
  have lus := hus.len
  have ln := nds_len t (p := [])
  have spz := size_pos t
  have i0 := Int.emod_nonneg (c / 5) (show (us.length : Int) ≠ 0 by omega)
  have i1 := Int.emod_lt_of_pos (c / 5) (show (0 : Int) < (us.length : Int) by omega)
  obtain ⟨i, hi⟩ := Int.eq_ofNat_of_zero_le i0
  obtain ⟨y, hy⟩ := some_of_lt (xs := us) (i := i) (by omega)
  obtain ⟨⟨pp, u⟩, hnd, nis⟩ := hus.get hy
  obtain ⟨a1, b1, yu, rfl, ha1, hb1, hu⟩ := nis
  have hu : TrIs H1 u yu := hu
  have hb1 : H1 b1 = some (.tup (pp.map V.int)) := hb1
  obtain ⟨pu, bu, vsu, rfl, hpu, hbu, hvsu⟩ := hu.op
  obtain ⟨r, er, hat⟩ := nds_at t (List.mem_of_getElem? hnd)
  rw [List.nil_append] at er
  subst er
  have szu := atT_size hat
  have dpu := atT_deep hat
  have du1 := deep_eq u
  have lbu := bs_len (t := u) (k := 200) (by omega)
  have lvu := hvsu.len
  have unm := hnm _ _ hat
  obtain ⟨f, hf⟩ := find_some unm
  obtain ⟨fm, fn⟩ := find_mem hf
  have tok : TrOk t := fun p w hw => by
    obtain ⟨f', hf'⟩ := find_some (hnm p w hw)
    obtain ⟨m1, m2⟩ := find_mem hf'
    rw [<- m2]
    exact ok.nm f' m1
  have shu : Sh u.nm := tok _ _ hat
  have brok : ∀ (j : Nat) b, u.bs[j]? = some b -> TrOk b := fun j b hb => by
    intro p' w' hw'
    refine tok (pp ++ (((j : Int) + 1) :: p')) w' ?_
    rw [atT_app, hat]
    show atT (((j : Int) + 1) :: p') u = some w'
    unfold atT
    rw [if_pos (by omega), show ((j : Int) + 1 - 1).toNat = j by omega, hb]
    exact hw'
  have fin : ∀ (x : Tr) (v' : V) (H' : Hp), Same H1 H' -> TrIs H' x v' -> TrOk x -> Flt G c pp u f x -> spRepl 60 [v, .ref b1, v'] H' Q E0 := fun x v' H' sm hx xok flt => by
    obtain ⟨r, hr⟩ := putT_some (b := x) hat
    exact ⟨t, x, r, v, v', pp, b1, rfl, TrIs.same (sameT (s1.trans sm)) t hv, hx, sm _ _ hb1, hr, by omega, by omega, fun y' H2 s2 hy' => q pp u x f r y' H2 (s1.trans (sm.trans s2)) hat hf flt xok hr hy'⟩
  refine ⟨_, rfl, _, rfl, _, _, rfl, rfl, ⟨by decide, by decide⟩, _, rfl, D, us, rfl, .inl (SqL.of hD), _, _, rfl, rfl, (by show (0 : Int) < (us.length : Int); omega), D, _, _, _, rfl, rfl, SqL.of hD, (by rw [hi]; exact atI_nat hy), a1, _, rfl, SqT.of ha1, rfl, _, _, rfl, _, _, rfl, rfl, ?_⟩
  obtain ⟨g, fa, y0, fus, rfl, hg1, hfa, hfr⟩ := hg
  have lf := hfr.len
  have lG := ok.len
  have hg1' := s1 _ _ hg1
  have hfa' := s1 _ _ hfa
  have hfr1 := hfr.imp fun _ _ h => FrIs.same (sameT s1) h
  refine ⟨_, rfl, g, _, 1, _, rfl, rfl, SqT.of hg1', rfl, fa, rfl, ⟨_, SqT.of hfa'⟩, fun N nN => ?_⟩
  refine comp_tupM (K := K) (xs := fus) (ys := (names G).map V.str) (fitsL (by omega)) (by rw [List.length_map, List.length_map]; omega) (SqT.of hfa') nN (fun j x y' H2 hx hy' s2 Q' k => ?_) (fun H2 s2 hN => ?_)
  · obtain ⟨f', hf', p, b, rr, rfl, hp, hb⟩ := hfr1.get hx
    rw [List.getElem?_map, List.getElem?_map, hf'] at hy'
    cases hy'
    exact ⟨_, rfl, p, _, 0, _, rfl, rfl, SqT.of (s2 _ _ hp), rfl, k _ (Same.refl _)⟩
  obtain ⟨jf, hjf⟩ := List.getElem?_of_mem fm
  obtain ⟨vf, hvf, fis⟩ := l2r_at hfr1 hjf
  obtain ⟨fp, fb, frr, rfl, hfp, hfb⟩ := fis
  refine ⟨_, rfl, g, _, 1, _, rfl, rfl, SqT.of (s2 _ _ hg1'), rfl, _, rfl, .inl ⟨rfl, _, SqL.of hN⟩, _, rfl, pu, _, 0, .str u.nm, rfl, rfl, SqT.of (s2 _ _ hpu), rfl, N, names G, u.nm, jf, rfl, rfl, SqL.of hN, by rw [List.getElem?_map, hjf, <- fn]; rfl, fun m' y' hlt hy' he => ?_, fa, _, _, _, rfl, rfl, SqT.of (s2 _ _ hfa'), atI_nat hvf, ?_⟩
  · have : m' = jf := nd_ix ok.nd (by rw [hy', he]) (show (names G)[jf]? = some u.nm by rw [List.getElem?_map, hjf, <- fn]; rfl)
    omega
  have hfr2 := hfr1.imp fun _ _ h => FrIs.same (sameT s2) h
  refine ⟨_, rfl, g, _, 1, _, rfl, rfl, SqT.of (s2 _ _ hg1'), rfl, fa, rfl, ⟨_, SqT.of (s2 _ _ hfa')⟩, fun O nO => ?_⟩
  refine comp_frF (K := K) (a := fa) (us := fus) (G := G) (R := FrIs) (fun _ _ _ _ e h => FrIs.same e h) (fun f' => !decide (f'.sg = f.sg) && decide (f'.br = [])) (fitsL (by omega)) (s2 _ _ hfa') hfr2 nO (fun f' v' H3 fm' hf' s3 Q' k => ?_) (fun f' v' H3 fm' hf' s3 Q' k => ⟨_, rfl, k _ _ (Same.refl _) hf'⟩) (fun os H3 s3 hO hos => ?_)
  · obtain ⟨p, b, rr, rfl, hp, hb⟩ := hf'
    refine ⟨_, rfl, p, _, 1, _, rfl, rfl, SqT.of hp, rfl, _, rfl, fp, _, 1, _, rfl, rfl, SqT.of ((s2.trans s3) _ _ hfp), rfl, rfl, _, rfl, ?_⟩
    rw [eqS_dec]
    refine iteNe (fun h1 => ?_) (fun h1 => ?_)
    · refine ⟨_, rfl, p, _, 2, _, rfl, rfl, SqT.of hp, rfl, (by show 0 <= sizeLine; decide), fun e ne => ?_⟩
      have se := same_new ne (.tup [])
      refine ⟨b, e, _, rfl, rfl, SqT.of (se _ _ hb), SqT.of upd_same, _, rfl, ?_⟩
      have ee : decide (f'.br.map V.str = []) = decide (f'.br = []) := decide_eq_decide.mpr List.map_eq_nil_iff
      rw [ee]
      rw [decide_eq_false h1] at k
      exact k _ se
    · rw [decide_eq_true h1] at k
      exact k _ (Same.refl _)
  have s13 := s2.trans s3
  have hfr3 := hfr2.imp fun _ _ h => FrIs.same (sameT s3) h
  refine ⟨_, rfl, g, _, 1, _, rfl, rfl, SqT.of (s13 _ _ hg1'), rfl, fa, rfl, ⟨_, SqT.of (s13 _ _ hfa')⟩, fun U nU => ?_⟩
  refine comp_frF (K := K) (a := fa) (us := fus) (G := G) (R := FrIs) (fun _ _ _ _ e h => FrIs.same e h) (fun f' => !decide (f'.br = f.br)) (fitsL (by omega)) (s13 _ _ hfa') hfr3 nU (fun f' v' H4 fm' hf' s4 Q' k => ?_) (fun f' v' H4 fm' hf' s4 Q' k => ⟨_, rfl, k _ _ (Same.refl _) hf'⟩) (fun ws H4 s4 hU hws => ?_)
  · obtain ⟨p, b, rr, rfl, hp, hb⟩ := hf'
    refine ⟨_, rfl, p, _, 2, _, rfl, rfl, SqT.of hp, rfl, _, rfl, fp, _, 2, _, rfl, rfl, SqT.of ((s13.trans s4) _ _ hfp), rfl, b, fb, _, _, _, _, rfl, rfl, .inl ⟨SqT.of hb, SqT.of ((s13.trans s4) _ _ hfb)⟩, isds_strs _, isds_strs _, by rw [dep_strs]; decide, _, rfl, ?_⟩
    rw [eq_strs]
    exact k _ (Same.refl _)
  have s14 := s13.trans s4
  have hO4 := s4 _ _ hO
  have hos4 := hos.imp fun _ _ h => FrIs.same (sameT s4) h
  have hN4 := (s3.trans s4) _ _ hN
  have hpu4 := s14 _ _ hpu
  have hbu4 := s14 _ _ hbu
  have hb14 := s14 _ _ hb1
  have hvsu4 := hvsu.imp fun _ _ h => TrIs.same (sameT s14) _ h
  have los := hos.len
  have lws := hws.len
  have lof : (G.filter fun f' => !decide (f'.sg = f.sg) && decide (f'.br = [])).length <= 10 := Nat.le_trans (List.length_filter_le _ _) lG
  have lwf : (G.filter fun f' => !decide (f'.br = f.br)).length <= 10 := Nat.le_trans (List.length_filter_le _ _) lG
  refine ⟨_, rfl, pu, _, 2, _, rfl, rfl, SqT.of hpu4, rfl, ?_⟩
  have c0 := Int.emod_nonneg c (show (5 : Int) ≠ 0 by decide)
  have c1 := Int.emod_lt_of_pos c (show (0 : Int) < 5 by decide)
  have same : ∀ (bs : List Tr) (vs' : List V) (b3 : Addr) (H' : Hp) (t1 : Addr) (n : Str), Same H4 H' -> H' b3 = some (.tup vs') -> L2R (TrIs H') bs vs' -> H' t1 = none -> TrIs (upd H' t1 (.tup [.str n, .int u.mk', .ref b3])) (.node n u.mk' bs) (.ref t1) := fun bs vs' b3 H' t1 n sm hb3 hl n1 => by
    have v1 := same_new n1 (.tup [.str n, .int u.mk', .ref b3])
    exact TrIs.cl upd_same (v1 _ _ hb3) (hl.imp fun _ _ h => TrIs.same (sameT v1) _ h)
  dsimp only [gName]
  refine seq_ifS_by (fun H2 => H2 = H4 /\ c % 5 = 1 /\ 0 < u.bs.length) (fun H2 => H2 = H4 /\ ¬ (c % 5 = 1 /\ 0 < u.bs.length)) (fun Q' qT qF => ?_) (fun H5 ⟨e5, h5, h5'⟩ => ?_) (fun H5 ⟨e5, h5⟩ => ?_)
  · refine ⟨_, rfl, _, _, rfl, rfl, (by show (0 : Int) < 5; decide), rfl, _, rfl, iteDd (fun h => ?_) (fun h => qF _ ⟨rfl, fun z => h (congrArg V.int z.1)⟩)⟩
    have h : c % 5 = 1 := V.int.inj h
    refine ⟨_, rfl, bu, vsu, rfl, .inr (SqT.of hbu4), _, _, rfl, rfl, _, rfl, ?_⟩
    by_cases h2 : (0 : Int) < (vsu.length : Int)
    · rw [decide_eq_true h2]
      exact qT _ ⟨rfl, h, by omega⟩
    · rw [decide_eq_false h2]
      exact qF _ ⟨rfl, fun z => h2 (by omega)⟩
  · subst e5
    have m0 := Int.emod_nonneg (c / 5) (show (vsu.length : Int) ≠ 0 by omega)
    have m1 := Int.emod_lt_of_pos (c / 5) (show (0 : Int) < (vsu.length : Int) by omega)
    obtain ⟨k, hk⟩ := Int.eq_ofNat_of_zero_le m0
    have hkl : k < u.bs.length := by omega
    refine ⟨_, rfl, _, _, rfl, rfl, ⟨by decide, by decide⟩, _, rfl, bu, vsu, rfl, .inr (SqT.of hbu4), _, _, rfl, rfl, (by show (0 : Int) < (vsu.length : Int); omega), ?_⟩
    dsimp only [gName]
    rw [hk]
    refine ⟨_, rfl, _, rfl, _, rfl, bu, _, rfl, hbu4, fun q1 H6 s6 hq1 => ⟨_, rfl, _, rfl, _, _, rfl, rfl, _, rfl, bu, _, rfl, s6 _ _ hbu4, fun q2 H7 s7 hq2 => ?_⟩⟩
    rw [cut_take'] at hq1
    rw [show ((k : Int) + 1) = ((k + 1 : Nat) : Int) by omega, cut_drop'] at hq2
    refine ⟨q1, q2, _, _, rfl, rfl, s7 _ _ hq1, hq2, fits2 (by rw [List.length_take, List.length_drop]; omega), fun q3 H8 s8 hq3 => ?_⟩
    have s48 := s6.trans (s7.trans s8)
    refine ⟨_, rfl, _, rfl, _, rfl, pu, _, 0, _, rfl, rfl, SqT.of (s48 _ _ hpu4), rfl, _, rfl, pu, _, 1, _, rfl, rfl, SqT.of (s48 _ _ hpu4), rfl, _, rfl, (by show 3 <= sizeLine; decide), fun t1 n1 => ?_⟩
    have eb : u.bs.eraseIdx k = u.bs.take k ++ u.bs.drop (k + 1) := List.eraseIdx_eq_take_drop_succ u.bs k
    have hvs8 := hvsu4.imp fun _ _ h => TrIs.same (sameT s48) _ h
    refine fin (.node u.nm u.mk' (u.bs.eraseIdx k)) _ _ (s14.trans (s48.trans (same_new n1 _))) (same _ _ q3 H8 t1 u.nm s48 hq3 (by rw [eb]; exact (l2r_take k hvs8).app (l2r_drop (k + 1) hvs8)) n1) (TrOk.node shu fun j b hb => ?_) (.less k h5 hkl)
    obtain ⟨j', hj'⟩ := List.getElem?_of_mem (List.mem_of_mem_eraseIdx (List.mem_of_getElem? hb))
    exact brok j' b hj'
  subst e5
  refine ifS_by (fun H2 => Same H5 H2 /\ c % 5 = 2 /\ pp ≠ [] /\ os ≠ []) (fun H2 => Same H5 H2) (fun Q' qT qF => ?_) (fun H6 ⟨s6, h6, h6', h6''⟩ => ?_) (fun H6 s6 => ?_)
  · refine ⟨_, rfl, _, _, rfl, rfl, (by show (0 : Int) < 5; decide), rfl, _, rfl, iteDd (fun h => ?_) (fun h => qF _ (Same.refl _))⟩
    have h : c % 5 = 2 := V.int.inj h
    refine ⟨_, rfl, (by show 0 <= sizeLine; decide), fun e ne => ?_⟩
    have se := same_new ne (.tup [])
    refine ⟨b1, e, _, rfl, rfl, SqT.of (se _ _ hb14), SqT.of upd_same, _, rfl, iteNe (fun h2 => ?_) (fun h2 => qF _ se)⟩
    refine ⟨_, rfl, (by show 0 <= sizeLine; decide), fun e2 ne2 => ?_⟩
    have se2 := same_new ne2 (.lst [])
    refine ⟨O, e2, os, rfl, rfl, SqL.of ((se.trans se2) _ _ hO4), SqL.of upd_same, _, rfl, ?_⟩
    by_cases h3 : os = []
    · rw [decide_eq_true h3]
      exact qF _ (se.trans se2)
    · rw [decide_eq_false h3]
      exact qT _ ⟨se.trans se2, h, fun z => h2 (by rw [z]; rfl), h3⟩
  · have lo : 0 < os.length := List.length_pos_iff.mpr h6''
    have m0 := Int.emod_nonneg (c / 5) (show (os.length : Int) ≠ 0 by omega)
    have m1 := Int.emod_lt_of_pos (c / 5) (show (0 : Int) < (os.length : Int) by omega)
    obtain ⟨k, hk⟩ := Int.eq_ofNat_of_zero_le m0
    obtain ⟨vo, hvo⟩ := some_of_lt (xs := os) (i := k) (by omega)
    obtain ⟨o, om, po, ob, orr, rfl, hpo, hob⟩ := l2r_mem hos4 (List.mem_of_getElem? hvo)
    obtain ⟨oG, opr⟩ := List.mem_filter.mp om
    have opr : ¬ o.sg = f.sg /\ o.br = [] := by simpa using opr
    refine ⟨_, rfl, _, rfl, _, rfl, _, rfl, _, _, rfl, rfl, ⟨by decide, by decide⟩, _, rfl, O, os, rfl, .inl (SqL.of (s6 _ _ hO4)), _, _, rfl, rfl, (by show (0 : Int) < (os.length : Int); omega), O, _, _, _, rfl, rfl, SqL.of (s6 _ _ hO4), (by rw [hk]; exact atI_nat hvo), po, _, 0, _, rfl, rfl, SqT.of (s6 _ _ hpo), rfl, (by show 0 <= sizeLine; decide), fun e1 n1 => ⟨(by show 3 <= sizeLine; decide), fun t1 n2 => ?_⟩⟩
    have v1 := same_new n1 (.tup [])
    have v2 := same_new n2 (.tup [.str o.nm, .int 0, .ref e1])
    exact fin (.node o.nm 0 []) _ _ (s14.trans (s6.trans (v1.trans v2))) (TrIs.cl upd_same (v2 _ _ upd_same) .nil) (TrOk.node (ok.nm o oG) fun j b hb => by simp at hb) (.other o h6 h6' oG opr.1 opr.2)
  have hU6 := s6 _ _ hU
  refine ifS_by (fun H2 => Same H6 H2 /\ c % 5 = 3 /\ ws ≠ []) (fun H2 => Same H6 H2) (fun Q' qT qF => ?_) (fun H7 ⟨s7, h7, h7'⟩ => ?_) (fun H7 s7 => ?_)
  · refine ⟨_, rfl, _, _, rfl, rfl, (by show (0 : Int) < 5; decide), rfl, _, rfl, iteDd (fun h => ?_) (fun h => qF _ (Same.refl _))⟩
    have h : c % 5 = 3 := V.int.inj h
    refine ⟨_, rfl, (by show 0 <= sizeLine; decide), fun e2 ne2 => ?_⟩
    have se2 := same_new ne2 (.lst [])
    refine ⟨U, e2, ws, rfl, rfl, SqL.of (se2 _ _ hU6), SqL.of upd_same, _, rfl, ?_⟩
    by_cases h3 : ws = []
    · rw [decide_eq_true h3]
      exact qF _ se2
    · rw [decide_eq_false h3]
      exact qT _ ⟨se2, h, h3⟩
  · have lo : 0 < ws.length := List.length_pos_iff.mpr h7'
    have m0 := Int.emod_nonneg (c / 5) (show (ws.length : Int) ≠ 0 by omega)
    have m1 := Int.emod_lt_of_pos (c / 5) (show (0 : Int) < (ws.length : Int) by omega)
    obtain ⟨k, hk⟩ := Int.eq_ofNat_of_zero_le m0
    obtain ⟨vo, hvo⟩ := some_of_lt (xs := ws) (i := k) (by omega)
    obtain ⟨o, om, po, ob, orr, rfl, hpo, hob⟩ := l2r_mem hws (List.mem_of_getElem? hvo)
    obtain ⟨oG, opr⟩ := List.mem_filter.mp om
    have opr : ¬ o.br = f.br := by simpa using opr
    have s67 := s6.trans s7
    refine ⟨_, rfl, _, rfl, _, rfl, _, rfl, _, _, rfl, rfl, ⟨by decide, by decide⟩, _, rfl, U, ws, rfl, .inl (SqL.of (s7 _ _ hU6)), _, _, rfl, rfl, (by show (0 : Int) < (ws.length : Int); omega), U, _, _, _, rfl, rfl, SqL.of (s7 _ _ hU6), (by rw [hk]; exact atI_nat hvo), po, _, 0, _, rfl, rfl, SqT.of (s67 _ _ hpo), rfl, _, rfl, pu, _, 1, _, rfl, rfl, SqT.of (s67 _ _ hpu4), rfl, _, rfl, (by show 3 <= sizeLine; decide), fun t1 n1 => ?_⟩
    exact fin (.node o.nm u.mk' u.bs) _ _ (s14.trans (s67.trans (same_new n1 _))) (same _ _ bu _ t1 o.nm s67 (s67 _ _ hbu4) (hvsu4.imp fun _ _ h => TrIs.same (sameT s67) _ h) n1) (TrOk.node (ok.nm o oG) brok) (.unlike o h7 oG opr)
  have s47 := s6.trans s7
  have hN7 := s47 _ _ hN4
  have hpu7 := s47 _ _ hpu4
  have hbu7 := s47 _ _ hbu4
  have hvs7 := hvsu4.imp fun _ _ h => TrIs.same (sameT s47) _ h
  refine ifS_by (fun H2 => H2 = H7 /\ c % 5 = 4) (fun H2 => H2 = H7) (fun Q' qT qF => ?_) (fun H8 ⟨e8, h8⟩ => ?_) (fun H8 e8 => ?_)
  · refine ⟨_, rfl, _, _, rfl, rfl, (by show (0 : Int) < 5; decide), rfl, _, rfl, ?_⟩
    by_cases h : V.int (c % 5) = V.int 4
    · rw [decide_eq_true h]
      exact qT _ ⟨rfl, V.int.inj h⟩
    · rw [decide_eq_false h]
      exact qF _ rfl
  · subst e8
    have m0 := Int.emod_nonneg (c / 5) (show ((vsu.length : Int) + 1) ≠ 0 by omega)
    have m1 := Int.emod_lt_of_pos (c / 5) (show (0 : Int) < (vsu.length : Int) + 1 by omega)
    obtain ⟨k, hk⟩ := Int.eq_ofNat_of_zero_le m0
    have hkl : k <= u.bs.length := by omega
    obtain ⟨g0, gm0, hn0⟩ : ∃ g0, g0 ∈ G /\ atI ((names G).map V.str) 0 = some (.str g0.nm) := by
      cases hG : G with
      | nil => rw [hG] at fm; cases fm
      | cons g0 G' => exact ⟨g0, List.mem_cons_self, atI_head _ _⟩
    refine ⟨_, rfl, _, _, rfl, rfl, ⟨by decide, by decide⟩, _, rfl, bu, vsu, rfl, .inr (SqT.of hbu7), _, _, rfl, rfl, _, _, rfl, rfl, (by show (0 : Int) < (vsu.length : Int) + 1; omega), ?_⟩
    dsimp only [gName]
    rw [hk]
    refine ⟨_, rfl, _, rfl, _, rfl, bu, _, rfl, hbu7, fun q1 J1 j1 hq1 => ⟨_, rfl, N, _, 0, _, rfl, rfl, SqL.of (j1 _ _ hN7), hn0, (by show 0 <= sizeLine; decide), fun e1 n1 => ⟨(by show 3 <= sizeLine; decide), fun t1 n2 => ⟨(by show 1 <= sizeLine; decide), fun t2 n3 => ?_⟩⟩⟩⟩
    rw [cut_take'] at hq1
    have v1 := same_new n1 (.tup [])
    have v2 := same_new n2 (.tup [.str g0.nm, .int 0, .ref e1])
    have v3 := same_new n3 (.tup [.ref t1])
    have leaf : TrIs (upd (upd (upd J1 e1 (.tup [])) t1 (.tup [.str g0.nm, .int 0, .ref e1])) t2 (.tup [.ref t1])) (.node g0.nm 0 []) (.ref t1) := TrIs.cl (v3 _ _ upd_same) ((v2.trans v3) _ _ upd_same) .nil
    have v13 := v1.trans (v2.trans v3)
    have ht2 := upd_same (H := upd (upd J1 e1 (.tup [])) t1 (.tup [.str g0.nm, .int 0, .ref e1])) (a := t2) (o := .tup [.ref t1])
    generalize upd (upd (upd J1 e1 (.tup [])) t1 (.tup [.str g0.nm, .int 0, .ref e1])) t2 (.tup [.ref t1]) = J2 at leaf v13 ht2 ⊢
    refine ⟨q1, t2, _, _, rfl, rfl, v13 _ _ hq1, ht2, fits2 (by rw [List.length_take, List.length_singleton]; omega), fun q2 J3 j3 hq2 => ⟨_, rfl, _, rfl, _, rfl, bu, _, rfl, (j1.trans (v13.trans j3)) _ _ hbu7, fun q3 J4 j4 hq3 => ?_⟩⟩
    rw [cut_drop'] at hq3
    refine ⟨q2, q3, _, _, rfl, rfl, j4 _ _ hq2, hq3, fits2 (by rw [List.length_append, List.length_take, List.length_drop, List.length_singleton]; omega), fun q4 J5 j5 hq4 => ?_⟩
    have jA := j1.trans (v13.trans (j3.trans (j4.trans j5)))
    refine ⟨_, rfl, _, rfl, _, rfl, pu, _, 0, _, rfl, rfl, SqT.of (jA _ _ hpu7), rfl, _, rfl, pu, _, 1, _, rfl, rfl, SqT.of (jA _ _ hpu7), rfl, _, rfl, (by show 3 <= sizeLine; decide), fun t5 n5 => ?_⟩
    have hvsA := hvs7.imp fun _ _ h => TrIs.same (sameT jA) _ h
    refine fin (.node u.nm u.mk' (u.bs.take k ++ [.node g0.nm 0 []] ++ u.bs.drop k)) _ _ (s14.trans (s47.trans (jA.trans (same_new n5 _)))) (same _ _ q4 J5 t5 u.nm (s47.trans jA) hq4 (((l2r_take k hvsA).app (.cons (TrIs.same (sameT (j3.trans (j4.trans j5))) _ leaf) .nil)).app (l2r_drop k hvsA)) n5) (TrOk.node shu fun j b hb => ?_) (.more k g0.nm hkl (List.mem_map.mpr ⟨g0, gm0, rfl⟩))
    have hm := List.mem_of_getElem? hb
    rcases List.mem_append.mp hm with hm | hm
    · rcases List.mem_append.mp hm with hm | hm
      · obtain ⟨j', hj'⟩ := List.getElem?_of_mem (List.mem_of_mem_take hm)
        exact brok j' b hj'
      · rw [List.mem_singleton.mp hm]
        exact TrOk.node (ok.nm g0 gm0) fun j b hb => by simp at hb
    · obtain ⟨j', hj'⟩ := List.getElem?_of_mem (List.mem_of_mem_drop hm)
      exact brok j' b hj'
  · subst e8
    have l18 := l8 f fm
    rw [fn] at l18
    refine ⟨_, rfl, _, rfl, _, rfl, _, rfl, pu, _, 0, _, rfl, rfl, SqT.of hpu7, rfl, _, rfl, _, _, rfl, rfl, ⟨by decide, by decide⟩, N, names G, u.nm, _, rfl, hN7, by rw [List.length_map]; omega, l18.1, l18.2, shu.2, fun z J1 j1 hzn n8 => ?_⟩
    refine ⟨_, rfl, pu, _, 1, _, rfl, rfl, SqT.of (j1 _ _ hpu7), rfl, _, rfl, (by show 3 <= sizeLine; decide), fun t5 n5 => ?_⟩
    exact fin (.node z u.mk' u.bs) _ _ (s14.trans (s47.trans (j1.trans (same_new n5 _)))) (same _ _ bu _ t5 z (s47.trans j1) (j1 _ _ hbu7) (hvs7.imp fun _ _ h => TrIs.same (sameT j1) _ h) n5) (TrOk.node ⟨by have := n8.1; omega, n8.2⟩ brok) (.name z hzn)
end
end K22
namespace K22
open PySem L2 TR FT
open TM 
theorem boot_VE : bootBuiltins "ValueError" = some (.type "ValueError") := by decide +kernel
theorem call_isxC {X : Cx} {K : PySem.W.Frag} (h : X.K = K) : CallR X (.builtin "isinstance") (fun xs H Q => ∃ (a C : Addr) (v : V) (b : Bool), xs = [.ref a, v] /\ H a = some (excO a C) /\ XCls K C /\
    ((∃ D, v = .ref D /\ PySem.W.kitOne K (.ref C) (.ref D) = some b) \/ (∃ T, v = .ty T /\ PySem.W.kitOne K (.ref C) (.type T) = some b) \/ (∃ (p : Addr) (ds : List Addr), v = .ref p /\ H p = some (.tup (ds.map V.ref)) /\ PySem.W.kitAny K (.ref C) (ds.map Value.ref) = some b)) /\ Q (.bl b) H) := h ▸ call_isx
theorem k_ss {K : PySem.W.Frag} : PySem.W.kitOne K (.type "str") (.type "str") = some true := by with_unfolding_all rfl
theorem isdsB4 {K : PySem.W.Frag} {H : Hp} {a b c d : Bool} : Isds K H [.fl (.bl a), .fl (.bl b), .fl (.bl c), .fl (.bl d)] [.bl a, .bl b, .bl c, .bl d] := isds_cons (by unfold Isd; exact ⟨rfl, rfl⟩) (isds_cons (by unfold Isd; exact ⟨rfl, rfl⟩) (isds_cons (by unfold Isd; exact ⟨rfl, rfl⟩) (isds_cons (by unfold Isd; exact ⟨rfl, rfl⟩) isds_nil)))
def spRefd : Sp := fun vs H Q _ => ∃ (G : List Fr) (t : Tr) (vg v : V) (gr : Bool), vs = [vg, v, .bl gr] /\ GIs H G vg /\ GOk G /\ TrIs H t v /\ TrOk t /\ deep t <= 71 /\ size t <= 1000 /\ ((gr = true /\ ¬ Small t) \/ (gr = false /\ Small t /\ fit G t = none)) /\ ∀ H', Same H H' -> Q (.bl true) H'
def spSgn : Sp := fun vs H Q _ => ∃ (G : List Fr) (t : Tr) (vg v : V) (s : Str), vs = [vg, v] /\ GIs H G vg /\ GOk G /\ TrIs H t v /\ Small t /\ fit G t = some s /\ ∀ H', Same H H' -> Q (.bl true) H'
section
variable {P : Program} {w : World} {K : PySem.W.Frag} {mg : Str -> Option Value} {base : Heap} {T : Adr}
theorem ok_refd (X : Tx K mg T) : FnOk P w K mg base CX0 74 T.qrefused T.d_qrefused ["_law_grammar_here", "_law_tree", "_law_great"] spRefd := by
  have G_qsignof := ok_signof (P := P) (w := w) (base := base) X
  refine X.F_qrefused.okQ sc_qrefused (fun vs H Q E h => ?_) (fun cdv A outer s H vs Q E hr h => ?_)
  · obtain ⟨_, _, _, _, _, rfl, _⟩ := h
    rfl
  obtain ⟨G, t, vg, v, gr, rfl, hg, ok, hv, tok, hdp, hz, hor, q⟩ := h
  refine ⟨_, (qss_cons (qs_set (i := 3) sc_qrefused.nd rfl (Or.inl rfl) (qe_lst qa_nil)) (qss_cons (qs_try (i := 4) G_qsignof hr rfl X.m_qsignof X.F_qsignof.kp X.b_qsignof (qaN (qv 0) (qaN (qv 1) qa_nil)) rfl X.m_LeafError X.e_LeafError sc_qrefused.nd rfl rfl rfl rfl rfl (fun _ => (qss_cons (qs_set (i := 3) sc_qrefused.nd rfl (Or.inl rfl) (qe_lst (qaK (qe_callB (call_isxC (K := K) rfl) rfl X.z_isinstance PyProof.Rows.boot_isinstance (qaN (qv 4) (qaN (qe_glob rfl X.m_NoTree (v := V.ref T.k_NoTree) rfl) qa_nil))) (qaK (qe_callB (call_isxC (K := K) rfl) rfl X.z_isinstance PyProof.Rows.boot_isinstance (qaN (qv 4) (qaN (qe_glob rfl X.m_TooGreat (v := V.ref T.k_TooGreat) rfl) qa_nil))) (qaK (qe_callB (call_isxC (K := K) rfl) rfl X.z_isinstance PyProof.Rows.boot_isinstance (qaN (qv 4) (qaN (qe_bltn rfl X.z_ValueError boot_VE rfl (v := .ty "ValueError")) qa_nil))) qa_nil))))) (qss_one (qs_expr (qe_bmC (K := K) rfl PySem.F.plainAttrs_list PySem.F.slot_list_append PySem.F.type_list_append mt_append (qv 3) (qaK (qe_callB (call_isxC (K := K) rfl) rfl X.z_isinstance PyProof.Rows.boot_isinstance (qaN (qv 4) (qaT (qe_tup (qaN (qe_glob rfl X.m_NoText (v := V.ref T.k_NoText) rfl) (qaN (qe_glob rfl X.m_NoName (v := V.ref T.k_NoName) rfl) (qaN (qe_glob rfl X.m_NoRule (v := V.ref T.k_NoRule) rfl) (qaN (qe_glob rfl X.m_NoKind (v := V.ref T.k_NoKind) rfl) (qaN (qe_glob rfl X.m_NoPlace (v := V.ref T.k_NoPlace) rfl) (qaN (qe_glob rfl X.m_NoGiven (v := V.ref T.k_NoGiven) rfl) (qaN (qe_glob rfl X.m_NoWalk (v := V.ref T.k_NoWalk) rfl) (qaN (qe_glob rfl X.m_Ring (v := V.ref T.k_Ring) rfl) qa_nil))))))))) qa_nil))) qa_nil))))))) (qss_one (qs_ret (qe_cmpR (op_eqD hr.units) (qv 3) (qe_lst (qaU (qe_not (qv 2)) (qaN (qv 2) (qaC qe_bl (qaC qe_bl qa_nil))))) (nomark _)))))), ?_⟩
  refine ⟨(by show 0 <= sizeLine; decide), fun o1 ho1 => ?_⟩
  have s1 := same_new ho1 (.lst [])
  generalize upd H o1 (.lst []) = H1 at s1 ⊢
  refine ⟨_, rfl, _, rfl, G, t, vg, v, rfl, hg.same (sameT s1), ok, TrIs.same (sameT s1) t hv, tok, hdp, hz, fun hgr H2 s2 => ?_, fun hsm s' hs' H2 s2 => ?_, fun hsm hn H2 s2 => ?_⟩
  · rcases hor with ⟨rfl, _⟩ | ⟨_, h2, _⟩
    · refine ⟨T.k_TooGreat, rfl, X.e_TooGreat, X.u_TooGreat_LeafError, fun ex hex => ?_⟩
      have E1 := same_new hex (excO ex T.k_TooGreat)
      refine ⟨_, rfl, ex, T.k_TooGreat, _, _, rfl, upd_same, X.x_TooGreat, .inl ⟨_, rfl, X.i_TooGreat_0⟩, ?_⟩
      refine ⟨_, rfl, ex, T.k_TooGreat, _, _, rfl, upd_same, X.x_TooGreat, .inl ⟨_, rfl, X.i_TooGreat_1⟩, ?_⟩
      refine ⟨_, rfl, ex, T.k_TooGreat, _, _, rfl, upd_same, X.x_TooGreat, .inr (.inl ⟨_, rfl, X.i_TooGreat_2⟩), (by show 3 <= sizeLine; decide), fun p1 hp1 => ?_⟩
      have E2 := same_new hp1 (.lst [.bl false, .bl true, .bl true])
      have hp1' := upd_same (H := upd H2 ex (excO ex T.k_TooGreat)) (a := p1) (o := .lst [.bl false, .bl true, .bl true])
      have hex' := E2 _ _ (upd_same (H := H2) (a := ex) (o := excO ex T.k_TooGreat))
      have np1 : H p1 = none := (s1.trans (s2.trans E1)).free hp1
      refine ⟨_, rfl, .inl ⟨rfl, _, SqL.of hp1'⟩, _, rfl, (by show 8 <= sizeLine; decide), fun tp htp => ?_⟩
      have E3 := same_new htp (.tup ([T.k_NoText, T.k_NoName, T.k_NoRule, T.k_NoKind, T.k_NoPlace, T.k_NoGiven, T.k_NoWalk, T.k_Ring].map V.ref))
      refine ⟨ex, T.k_TooGreat, _, _, rfl, E3 _ _ hex', X.x_TooGreat, .inr (.inr ⟨tp, [T.k_NoText, T.k_NoName, T.k_NoRule, T.k_NoKind, T.k_NoPlace, T.k_NoGiven, T.k_NoWalk, T.k_Ring], rfl, upd_same, X.i_TooGreat_3⟩), p1, _, _, rfl, rfl, E3 _ _ hp1', (by show 3 < sizeLine; decide), ?_⟩
      refine ⟨_, rfl, _, rfl, _, rfl, _, rfl, (by show 4 <= sizeLine; decide), fun r1 hr1 => ?_⟩
      have E5 := same_new hr1 (.lst [.bl false, .bl true, .bl true, .bl false])
      refine ⟨p1, r1, [.bl false, .bl true, .bl true, .bl false], [.bl false, .bl true, .bl true, .bl false], [.fl (.bl false), .fl (.bl true), .fl (.bl true), .fl (.bl false)], [.fl (.bl false), .fl (.bl true), .fl (.bl true), .fl (.bl false)], rfl, rfl, .inr ⟨SqL.of (E5 _ _ upd_same), SqL.of upd_same⟩, isdsB4, isdsB4, by decide, ?_⟩
      exact q _ ((same_upd np1 (s1.trans (s2.trans (E1.trans (E2.trans E3))))).trans E5)
    · exact absurd h2 hgr
  · exfalso
    rcases hor with ⟨_, h2⟩ | ⟨_, _, h2⟩
    · exact h2 hsm
    · rw [h2] at hs'; cases hs'
  · rcases hor with ⟨_, h2⟩ | ⟨rfl, _, _⟩
    · exact absurd hsm h2
    · refine ⟨T.k_NoTree, rfl, X.e_NoTree, X.u_NoTree_LeafError, fun ex hex => ?_⟩
      have E1 := same_new hex (excO ex T.k_NoTree)
      refine ⟨_, rfl, ex, T.k_NoTree, _, _, rfl, upd_same, X.x_NoTree, .inl ⟨_, rfl, X.i_NoTree_0⟩, ?_⟩
      refine ⟨_, rfl, ex, T.k_NoTree, _, _, rfl, upd_same, X.x_NoTree, .inl ⟨_, rfl, X.i_NoTree_1⟩, ?_⟩
      refine ⟨_, rfl, ex, T.k_NoTree, _, _, rfl, upd_same, X.x_NoTree, .inr (.inl ⟨_, rfl, X.i_NoTree_2⟩), (by show 3 <= sizeLine; decide), fun p1 hp1 => ?_⟩
      have E2 := same_new hp1 (.lst [.bl true, .bl false, .bl true])
      have hp1' := upd_same (H := upd H2 ex (excO ex T.k_NoTree)) (a := p1) (o := .lst [.bl true, .bl false, .bl true])
      have hex' := E2 _ _ (upd_same (H := H2) (a := ex) (o := excO ex T.k_NoTree))
      have np1 : H p1 = none := (s1.trans (s2.trans E1)).free hp1
      refine ⟨_, rfl, .inl ⟨rfl, _, SqL.of hp1'⟩, _, rfl, (by show 8 <= sizeLine; decide), fun tp htp => ?_⟩
      have E3 := same_new htp (.tup ([T.k_NoText, T.k_NoName, T.k_NoRule, T.k_NoKind, T.k_NoPlace, T.k_NoGiven, T.k_NoWalk, T.k_Ring].map V.ref))
      refine ⟨ex, T.k_NoTree, _, _, rfl, E3 _ _ hex', X.x_NoTree, .inr (.inr ⟨tp, [T.k_NoText, T.k_NoName, T.k_NoRule, T.k_NoKind, T.k_NoPlace, T.k_NoGiven, T.k_NoWalk, T.k_Ring], rfl, upd_same, X.i_NoTree_3⟩), p1, _, _, rfl, rfl, E3 _ _ hp1', (by show 3 < sizeLine; decide), ?_⟩
      refine ⟨_, rfl, _, rfl, _, rfl, _, rfl, (by show 4 <= sizeLine; decide), fun r1 hr1 => ?_⟩
      have E5 := same_new hr1 (.lst [.bl true, .bl false, .bl true, .bl false])
      refine ⟨p1, r1, [.bl true, .bl false, .bl true, .bl false], [.bl true, .bl false, .bl true, .bl false], [.fl (.bl true), .fl (.bl false), .fl (.bl true), .fl (.bl false)], [.fl (.bl true), .fl (.bl false), .fl (.bl true), .fl (.bl false)], rfl, rfl, .inr ⟨SqL.of (E5 _ _ upd_same), SqL.of upd_same⟩, isdsB4, isdsB4, by decide, ?_⟩
      exact q _ ((same_upd np1 (s1.trans (s2.trans (E1.trans (E2.trans E3))))).trans E5)
theorem ok_sgn (X : Tx K mg T) : FnOk P w K mg base CX0 74 T.qsign T.d_qsign ["_law_grammar_here", "_law_tree"] spSgn := by
  have G_qsignof := ok_signof (P := P) (w := w) (base := base) X
  refine X.F_qsign.okQ sc_qsign (fun vs H Q E h => ?_) (fun cdv A outer s H vs Q E hr h => ?_)
  · obtain ⟨_, _, _, _, _, rfl, _⟩ := h
    rfl
  obtain ⟨G, t, vg, v, sg, rfl, hg, ok, hv, sm, hft, q⟩ := h
  refine ⟨_, (qss_cons (qs_set (i := 2) sc_qsign.nd rfl (Or.inl rfl) (qe_ix ix_list (qe_comp (ys := ["_law_tree"]) (js := [1]) rfl rfl (qi_tup (qe_ix ix_tup (qv 0) qe_int (fun _ _ => rfl))) (fun _ _ _ _ _ => qif_one (qt_cmpR op_eq (qe_ix (ix_tupC (K := K) rfl) (qv 0) qe_int (fun _ _ => rfl)) (qe_ix (ix_tupC (K := K) rfl) (qv 1) qe_int (fun _ _ => rfl)) (nomark _))) (fun _ _ _ _ _ => (qe_ix (ix_tupC (K := K) rfl) (qv 0) qe_int (fun _ _ => rfl)))) qe_int (fun _ _ => rfl))) (qss_cons (qs_set (i := 3) sc_qsign.nd rfl (Or.inl rfl) (qe_call G_qsignof hr rfl X.m_qsignof X.F_qsignof.kp X.b_qsignof .nil passE0 (qaN (qv 0) (qaN (qv 1) qa_nil)))) (qss_one (qs_ret (qe_and (qe_callB call_isinst rfl X.z_isinstance PyProof.Rows.boot_isinstance (qaN (qv 3) (qaN (qe_bltn rfl X.z_str PyProof.Rows.boot_str rfl (v := .ty "str")) qa_nil))) (qe_one (qe_cmpR op_eq (qv 3) (qv 2) (nomark _)))))))), ?_⟩
  have hg0 := hg
  obtain ⟨g, fa, y0, fus, rfl, hg1, hfa, hfr⟩ := hg
  have lf := hfr.len
  have lG := ok.len
  obtain ⟨f, hf, hfb, fsg⟩ := fit_some hft
  obtain ⟨fm, fn⟩ := find_mem hf
  obtain ⟨p, b, vs, rfl, hp, hb, hvs⟩ := hv.op
  refine ⟨_, rfl, g, _, 1, _, rfl, rfl, SqT.of hg1, rfl, fa, rfl, ⟨_, SqT.of hfa⟩, fun D nD => ?_⟩
  refine comp_frF (K := K) (a := fa) (us := fus) (G := G) (R := fun _ f v => v = .str f.sg) (fun _ _ _ _ _ h => h) (fun f' => decide (f'.nm = t.nm)) (fitsL (by omega)) hfa hfr nD (fun f' v' H2 fm' hf' s2 Q' k => ?_) (fun f' v' H2 fm' hf' s2 Q' k => ?_) (fun ys H2 s2 hD2 hys => ?_)
  · obtain ⟨p', b', rr, rfl, hp', hb'⟩ := hf'
    refine ⟨_, rfl, p', _, 0, _, rfl, rfl, SqT.of hp', rfl, _, rfl, p, _, 0, _, rfl, rfl, SqT.of (s2 _ _ hp), rfl, rfl, _, rfl, ?_⟩
    have e : decide (V.str f'.nm = V.str t.nm) = decide (f'.nm = t.nm) := decide_eq_decide.mpr ⟨V.str.inj, fun z => by rw [z]⟩
    rw [e]
    exact k _ (Same.refl _)
  · obtain ⟨p', b', rr, rfl, hp', hb'⟩ := hf'
    exact ⟨_, rfl, p', _, 1, _, rfl, rfl, SqT.of hp', rfl, k _ _ (Same.refl _) rfl⟩
  have hfil : ∀ f' ∈ G.filter (fun f' => decide (f'.nm = t.nm)), f'.sg = sg := fun f' hm => by
    obtain ⟨m1, m2⟩ := List.mem_filter.mp hm
    have m2 : f'.nm = t.nm := by simpa using m2
    have := find_of ok.nd m1
    rw [m2, hf] at this
    cases this
    exact fsg
  have hne : f ∈ G.filter (fun f' => decide (f'.nm = t.nm)) := List.mem_filter.mpr ⟨fm, by simpa using fn⟩
  obtain ⟨y1, hy1⟩ : ∃ y1, ys[0]? = some y1 := by
    refine some_of_lt ?_
    rw [hys.len]
    exact List.length_pos_of_mem hne
  obtain ⟨f1, hf1, rfl⟩ := hys.get hy1
  have e1 := hfil f1 (List.mem_of_getElem? hf1)
  refine ⟨D, _, 0, _, rfl, rfl, SqL.of hD2, atI_nat hy1, ?_⟩
  refine ⟨_, rfl, _, rfl, G, t, _, _, rfl, hg0.same (sameT s2), ok, TrIs.same (sameT s2) t hv, fit_ok ok hft, by have := sm.2; omega, by have := sm.1; omega, fun h => absurd sm h, fun _ s' hs' H3 s3 => ?_, fun _ hn => by rw [hft] at hn; cases hn⟩
  rw [hft] at hs'
  cases hs'
  refine ⟨_, rfl, _, _, _, _, rfl, .str _, k_ss, _, rfl, iteT ⟨_, rfl, _, rfl, rfl, ?_⟩⟩
  rw [show decide (V.str sg = V.str f1.sg) = true from decide_eq_true (by rw [e1])]
  exact q _ (s2.trans s3)
end
end K22
namespace K22
open PySem L2 TR FT
open TM 
theorem seq_ifS_2 {c : TT} {t u rest : TS} {D : Ends} {σ : St} {H : Hp} {A B : Prop} (R : St -> Prop) (hrest : ∀ σ', R σ' -> rest D σ' H) (hc : ∀ Q : Bool -> Hp -> Prop, (A -> Q true H) -> (B -> Q false H) -> c σ H Q) (h1 : A -> ∀ D' : Ends, (∀ σ', R σ' -> D'.nx σ' H) -> t D' σ H) (h2 : B -> ∀ D' : Ends, (∀ σ', R σ' -> D'.nx σ' H) -> u D' σ H) : tSeq (tIfS c t u) rest D σ H :=
  hc _ (fun a => iteT (h1 a _ hrest)) (fun b => iteF (h2 b _ hrest))
def Bas (G : List Fr) (s : Str) : Prop := ∃ f0 r, (G.filter fun f => decide (f.sg = s)) = f0 :: r /\ f0.br = []
structure Grw (G : List Fr) : Prop where
  nd : (names G).Nodup
  len : G.length <= 10
  br : ∀ f ∈ G, f.br.length <= 3 /\ ∀ b ∈ f.br, Bas G b
def spGrown (n : Nat) : Sp := fun vs H Q _ => ∃ (G : List Fr) (vg : V) (sg : Str) (d rm : Addr) (L room : Nat) (cs : List Int), vs = [vg, .str sg, .ref d, .ref rm, .int (L : Int)] /\ GIs H G vg /\ Grw G /\ Bas G sg /\ L + n = 16 /\ room <= 100 /\ d ≠ rm /\ H d = some (.lst (cs.map V.int)) /\ H rm = some (.lst [.int (room : Int)]) /\ room + 1 <= cs.length /\
  ∀ t v (cs' : List Int) (room' : Nat) H', Kp [d, rm] H H' -> TrIs H' t v -> fit G t = some sg -> size t + room' = room + 1 -> deep t <= n + 1 -> H' d = some (.lst (cs'.map V.int)) -> cs'.length + size t = cs.length -> H' rm = some (.lst [.int (room' : Int)]) -> Q v H'
section
variable {P : Program} {w : World} {K : PySem.W.Frag} {mg : Str -> Option Value} {base : Heap} {T : Adr}
theorem ok_grown (X : Tx K mg T) : ∀ n : Nat, FnOk P w K mg base CX0 (n + 1) T.qgrown T.d_qgrown ["_law_grammar_here", "_law_sign_here", "_law_deck_here", "_law_room", "_law_level"] (spGrown n) := by
  have step : ∀ (n : Nat) (sp : Sp), FnOk P w K mg base CX0 n T.qgrown T.d_qgrown ["_law_grammar_here", "_law_sign_here", "_law_deck_here", "_law_room", "_law_level"] sp -> (∀ (G : List Fr) (vg : V) (sg : Str) (d rm : Addr) (L room : Nat) (cs : List Int) (H : Hp) (Q : VK) (E : XK), GIs H G vg -> Grw G -> Bas G sg -> L + n = 17 -> L ≠ 17 -> room <= 100 -> d ≠ rm -> H d = some (.lst (cs.map V.int)) -> H rm = some (.lst [.int (room : Int)]) -> room + 1 <= cs.length ->
      (∀ t v (cs' : List Int) (room' : Nat) H', Kp [d, rm] H H' -> TrIs H' t v -> fit G t = some sg -> size t + room' = room + 1 -> deep t <= n -> H' d = some (.lst (cs'.map V.int)) -> cs'.length + size t = cs.length -> H' rm = some (.lst [.int (room' : Int)]) -> Q v H') -> sp [vg, .str sg, .ref d, .ref rm, .int (L : Int)] H Q E) -> FnOk P w K mg base CX0 (n + 1) T.qgrown T.d_qgrown ["_law_grammar_here", "_law_sign_here", "_law_deck_here", "_law_room", "_law_level"] (spGrown n) := by
    intro n sp G_qgrown hsp
    refine X.F_qgrown.okQ sc_qgrown (fun vs H Q E h => ?_) (fun cdv A outer s H vs Q E hr h => ?_)
    · obtain ⟨_, _, _, _, _, _, _, _, rfl, _⟩ := h
      rfl
    obtain ⟨G, vg, sg, d, rm, L, room, cs, rfl, hg, gw, bas, hL, r100, ndr, hd, hrm, hroom, q⟩ := h
    refine ⟨_, (qss_cons (qs_setC (ys := ["_law_sign_here"]) (js := [1]) rfl rfl (qi_tup (qe_ix ix_tup (qv 0) qe_int (fun _ _ => rfl))) (fun _ _ _ _ _ => qif_one (qt_cmpR op_eq (qe_ix (ix_tupC (K := K) rfl) (qv 0) qe_int (fun _ _ => rfl)) (qv 1) (nomark _))) (fun _ _ _ _ _ => (qv 0)) (qg_name (i := 5) sc_qgrown.nd rfl (Or.inl rfl)) rfl) (qss_cons (qs_set (i := 6) sc_qgrown.nd rfl (Or.inl rfl) (qe_bm0 PySem.F.plainAttrs_list PySem.F.slot_list_pop PySem.F.type_list_pop mt_pop (qv 2))) (qss_cons (qs_set (i := 7) sc_qgrown.nd rfl (Or.inl rfl) (qe_ix ix_list (qv 5) (qe_op op_mod (qv 6) (qe_callB call_len_seq rfl X.z_len PySem.boot_len (qaN (qv 5) qa_nil))) (fun _ _ => rfl))) (qss_cons (qs_if (qw_pt (qw_or (qt_cmpR op_gt (qe_callB call_len_seq rfl X.z_len PySem.boot_len (qaS (qe_ix ix_tup (qv 7) qe_int (fun _ _ => rfl)) qa_nil)) (qe_ix ix_list (qv 3) qe_int (fun _ _ => rfl)) (nomark _)) (qw_or1 (qt_cmpR op_eq (qv 4) qe_int (nomark _))))) (qss_one (qs_set (i := 7) sc_qgrown.nd rfl (Or.inl rfl) (qe_ix ix_list (qv 5) qe_int (fun _ _ => rfl)))) qss_nil) (qss_cons (qs_asg (qe_op op_sub (qe_ix ix_list (qv 3) qe_int (fun _ _ => rfl)) (qe_callB call_len_seq rfl X.z_len PySem.boot_len (qaS (qe_ix ix_tup (qv 7) qe_int (fun _ _ => rfl)) qa_nil))) (qg_sub (qv 3) qe_int set_list)) (qss_cons (qs_set (i := 8) sc_qgrown.nd rfl (Or.inl rfl) (qe_ix ix_list (qe_lst (qaC qe_int (qaN (qv 6) qa_nil))) (qe_op op_mod (qe_op op_fdiv (qv 6) qe_int) qe_int) (fun _ _ => rfl))) (qss_one (qs_ret (qe_tup (qaS (qe_ix ix_tup (qv 7) qe_int (fun _ _ => rfl)) (qaN (qv 8) (qaK (qe_callTy call_tuple_of rfl X.z_tuple PyProof.Rows.boot_tuple (qaE (qe_comp (ys := ["_law_grammar_here", "_law_deck_here", "_law_room", "_law_level"]) (js := [0, 2, 3, 4]) rfl rfl (qi_tup (qe_ix ix_tup (qv 7) qe_int (fun _ _ => rfl))) (fun _ _ _ _ _ => qif_nil) (fun _ _ _ _ _ => (qe_call G_qgrown hr rfl X.m_qgrown X.F_qgrown.kp X.b_qgrown .nil pass0 (qaN (qv 1) (qaN (qv 0) (qaN (qv 2) (qaN (qv 3) (qaB (qe_op op_add (qv 4) qe_int) qa_nil)))))))) qa_nil)) qa_nil)))))))))))), ?_⟩
    have hg0 := hg
    obtain ⟨g, fa, y0, fus, rfl, hg1, hfa, hfr⟩ := hg
    have lf := hfr.len
    have lG := gw.len
    obtain ⟨f0, frest, hfil, hb0⟩ := bas
    refine ⟨_, rfl, g, _, 1, _, rfl, rfl, SqT.of hg1, rfl, fa, rfl, ⟨_, SqT.of hfa⟩, fun S nS => ?_⟩
    refine comp_frF (K := K) (a := fa) (us := fus) (G := G) (R := FrIs) (fun _ _ _ _ e h => FrIs.same e h) (fun f => decide (f.sg = sg)) (fitsL (by omega)) hfa hfr nS (fun f' v' H2 fm' hf' s2 Q' k => ?_) (fun f' v' H2 fm' hf' s2 Q' k => ⟨_, rfl, k _ _ (Same.refl _) hf'⟩) (fun os H1 s1 hS hos => ?_)
    · obtain ⟨p, b, rr, rfl, hp, hb⟩ := hf'
      refine ⟨_, rfl, p, _, 1, _, rfl, rfl, SqT.of hp, rfl, _, rfl, rfl, _, rfl, ?_⟩
      have e : decide (V.str f'.sg = V.str sg) = decide (f'.sg = sg) := decide_eq_decide.mpr ⟨V.str.inj, fun z => by rw [z]⟩
      rw [e]
      exact k _ (Same.refl _)
    have los := hos.len
    rw [hfil, List.length_cons] at los
    obtain ⟨cs1, c, rfl⟩ := snoc_of (l := cs) (by omega)
    rw [List.length_append, List.length_singleton] at hroom q
    have hd1 : H1 d = some (.lst (cs1.map V.int ++ [.int c])) := by rw [s1 _ _ hd, List.map_append]; rfl
    refine ⟨_, rfl, .inl ⟨rfl, _, SqL.of hd1⟩, d, _, .int c, rfl, rfl, hd1, by simp, ?_⟩
    dsimp only
    rw [List.dropLast_concat]
    have nSd : S ≠ d := ne_of_none' hd nS
    have nSr : S ≠ rm := ne_of_none' hrm nS
    have k2 : Kp [d, rm] H (upd H1 d (.lst (cs1.map V.int))) := (Kp.of s1).upd (by simp)
    have T2 : SameT H1 (upd H1 d (.lst (cs1.map V.int))) := sameT_lst hd1
    have hd2 := upd_same (H := H1) (a := d) (o := .lst (cs1.map V.int))
    have hS2 : upd H1 d (.lst (cs1.map V.int)) S = some (.lst os) := by rw [upd_ne nSd]; exact hS
    have hr2 : upd H1 d (.lst (cs1.map V.int)) rm = some (.lst [.int (room : Int)]) := by rw [upd_ne ndr.symm]; exact s1 _ _ hrm
    have hos2 := hos.imp fun _ _ h => FrIs.same T2 h
    have hg2 := hg0.same ((sameT s1).trans T2)
    generalize upd H1 d (.lst (cs1.map V.int)) = H2 at k2 hd2 hS2 hr2 hos2 hg2 ⊢
    have m0 := Int.emod_nonneg c (show (os.length : Int) ≠ 0 by omega)
    have m1 := Int.emod_lt_of_pos c (show (0 : Int) < (os.length : Int) by omega)
    obtain ⟨k, hk⟩ := Int.eq_ofNat_of_zero_le m0
    obtain ⟨vf, hvf⟩ := some_of_lt (xs := os) (i := k) (by omega)
    obtain ⟨f, hff, fp, fb, frr, rfl, hfp, hfb⟩ := hos2.get hvf
    have fmem := List.mem_filter.mp (List.mem_of_getElem? hff)
    have fsg : f.sg = sg := by simpa using fmem.2
    have f0mem := List.mem_filter.mp (show f0 ∈ G.filter fun f => decide (f.sg = sg) by rw [hfil]; exact List.mem_cons_self)
    have f0sg : f0.sg = sg := by simpa using f0mem.2
    obtain ⟨v0, hv0, fp0, fb0, frr0, rfl, hfp0, hfb0⟩ := l2r_at hos2 (show (G.filter fun f => decide (f.sg = sg))[0]? = some f0 by rw [hfil]; rfl)
    refine ⟨_, rfl, _, rfl, _, rfl, S, os, rfl, .inl (SqL.of hS2), _, _, rfl, rfl, (by show (0 : Int) < (os.length : Int); omega), S, _, _, _, rfl, rfl, SqL.of hS2, (by rw [hk]; exact atI_nat hvf), ?_⟩
    dsimp only [gName]
    refine seq_ifS_2 (A := room < f.br.length \/ L = 16) (B := f.br.length <= room /\ L ≠ 16) (fun σ' => ∃ (f : Fr) (fp fb : Addr) (rr : V), σ' = [some (.ref g), some (.str sg), some (.ref d), some (.ref rm), some (.int (L : Int)), some (.ref S), some (.int c), some (.ref fp), none] /\ f ∈ G /\ f.sg = sg /\ H2 fp = some (.tup [.str f.nm, .str f.sg, .ref fb, rr]) /\ H2 fb = some (.tup (f.br.map V.str)) /\ f.br.length <= room /\ (f.br = [] \/ L ≠ 16)) ?_ (fun Q' qT qF => ?_) (fun _ D' hn => ?_) (fun hB D' hn => hn _ ⟨f, fp, fb, frr, rfl, fmem.1, fsg, hfp, hfb, hB.1, .inr hB.2⟩)
    · rintro σ' ⟨f, fp, fb, rr, rfl, fm, fsg, hfp, hfb, flen, fl16⟩
      have fbr := gw.br f fm
      have ix0 : ixN 1 0 = some 0 := rfl
      refine ⟨_, rfl, rm, _, 0, .int (room : Int), rfl, rfl, SqL.of hr2, rfl, _, rfl, fp, _, 2, _, rfl, rfl, SqT.of hfp, rfl, fb, _, rfl, .inr (SqT.of hfb), _, _, rfl, rfl, _, rfl, rm, _, 0, 0, rfl, rfl, hr2, ix0, ?_⟩
      dsimp only
      rw [List.length_map, show (room : Int) - (f.br.length : Int) = ((room - f.br.length : Nat) : Int) by omega]
      have e1 : ([V.int (room : Int)] : List V).set 0 (.int ((room - f.br.length : Nat) : Int)) = [.int ((room - f.br.length : Nat) : Int)] := rfl
      rw [e1]
      have k3 : Kp [d, rm] H (upd H2 rm (.lst [.int ((room - f.br.length : Nat) : Int)])) := k2.upd (by simp)
      have T3 : SameT H2 (upd H2 rm (.lst [.int ((room - f.br.length : Nat) : Int)])) := sameT_lst hr2
      have hr3 := upd_same (H := H2) (a := rm) (o := .lst [.int ((room - f.br.length : Nat) : Int)])
      have hd3 : upd H2 rm (.lst [.int ((room - f.br.length : Nat) : Int)]) d = some (.lst (cs1.map V.int)) := by rw [upd_ne ndr]; exact hd2
      have hfp3 := T3 _ _ hfp
      have hfb3 := T3 _ _ hfb
      have hg3 := hg2.same T3
      generalize upd H2 rm (.lst [.int ((room - f.br.length : Nat) : Int)]) = H3 at k3 hr3 hd3 hfp3 hfb3 hg3 ⊢
      refine ⟨_, rfl, (by show 2 <= sizeLine; decide), fun l1 n1 => ?_⟩
      have t1 := same_new n1 (.lst [.int 0, .int c])
      obtain ⟨mk, hmk⟩ : ∃ mk : Int, atI [V.int 0, V.int c] (c / 7 % 2) = some (.int mk) := by
        have : c / 7 % 2 = 0 \/ c / 7 % 2 = 1 := by omega
        rcases this with e | e <;> rw [e] <;> exact ⟨_, rfl⟩
      refine ⟨_, rfl, _, _, rfl, rfl, ⟨by decide, by decide⟩, _, _, rfl, rfl, (by show (0 : Int) < 2; decide), l1, _, _, .int mk, rfl, rfl, SqL.of upd_same, hmk, ?_⟩
      have k4 := k3.same t1
      have hr4 := t1 _ _ hr3
      have hd4 := t1 _ _ hd3
      have hfp4 := t1 _ _ hfp3
      have hfb4 := t1 _ _ hfb3
      have hg4 := hg3.same (sameT t1)
      generalize upd H3 l1 (.lst [.int 0, .int c]) = H4 at k4 hr4 hd4 hfp4 hfb4 hg4 ⊢
      refine ⟨_, rfl, fp, _, 0, _, rfl, rfl, SqT.of hfp4, rfl, _, rfl, _, rfl, fp, _, 2, _, rfl, rfl, SqT.of hfp4, rfl, fb, rfl, ⟨_, SqT.of hfb4⟩, fun D nD => ?_⟩
      have nDd : D ≠ d := ne_of_none' hd4 nD
      have nDr : D ≠ rm := ne_of_none' hr4 nD
      have D0 : H D = none := k4.free nD (by simp; exact ⟨nDd, nDr⟩)
      have TT : ∀ {H' : Hp}, Kp [d, rm, D] H4 H' -> SameT H4 H' := fun {H'} kp b xs e => kp b _ (by
        simp
        exact ⟨ne_of e hd4 (fun z => nomatch z), ne_of e hr4 (fun z => nomatch z), ne_of_none e nD⟩) e
      refine comp_tpl (K := K) (a := fb) (xs := f.br.map V.str) (fun i acc H' => i <= f.br.length /\ Kp [d, rm, D] H4 H' /\ H' D = some (.lst acc) /\ ∃ (ts : List Tr) (cs' : List Int) (r' : Nat), ts.length = i /\ L2R (TrIs H') ts acc /\ fits G ts = some (f.br.take i) /\ deeps ts <= n /\ H' d = some (.lst (cs'.map V.int)) /\ cs'.length + sizes ts = cs1.length /\ H' rm = some (.lst [.int (r' : Int)]) /\ sizes ts + r' = room - f.br.length + i) (fitsL (by rw [List.length_map]; omega))
        ⟨Nat.zero_le _, (Kp.refl _ _).upd (by simp), upd_same, [], cs1, room - f.br.length, rfl, .nil, by rw [List.take_zero, fits], by rw [deeps]; exact Nat.zero_le _, by rw [upd_ne nDd.symm]; exact hd4, by rw [sizes]; rfl, by rw [upd_ne nDr.symm]; exact hr4, by rw [sizes]; omega⟩ (fun i acc H' ⟨li, kp, hD, ts, _, _, l, r, _⟩ => ⟨hD, by rw [r.len, l], SqT.of (TT kp _ _ hfb4)⟩) (fun i m x acc H' hx ⟨li, kp, hD, ts, cs', r', lt, hts, hfits, hdp, hd', lc, hr', lr⟩ hm => ?_) (fun acc H' ⟨li, kp, hD, ts, cs', r', lt, hts, hfits, hdp, hd', lc, hr', lr⟩ => ?_)
      · rw [List.getElem?_map] at hx
        cases eb : f.br[i]? with
        | none => rw [eb] at hx; cases hx
        | some b =>
          rw [eb] at hx
          cases hx
          have bm := List.mem_of_getElem? eb
          have hib := lt_of_some eb
          have l16 : L ≠ 16 := by
            rcases fl16 with z | z
            · rw [z] at bm; cases bm
            · exact z
          refine ⟨_, rfl, _, rfl, _, rfl, _, rfl, _, rfl, _, _, rfl, rfl, ?_⟩
          show sp [_, _, _, _, V.int ((L : Int) + 1)] H' _ _
          rw [show (L : Int) + 1 = ((L + 1 : Nat) : Int) by omega]
          refine hsp G _ b d rm (L + 1) r' cs' H' _ _ (hg4.same (TT kp)) gw (fbr.2 b bm) (by omega) (by omega) (by omega) ndr hd' hr' (by omega) fun t v cs2 r2 H5 kp5 ht hft hsz hdp5 hd5 lc5 hr5 => ?_
          have T5 : SameT H' H5 := kp5.T fun x hx => by
            have hx : x = d \/ x = rm := by simpa using hx
            rcases hx with rfl | rfl
            · exact ⟨_, hd'⟩
            · exact ⟨_, hr'⟩
          have hD5 := kp5 _ _ (by simp; exact ⟨nDd, nDr⟩) hD
          have tD := sameT_lst (ys := acc ++ [v]) hD5
          have es : sizes (ts ++ [t]) = sizes ts + size t := by rw [sizes_app, sizes, sizes]; omega
          have ed : deeps (ts ++ [t]) = max (deeps ts) (deep t) := by rw [deeps_app, deeps, deeps]; omega
          refine cstep (n := (f.br.map V.str).length) (i := i) (by rw [List.length_map]; exact hib) hm hD5 ⟨by omega, (kp.trans (kp5.mono (by simp))).upd (by simp), upd_same, ts ++ [t], cs2, r2, by rw [List.length_append, lt]; rfl, (hts.imp fun _ _ h => TrIs.same (T5.trans tD) _ h).snoc (TrIs.same tD t ht), ?_, by rw [ed]; omega, by rw [upd_ne nDd.symm]; exact hd5, by rw [es]; omega, by rw [upd_ne nDr.symm]; exact hr5, by rw [es]; omega⟩
          rw [take_snocA eb]
          exact fits_snoc hfits hft
      · rw [List.length_map] at lt hfits lr
        rw [List.take_length] at hfits
        have hfp5 := TT kp _ _ hfp4
        refine ⟨D, _, rfl, .inl ⟨SqL.of hD, fun t5 n5 => ⟨(by show 3 <= sizeLine; decide), fun t6 n6 => ?_⟩⟩⟩
        have v1 := same_new n5 (.tup acc)
        have v2 := same_new n6 (.tup [.str f.nm, .int mk, .ref t5])
        have v12 := v1.trans v2
        have z1 : size (.node f.nm mk ts) = 1 + sizes ts := by rw [size]
        have z2 : deep (.node f.nm mk ts) = 1 + deeps ts := by rw [deep]
        refine q (.node f.nm mk ts) _ cs' r' _ (fun b o hb hB => v12 _ _ (kp b o (by simp; simp at hb; exact ⟨hb.1, hb.2, ne_of_none hB D0⟩) (k4 b o hb hB))) (TrIs.cl upd_same (v2 _ _ upd_same) (hts.imp fun _ _ h => TrIs.same (sameT v12) _ h)) ?_ (by rw [z1]; omega) (by rw [z2]; omega) (v12 _ _ hd') (by rw [z1]; omega) (v12 _ _ hr')
        rw [<- fsg]
        exact fit_of (t := .node f.nm mk ts) (find_of gw.nd fm) hfits
    · refine ⟨_, rfl, fp, _, 2, _, rfl, rfl, SqT.of hfp, rfl, fb, _, rfl, .inr (SqT.of hfb), _, rfl, rm, _, 0, .int (room : Int), rfl, rfl, SqL.of hr2, rfl, _, _, rfl, rfl, _, rfl, ?_⟩
      refine iteDd (fun h => qT (.inl ?_)) (fun h => ⟨_, rfl, rfl, _, rfl, ?_⟩)
      · rw [List.length_map] at h
        omega
      · rw [List.length_map] at h
        by_cases h2 : V.int (L : Int) = V.int 16
        · rw [decide_eq_true h2]
          have := V.int.inj h2
          exact qT (.inr (by omega))
        · rw [decide_eq_false h2]
          exact qF ⟨by omega, fun z => h2 (by rw [z]; rfl)⟩
    · exact ⟨_, rfl, S, _, 0, _, rfl, rfl, SqL.of hS2, atI_nat hv0, hn _ ⟨f0, fp0, fb0, frr0, rfl, f0mem.1, f0sg, hfp0, hfb0, by rw [hb0]; exact Nat.zero_le _, .inl hb0⟩⟩
  intro n
  induction n with
  | zero => exact step 0 (fun _ _ _ _ => False) ⟨fun _ _ _ _ h => h.elim, fun _ _ _ _ _ _ _ _ _ _ _ _ _ h => h.elim⟩ (fun G vg sg d rm L room cs H Q E _ _ _ hL hn _ _ _ _ _ _ => by omega)
  | succ n ih => exact step (n + 1) _ ih fun G vg sg d rm L room cs H Q E h1 h2 h3 h4 h5 h6 h7 h8 h9 h10 h11 => ⟨G, vg, sg, d, rm, L, room, cs, rfl, h1, h2, h3, by omega, h6, h7, h8, h9, h10, h11⟩
end
end K22
namespace K22
open PySem L2 TR FT
open TM 
theorem filter_first {p : Fr -> Bool} : ∀ {G : List Fr} {k : Nat} {f : Fr}, G[k]? = some f -> p f = true -> (∀ (j : Nat) g, j < k -> G[j]? = some g -> p g = false) -> ∃ r, G.filter p = f :: r
  | [], k, f, h, _, _ => by simp at h
  | g :: G, 0, f, h, hp, _ => by
    simp at h
    subst h
    exact ⟨_, List.filter_cons_of_pos hp⟩
  | g :: G, k + 1, f, h, hp, hn => by
    have h0 := hn 0 g (by omega) rfl
    rw [List.filter_cons_of_neg (by simp [h0])]
    exact filter_first (show G[k]? = some f by simpa using h) hp fun j g' hj hg => hn (j + 1) g' (by omega) (by simpa using hg)
theorem sh_wrd (c k : Int) : Sh (wrd c k) := ⟨by have := (wrd8 c k).1; omega, (wrd8 c k).2⟩
structure GAll (ss : List Str) (G : List Fr) : Prop where
  ok : GOk G
  l8 : ∀ f ∈ G, 1 <= f.nm.length /\ f.nm.length <= 8
  gw : Grw G
  bas : ∀ s ∈ ss, Bas G s
  wd : ∃ f0 f1 f2, G[0]? = some f0 /\ G[ss.length]? = some f1 /\ G[ss.length + 1]? = some f2 /\ Wds G (sgn ss 0) f0.nm f1.nm f2.nm
theorem gram_all {ss : List Str} {G : List Fr} (g : Gram ss G) : GAll ss G := by
  obtain ⟨n1, n5, ⟨sw, hsw⟩, wv, shs, shok, l10, lG, hG⟩ := g
  have sgw : ∀ j, j < ss.length -> sgn ss j = wrd sw j := fun j hj => hsw j _ (sgn_at hj)
  have mem : ∀ f ∈ G, ∃ (k : Nat) (sh : List Nat), k < 10 /\ shs[k]? = some sh /\ f = mkF ss (wrd wv k) sh := fun f hf => by
    obtain ⟨k, hk⟩ := List.getElem?_of_mem hf
    have hkl := lt_of_some hk
    obtain ⟨sh, hsh⟩ := some_of_lt (xs := shs) (i := k) (by omega)
    have := hG k sh hsh
    rw [hk] at this
    cases this
    exact ⟨k, sh, by omega, hsh, rfl⟩
  have hd : ∀ {k : Nat} {sh : List Nat}, shs[k]? = some sh -> sh.headD 0 < ss.length /\ ∀ j ∈ sh.tail, j < ss.length := fun {k sh} h => by
    obtain ⟨a, b, c⟩ := shok.all sh (List.mem_of_getElem? h)
    cases sh with
    | nil => exact absurd rfl a
    | cons x xs => exact ⟨c x List.mem_cons_self, fun j hj => c j (List.mem_cons_of_mem _ hj)⟩
  have nd : (names G).Nodup := by
    refine List.pairwise_iff_getElem.mpr fun i j hi hj hlt he => ?_
    rw [List.length_map] at hi hj
    rw [List.getElem_map, List.getElem_map] at he
    obtain ⟨sh1, h1⟩ := some_of_lt (xs := shs) (i := i) (by omega)
    obtain ⟨sh2, h2⟩ := some_of_lt (xs := shs) (i := j) (by omega)
    have g1 := hG i sh1 h1
    have g2 := hG j sh2 h2
    rw [List.getElem?_eq_getElem hi] at g1
    rw [List.getElem?_eq_getElem hj] at g2
    rw [Option.some.inj g1, Option.some.inj g2] at he
    have he : wrd wv i = wrd wv j := he
    have := wrd_inj (by omega) (by omega) (by omega) (by omega) he
    omega
  have ok : GOk G := by
    refine ⟨nd, by omega, fun f hf => ?_, fun f hf => ?_, fun f hf => ?_⟩
    · obtain ⟨k, sh, _, _, rfl⟩ := mem f hf
      exact sh_wrd _ _
    · obtain ⟨k, sh, _, h, rfl⟩ := mem f hf
      show Sh (sgn ss (sh.headD 0))
      rw [sgw _ (hd h).1]
      exact sh_wrd _ _
    · obtain ⟨k, sh, _, h, rfl⟩ := mem f hf
      have := (shok.all sh (List.mem_of_getElem? h)).2.1
      show (sh.tail.map (sgn ss)).length <= 3
      rw [List.length_map, List.length_tail]
      omega
  have one : ∀ k, k < ss.length -> G[k]? = some ⟨wrd wv k, sgn ss k, []⟩ := fun k hk => hG k [k] (shok.one k hk)
  have bas : ∀ k, k < ss.length -> Bas G (sgn ss k) := fun k hk => by
    obtain ⟨r, hr⟩ := filter_first (p := fun f => decide (f.sg = sgn ss k)) (one k hk) (by simp) fun j g hj hg => by
      rw [one j (by omega)] at hg
      cases hg
      refine decide_eq_false fun e => ?_
      have e : sgn ss j = sgn ss k := e
      rw [sgw j (by omega), sgw k hk] at e
      have := wrd_inj (by omega) (by omega) (by omega) (by omega) e
      omega
    exact ⟨_, r, hr, rfl⟩
  refine ⟨ok, fun f hf => ?_, ⟨nd, by omega, fun f hf => ⟨ok.br f hf, fun b hb => ?_⟩⟩, fun s hs => ?_, ?_⟩
  · obtain ⟨k, sh, _, _, rfl⟩ := mem f hf
    have := wrd_len wv k
    show 1 <= (wrd wv k).length /\ (wrd wv k).length <= 8
    omega
  · obtain ⟨k, sh, _, h, rfl⟩ := mem f hf
    have hb : b ∈ sh.tail.map (sgn ss) := hb
    obtain ⟨j, hj, rfl⟩ := List.mem_map.mp hb
    exact bas j ((hd h).2 j hj)
  · obtain ⟨k, hk⟩ := List.getElem?_of_mem hs
    have hkl := lt_of_some hk
    rw [sgn_at hkl] at hk
    rw [<- Option.some.inj hk]
    exact bas k hkl
  · have g1 := hG _ _ shok.two
    have g2 := hG _ _ shok.fou
    have g0 := one 0 (by omega)
    exact ⟨_, _, _, g0, g1, g2, find_of nd (List.mem_of_getElem? g0), find_of nd (List.mem_of_getElem? g1), find_of nd (List.mem_of_getElem? g2)⟩
end K22
namespace K22
open PySem L2 TR FT
open TM 
theorem seq_ifS_3 {c : TT} {t u rest : TS} {D : Ends} {σ : St} {H : Hp} {A B : Hp -> Prop} (R : St -> Hp -> Prop) (hrest : ∀ σ' H', R σ' H' -> rest D σ' H') (hc : ∀ Q : Bool -> Hp -> Prop, (∀ H1, A H1 -> Q true H1) -> (∀ H1, B H1 -> Q false H1) -> c σ H Q) (h1 : ∀ H1, A H1 -> ∀ D' : Ends, (∀ σ' H', R σ' H' -> D'.nx σ' H') -> t D' σ H1) (h2 : ∀ H1, B H1 -> ∀ D' : Ends, (∀ σ' H', R σ' H' -> D'.nx σ' H') -> u D' σ H1) : tSeq (tIfS c t u) rest D σ H :=
  hc _ (fun H1 a => iteT (h1 H1 a _ hrest)) (fun H1 b => iteF (h2 H1 b _ hrest))
theorem GOk.filter {G : List Fr} (p : Fr -> Bool) (h : GOk G) : GOk (G.filter p) :=
  ⟨(List.Sublist.map Fr.nm List.filter_sublist).nodup h.nd, Nat.le_trans (List.length_filter_le _ _) h.len, fun f hf => h.nm f (List.mem_filter.mp hf).1, fun f hf => h.sg f (List.mem_filter.mp hf).1, fun f hf => h.br f (List.mem_filter.mp hf).1⟩
theorem lack_none {G : List Fr} {p : List Int} {t u : Tr} (h : atT p t = some u) : fit (G.filter fun f => !decide (f.nm = u.nm)) t = none := miss_at h (find_none fun hm => by
  obtain ⟨f, hf, e⟩ := List.mem_map.mp hm
  have := (List.mem_filter.mp hf).2
  simp [e] at this)
theorem fit_names {G : List Fr} {t : Tr} {s : Str} (h : fit G t = some s) : ∀ p u, atT p t = some u -> u.nm ∈ names G := fun p u hu => by
  obtain ⟨su, hs⟩ := fit_at h hu
  obtain ⟨f, hf, _, _⟩ := fit_some hs
  obtain ⟨fm, e⟩ := find_mem hf
  exact List.mem_map.mpr ⟨f, fm, e⟩
def spLaw (K : PySem.W.Frag) : Sp := fun vs H Q _ => ∃ (a : Addr) (ns : List Int), vs = [.ref a] /\ SqL K H a (ns.map V.int) /\ ns.length <= 63 /\ ∀ H', Q (.bl true) H'
section
variable {P : Program} {w : World} {K : PySem.W.Frag} {mg : Str -> Option Value} {base : Heap} {T : Adr}
theorem ok_law (X : Tx K mg T) : FnOk P w K mg base CX0 120 T.law T.d_law ["_law_script"] (spLaw K) := by
  have G_qdeck := (ok_deck (P := P) (w := w) (base := base) X).mono (show 1 <= 119 by decide)
  have G_qgrammar := (ok_gram (P := P) (w := w) (base := base) X).mono (show 3 <= 119 by decide)
  have G_qgrown := (ok_grown (P := P) (w := w) (base := base) X 15).mono (show 16 <= 119 by decide)
  have G_qmany := (ok_many (P := P) (w := w) (base := base) X 45).mono (show 46 <= 119 by decide)
  have G_qdeep := (ok_deep (P := P) (w := w) (base := base) X).mono (show 1 <= 119 by decide)
  have G_qsign := (ok_sgn (P := P) (w := w) (base := base) X).mono (show 74 <= 119 by decide)
  have G_qrefused := (ok_refd (P := P) (w := w) (base := base) X).mono (show 74 <= 119 by decide)
  have G_qlacking := (ok_lack (P := P) (w := w) (base := base) X).mono (show 2 <= 119 by decide)
  have G_qfaulty := (ok_faulty (P := P) (w := w) (base := base) X).mono (show 62 <= 119 by decide)
  refine X.F_law.okQ sc_law (fun vs H Q E h => ?_) (fun cdv A outer s H vs Q E hr h => ?_)
  · obtain ⟨_, _, rfl, _⟩ := h
    rfl
  obtain ⟨a, ns, rfl, hS, h63, q⟩ := h
  refine ⟨_, (qss_cons (qs_set (i := 1) sc_law.nd rfl (Or.inl rfl) (qe_call G_qdeck hr rfl X.m_qdeck X.F_qdeck.kp X.b_qdeck .nil pass0 (qaN (qv 0) (qaC qe_int qa_nil)))) (qss_cons (qs_set (i := 2) sc_law.nd rfl (Or.inl rfl) (qe_op op_mod (qe_op op_mul (qe_ix ix_list (qv 1) qe_int (fun _ _ => rfl)) qe_int) qe_int)) (qss_cons (qs_set (i := 3) sc_law.nd rfl (Or.inl rfl) (qe_call G_qgrammar hr rfl X.m_qgrammar X.F_qgrammar.kp X.b_qgrammar .nil pass0 (qaN (qv 1) qa_nil))) (qss_cons (qs_set (i := 4) sc_law.nd rfl (Or.inl rfl) (qe_callB call_len_seq rfl X.z_len PySem.boot_len (qaS (qe_ix ix_tup (qv 3) qe_int (fun _ _ => rfl)) qa_nil))) (qss_cons (qs_set (i := 5) sc_law.nd rfl (Or.inl rfl) (qe_lst (qaS (qe_ix ix_tup (qe_ix ix_tup (qe_ix ix_tup (qv 3) qe_int (fun _ _ => rfl)) qe_int (fun _ _ => rfl)) qe_int (fun _ _ => rfl)) (qaS (qe_ix ix_tup (qe_ix ix_tup (qe_ix ix_tup (qv 3) qe_int (fun _ _ => rfl)) (qv 4) (fun _ _ => rfl)) qe_int (fun _ _ => rfl)) (qaS (qe_ix ix_tup (qe_ix ix_tup (qe_ix ix_tup (qv 3) qe_int (fun _ _ => rfl)) (qe_op op_add (qv 4) qe_int) (fun _ _ => rfl)) qe_int (fun _ _ => rfl)) qa_nil))))) (qss_cons (qs_set (i := 6) sc_law.nd rfl (Or.inl rfl) (qe_ix ix_tup (qe_ix ix_tup (qe_ix ix_tup (qv 3) qe_int (fun _ _ => rfl)) (qe_op op_mod (qe_op op_fdiv (qv 2) qe_int) (qv 4)) (fun _ _ => rfl)) qe_int (fun _ _ => rfl))) (qss_cons (qs_set (i := 7) sc_law.nd rfl (Or.inl rfl) (qe_call G_qgrown hr rfl X.m_qgrown X.F_qgrown.kp X.b_qgrown .nil pass0 (qaN (qv 3) (qaN (qv 6) (qaN (qv 1) (qaL (qe_lst (qaS (qe_ix ix_list (qe_lst (qaC qe_int (qaC qe_int qa_nil))) (qe_op op_fdiv (qe_op op_mod (qe_op op_fdiv (qv 2) qe_int) qe_int) qe_int) (fun _ _ => rfl)) qa_nil)) (qaC qe_int qa_nil))))))) (qss_cons (qs_set (i := 8) sc_law.nd rfl (Or.inl rfl) (qe_ix ix_list (qe_lst (qaK (qe_call G_qmany hr rfl X.m_qmany X.F_qmany.kp X.b_qmany .nil pass0 (qaN (qv 5) (qaC qe_int qa_nil))) (qaK (qe_call G_qdeep hr rfl X.m_qdeep X.F_qdeep.kp X.b_qdeep .nil pass0 (qaN (qv 5) (qaC qe_int (qaN (qv 2) qa_nil)))) qa_nil))) (qe_op op_mod (qv 2) qe_int) (fun _ _ => rfl))) (qss_cons (qs_set (i := 9) sc_law.nd rfl (Or.inl rfl) (qe_call G_qmany hr rfl X.m_qmany X.F_qmany.kp X.b_qmany .nil pass0 (qaN (qv 5) (qaB (qe_op op_add qe_int (qe_op op_mod (qe_op op_fdiv (qv 2) qe_int) qe_int)) qa_nil)))) (qss_cons (qs_if (qt_cmpR op_eq (qe_op op_mod (qe_op op_fdiv (qv 2) qe_int) qe_int) qe_int (nomark _)) (qss_one (qs_set (i := 9) sc_law.nd rfl (Or.inl rfl) (qe_call G_qdeep hr rfl X.m_qdeep X.F_qdeep.kp X.b_qdeep .nil pass0 (qaN (qv 5) (qaB (qe_op op_add qe_int (qe_op op_mod (qe_op op_fdiv (qv 2) qe_int) qe_int)) (qaB (qe_op op_fdiv (qv 2) qe_int) qa_nil)))))) qss_nil) (qss_cons (qs_for PassesOwn.never rfl (qi_list (qe_lst (qaN (qv 7) (qaN (qv 8) (qaN (qv 7) qa_nil))))) (qg_name (i := 10) sc_law.nd rfl (Or.inl rfl)) (qss_cons (qs_if (qw_pt (qw_or (qt_not (qt_val (qe_call G_qsign hr rfl X.m_qsign X.F_qsign.kp X.b_qsign .nil pass0 (qaN (qv 3) (qaN (qv 10) qa_nil))))) (qw_or1 (qt_not (qt_val (qe_call G_qrefused hr rfl X.m_qrefused X.F_qrefused.kp X.b_qrefused .nil pass0 (qaK (qe_call G_qlacking hr rfl X.m_qlacking X.F_qlacking.kp X.b_qlacking .nil pass0 (qaN (qv 3) (qaN (qv 10) (qaN (qv 2) qa_nil)))) (qaN (qv 10) (qaC qe_bl qa_nil))))))))) (qss_one (qs_ret qe_bl)) qss_nil) (qss_cons (qs_if (qt_not (qt_val (qe_call G_qrefused hr rfl X.m_qrefused X.F_qrefused.kp X.b_qrefused .nil pass0 (qaN (qv 3) (qaK (qe_call G_qfaulty hr rfl X.m_qfaulty X.F_qfaulty.kp X.b_qfaulty .nil pass0 (qaN (qv 3) (qaN (qv 7) (qaN (qv 2) qa_nil)))) (qaC qe_bl qa_nil)))))) (qss_one (qs_ret qe_bl)) qss_nil) (qss_one (qs_set (i := 2) sc_law.nd rfl (Or.inl rfl) (qe_op op_mod (qe_op op_mul (qv 2) qe_int) qe_int)))))) (qss_cons (qs_set (i := 11) sc_law.nd rfl (Or.inl rfl) (qe_call G_qfaulty hr rfl X.m_qfaulty X.F_qfaulty.kp X.b_qfaulty .nil pass0 (qaN (qv 3) (qaN (qv 9) (qaB (qe_op op_add (qe_op op_mul (qe_op op_fdiv (qv 2) qe_int) qe_int) (qe_ix ix_list (qe_lst (qaC qe_int (qaC qe_int (qaC qe_int qa_nil)))) (qe_op op_mod (qv 2) qe_int) (fun _ _ => rfl))) qa_nil))))) (qss_cons (qs_if (qw_pt (qw_or (qt_not (qt_val (qe_call G_qrefused hr rfl X.m_qrefused X.F_qrefused.kp X.b_qrefused .nil pass0 (qaN (qv 3) (qaN (qv 9) (qaC qe_bl qa_nil)))))) (qw_or1 (qt_not (qt_val (qe_call G_qrefused hr rfl X.m_qrefused X.F_qrefused.kp X.b_qrefused .nil pass0 (qaN (qv 3) (qaN (qv 11) (qaC qe_bl qa_nil))))))))) (qss_one (qs_ret qe_bl)) qss_nil) (qss_one (qs_ret (qe_call G_qsign hr rfl X.m_qsign X.F_qsign.kp X.b_qsign .nil pass0 (qaN (qv 3) (qaN (qv 7) qa_nil)))))))))))))))))), ?_⟩
  refine ⟨_, rfl, a, ns, rfl, hS, h63, fun D cs H1 s1 nD hD lcs hcs => ?_⟩
  obtain ⟨c1, hc1⟩ := some_of_lt (xs := cs) (i := 1) (by omega)
  have hat1 : atI (cs.map V.int) 1 = some (.int c1) := atI_nat (show (cs.map V.int)[1]? = some (.int c1) by rw [List.getElem?_map, hc1]; rfl)
  refine ⟨_, rfl, D, _, 1, .int c1, rfl, rfl, SqL.of hD, hat1, _, _, rfl, rfl, .inr ⟨by decide, by decide⟩, _, _, rfl, rfl, (by show (0 : Int) < 2147483647; decide), ?_⟩
  dsimp only [gName]
  generalize c1 * 48271 % 2147483647 = c
  refine ⟨_, rfl, D, cs, rfl, hD, lcs, fun vg ss G cs2 H2 k2 hga gr hd2 l48 => ?_⟩
  have al := gram_all gr
  have n1 := gr.n1
  have n5 := gr.n5
  obtain ⟨f0, f1, f2, g0, g1, g2, wd⟩ := al.wd
  have hga0 := hga
  obtain ⟨g, sa, fa, sus, fus, rfl, hg, hsa, hss, hfa, hfr⟩ := hga
  have lss := hss.len
  obtain ⟨v0, hv0, fp0, fb0, r0, rfl, hfp0, _⟩ := l2r_at hfr g0
  obtain ⟨v1, hv1, fp1, fb1, r1, rfl, hfp1, _⟩ := l2r_at hfr g1
  obtain ⟨v2, hv2, fp2, fb2, r2, rfl, hfp2, _⟩ := l2r_at hfr g2
  refine ⟨_, rfl, g, _, 0, _, rfl, rfl, SqT.of hg, rfl, sa, sus, rfl, .inr (SqT.of hsa), ?_⟩
  dsimp only [gName]
  rw [lss]
  refine ⟨_, rfl, g, _, 1, _, rfl, rfl, SqT.of hg, rfl, fa, _, 0, _, rfl, rfl, SqT.of hfa, atI_nat hv0, fp0, _, 0, _, rfl, rfl, SqT.of hfp0, rfl, _, rfl, g, _, 1, _, rfl, rfl, SqT.of hg, rfl, _, rfl, fa, _, _, _, rfl, rfl, SqT.of hfa, atI_nat hv1, fp1, _, 0, _, rfl, rfl, SqT.of hfp1, rfl, _, rfl, g, _, 1, _, rfl, rfl, SqT.of hg, rfl, _, rfl, _, _, rfl, rfl, fa, _, _, _, rfl, rfl, SqT.of hfa, (by show atI fus ((ss.length : Int) + 1) = _; rw [show (ss.length : Int) + 1 = ((ss.length + 1 : Nat) : Int) by omega]; exact atI_nat hv2), fp2, _, 0, _, rfl, rfl, SqT.of hfp2, rfl, (by show 3 <= sizeLine; decide), fun wl nwl => ?_⟩
  have sw := same_new nwl (.lst [.str f0.nm, .str f1.nm, .str f2.nm])
  have hwl := upd_same (H := H2) (a := wl) (o := .lst [.str f0.nm, .str f1.nm, .str f2.nm])
  generalize upd H2 wl (.lst [.str f0.nm, .str f1.nm, .str f2.nm]) = H3 at sw hwl ⊢
  have hga3 := hga0.same (sameT sw)
  have hd3 := sw _ _ hd2
  have hg3 := sw _ _ hg
  have hsa3 := sw _ _ hsa
  have m0 := Int.emod_nonneg (c / 2) (show (ss.length : Int) ≠ 0 by omega)
  have m1 := Int.emod_lt_of_pos (c / 2) (show (0 : Int) < (ss.length : Int) by omega)
  obtain ⟨k, hk⟩ := Int.eq_ofNat_of_zero_le m0
  obtain ⟨rt, hrt⟩ := some_of_lt (xs := ss) (i := k) (by omega)
  obtain ⟨vr, hvr, pr, dr, ur, rfl, hpr, _, _⟩ := l2r_at hss hrt
  refine ⟨_, rfl, g, _, 0, _, rfl, rfl, SqT.of hg3, rfl, _, rfl, _, _, rfl, rfl, ⟨by decide, by decide⟩, _, rfl, _, _, rfl, rfl, (by show (0 : Int) < (ss.length : Int); omega), sa, _, _, _, rfl, rfl, SqT.of hsa3, (by rw [hk]; exact atI_nat hvr), pr, _, 0, _, rfl, rfl, SqT.of (sw _ _ hpr), rfl, ?_⟩
  obtain ⟨room, hroom, rm39⟩ : ∃ room : Nat, atI [V.int 11, V.int 39] (c / 10 % 4 / 3) = some (.int (room : Int)) /\ room <= 39 := by
    have : c / 10 % 4 / 3 = 0 \/ c / 10 % 4 / 3 = 1 := by omega
    rcases this with e | e <;> rw [e]
    · exact ⟨11, rfl, by decide⟩
    · exact ⟨39, rfl, by decide⟩
  refine ⟨_, rfl, _, rfl, _, rfl, (by show 2 <= sizeLine; decide), fun l1 nl1 => ⟨_, rfl, _, _, rfl, rfl, ⟨by decide, by decide⟩, _, _, rfl, rfl, (by show (0 : Int) < 4; decide), _, _, rfl, rfl, ⟨by decide, by decide⟩, l1, _, _, .int (room : Int), rfl, rfl, SqL.of upd_same, hroom, (by show 1 <= sizeLine; decide), fun rm nrm => ?_⟩⟩
  have t1 := same_new nl1 (.lst [.int 11, .int 39])
  have t2 := same_new nrm (.lst [.int (room : Int)])
  have t12 := t1.trans t2
  have nDr : D ≠ rm := ne_of_none (t1 _ _ hd3) nrm
  refine ⟨G, _, rt, D, rm, 1, room, cs2, rfl, (hga3.same (sameT t12)).g, al.gw, al.bas rt (List.mem_of_getElem? hrt), rfl, by omega, nDr, t12 _ _ hd3, upd_same, by omega, fun ts vs cs3 room3 H4 k4 hts fts szs dps hd4 lc4 hr4 => ?_⟩
  have T4 : SameT H3 H4 := (sameT t12).trans (k4.T fun x hx => by
    have hx : x = D \/ x = rm := by simpa using hx
    rcases hx with rfl | rfl
    · exact ⟨_, t12 _ _ hd3⟩
    · exact ⟨_, upd_same⟩)
  have nwD : wl ≠ D := fun z => by rw [z, hd2] at nwl; cases nwl
  have hwl4 : H4 wl = some (.lst [.str f0.nm, .str f1.nm, .str f2.nm]) := k4 _ _ (by simp; exact ⟨nwD, ne_of_none (t1 _ _ hwl) nrm⟩) (t12 _ _ hwl)
  have hga4 := hga3.same T4
  have small : Small ts := ⟨by omega, by omega⟩
  clear hroom hwl k4 hd4 hr4
  refine ⟨_, rfl, G, _, _, _, _, wl, 60, rfl, hwl4, wd, by decide, by decide, fun ve1 H5 s5 ⟨te1, he1, z1, p1, ft1⟩ => ⟨_, rfl, _, rfl, G, _, _, _, _, wl, 20, c, rfl, s5 _ _ hwl4, wd, by decide, by decide, fun te2 ve2 H6 s6 he2 z2 p2 ft2 => ⟨(by show 2 <= sizeLine; decide), fun l2 nl2 => ?_⟩⟩⟩
  have t3 := same_new nl2 (.lst [ve1, ve2])
  have s46 := s5.trans (s6.trans t3)
  obtain ⟨ve, te, hve, hte, smE, ftE⟩ : ∃ ve te, atI [ve1, ve2] (c % 2) = some ve /\ TrIs (upd H6 l2 (.lst [ve1, ve2])) te ve /\ Small te /\ fit G te = some (sgn ss 0) := by
    have : c % 2 = 0 \/ c % 2 = 1 := by omega
    rcases this with e | e <;> rw [e]
    · exact ⟨ve1, te1, rfl, TrIs.same (sameT (s6.trans t3)) te1 he1, ⟨by omega, Nat.le_trans p1 (by decide)⟩, ft1⟩
    · exact ⟨ve2, te2, rfl, TrIs.same (sameT t3) te2 he2, ⟨by omega, by omega⟩, ft2⟩
  refine ⟨_, rfl, _, _, rfl, rfl, (by show (0 : Int) < 2; decide), l2, _, _, ve, rfl, rfl, SqL.of upd_same, hve, ?_⟩
  have hwl7 := s46 _ _ hwl4
  have hga7 := hga4.same (sameT s46)
  have hts7 := TrIs.same (sameT s46) ts hts
  generalize upd H6 l2 (.lst [ve1, ve2]) = H7 at s46 hte hwl7 hga7 hts7 ⊢
  clear he2 hve
  have b0 := Int.emod_nonneg (c / 3) (show (100 : Int) ≠ 0 by decide)
  have b1 := Int.emod_lt_of_pos (c / 3) (show (0 : Int) < 100 by decide)
  obtain ⟨kg, hkg⟩ := Int.eq_ofNat_of_zero_le b0
  refine ⟨_, rfl, _, rfl, _, _, rfl, rfl, ⟨by decide, by decide⟩, _, _, rfl, rfl, (by show (0 : Int) < 100; decide), _, _, rfl, rfl, ?_⟩
  show spMany 45 [V.ref wl, V.int (61 + c / 3 % 100)] H7 _ E0
  rw [show 61 + c / 3 % 100 = ((61 + kg : Nat) : Int) by omega]
  have muk : mu (61 + kg) <= 46 := by unfold mu; rw [if_neg (by omega)]; omega
  refine ⟨G, _, _, _, _, wl, 61 + kg, rfl, hwl7, wd, by omega, muk, fun vg1 H8 s8 ⟨tg1, hg1, zg1, pg1, fg1⟩ => ?_⟩
  dsimp only [gName]
  refine seq_ifS_3 (A := fun H2 => H2 = H8) (B := fun H2 => H2 = H8) (fun σ' H' => ∃ (tg : Tr) (vG : V), σ' = [some (.ref a), some (.ref D), some (.int c), some (.ref g), some (.int (ss.length : Int)), some (.ref wl), some (.str rt), some vs, some ve, some vG, none, none] /\ Same H7 H' /\ TrIs H' tg vG /\ ¬ Small tg /\ size tg <= 170 /\ deep tg <= 60 /\ fit G tg = some (sgn ss 0)) ?_ (fun Q' qT qF => ?_) (fun H9 e9 D' hn => ?_) (fun H9 e9 D' hn => hn _ _ ⟨tg1, vg1, rfl, by rw [e9]; exact s8, by rw [e9]; exact hg1, fun z => by have := z.1; omega, by omega, by omega, fg1⟩)
  · rintro σ' H9 ⟨tg, vG, rfl, s9, htg, nsm, zg, pg, ftg⟩
    have hga9 := hga7.same (sameT s9)
    have hts9 := TrIs.same (sameT s9) ts hts7
    have hte9 := TrIs.same (sameT s9) te hte
    refine ⟨_, rfl, _, rfl, _, rfl, (by show 3 <= sizeLine; decide), fun l3 nl3 => ?_⟩
    have t5 := same_new nl3 (.lst [vs, ve, vs])
    have hl3 := upd_same (H := H9) (a := l3) (o := .lst [vs, ve, vs])
    have hga10 := hga9.same (sameT t5)
    have hts10 := TrIs.same (sameT t5) ts hts9
    have hte10 := TrIs.same (sameT t5) te hte9
    have htg10 := TrIs.same (sameT t5) tg htg
    generalize upd H9 l3 (.lst [vs, ve, vs]) = H10 at hl3 hga10 hts10 hte10 htg10 ⊢
    refine ⟨l3, rfl, ⟨_, SqL.of hl3⟩, ?_⟩
    refine for_list (K := K) (a := l3) (xs := [vs, ve, vs]) (fun i σ H' => Same H10 H' /\ ∃ (c' : Int) (x10 : Option V), σ = [some (.ref a), some (.ref D), some (.int c'), some (.ref g), some (.int (ss.length : Int)), some (.ref wl), some (.str rt), some vs, some ve, some vG, x10, none]) ⟨Same.refl _, c, none, rfl⟩ (fun i σ H' _ ⟨sm, _⟩ => SqL.of (sm _ _ hl3)) ?_ ?_
    · rintro i v σ H' hv ⟨sm, c', x10, rfl⟩
      obtain ⟨t, st, ht, smt, ftt⟩ : ∃ t st, TrIs H' t v /\ Small t /\ fit G t = some st := by
        match i, hv with
        | 0, hv => cases hv; exact ⟨ts, rt, TrIs.same (sameT sm) ts hts10, small, fts⟩
        | 1, hv => cases hv; exact ⟨te, _, TrIs.same (sameT sm) te hte10, smE, ftE⟩
        | 2, hv => cases hv; exact ⟨ts, rt, TrIs.same (sameT sm) ts hts10, small, fts⟩
      have hgi := (hga10.same (sameT sm)).g
      have smz := smt.1
      have smd := smt.2
      refine ⟨_, rfl, _, rfl, G, t, _, v, st, rfl, hgi, al.ok, ht, smt, ftt, fun J1 j1 => ⟨_, rfl, _, rfl, _, rfl, _, rfl, G, t, _, v, c', rfl, hgi.same (sameT j1), al.ok.len, TrIs.same (sameT j1) t ht, by omega, fun p u vg' J2 j2 hat hg' => ⟨_, rfl, _, t, vg', v, false, rfl, hg', al.ok.filter _, TrIs.same (sameT (j1.trans j2)) t ht, fit_ok al.ok ftt, by omega, by omega, .inr ⟨rfl, smt, lack_none hat⟩, fun J3 j3 => ⟨_, rfl, ?_⟩⟩⟩⟩
      have jA := j1.trans (j2.trans j3)
      have szs' := small.1
      have dps' := small.2
      refine ⟨_, rfl, _, rfl, _, rfl, _, rfl, G, ts, _, vs, c', rfl, hgi.same (sameT jA), al.ok, al.l8, TrIs.same (sameT (sm.trans jA)) ts hts10, by omega, by omega, fit_names fts, fun p u x f r y J4 j4 hat hf flt xok hput hry => ⟨G, r, _, y, false, rfl, hgi.same (sameT (jA.trans j4)), al.ok, hry, (fit_ok al.ok fts).put xok hput, ?_, ?_, .inr ⟨rfl, ?_, flt_none al.ok.nd fts hat hf flt hput⟩, fun J5 j5 => ⟨_, rfl, ?_⟩⟩⟩
      · have := put_deep_le (d := 1) hat hput (flt_size flt).2.1
        omega
      · have := put_size hat hput
        have := (flt_size flt).1
        omega
      · have e1 := put_deep_le (d := 1) hat hput (flt_size flt).2.1
        have e2 := put_size hat hput
        have e3 := (flt_size flt).1
        exact ⟨by omega, by omega⟩
      · exact ⟨_, rfl, _, _, rfl, rfl, .inr ⟨by decide, by decide⟩, _, _, rfl, rfl, (by show (0 : Int) < 2147483629; decide), sm.trans (jA.trans (j4.trans j5)), _, _, rfl⟩
    · rintro σ H' ⟨sm, c', x10, rfl⟩
      have hgi := (hga10.same (sameT sm)).g
      have htg' := TrIs.same (sameT sm) tg htg10
      obtain ⟨kk, hkk, hk5⟩ : ∃ kk : Int, atI [V.int 0, V.int 3, V.int 4] (c' % 3) = some (.int kk) /\ (kk = 0 \/ kk = 3 \/ kk = 4) := by
        have : c' % 3 = 0 \/ c' % 3 = 1 \/ c' % 3 = 2 := by omega
        rcases this with e | e | e <;> rw [e]
        · exact ⟨0, rfl, .inl rfl⟩
        · exact ⟨3, rfl, .inr (.inl rfl)⟩
        · exact ⟨4, rfl, .inr (.inr rfl)⟩
      refine ⟨_, rfl, _, rfl, _, rfl, _, _, rfl, rfl, ⟨by decide, by decide⟩, _, _, rfl, rfl, .inr ⟨by decide, by decide⟩, (by show 3 <= sizeLine; decide), fun l4 nl4 => ⟨_, rfl, _, _, rfl, rfl, (by show (0 : Int) < 3; decide), l4, _, _, .int kk, rfl, rfl, SqL.of upd_same, hkk, _, _, rfl, rfl, ?_⟩⟩
      have t6 := same_new nl4 (.lst [.int 0, .int 3, .int 4])
      refine ⟨G, tg, _, vG, _, rfl, hgi.same (sameT t6), al.ok, al.l8, TrIs.same (sameT t6) tg htg', by omega, by omega, fit_names ftg, fun p u x f r y J4 j4 hat hf flt xok hput hry => ?_⟩
      have e5 : (c' / 3 * 5 + kk) % 5 = kk := by omega
      have hsz := flt_size flt
      have hno := hsz.2.2 (by rw [e5]; omega) (by rw [e5]; omega)
      have pz := put_size hat hput
      have pd := put_deep_ge hat hput hno.2
      have pd2 := put_deep_le (d := 1) hat hput hsz.2.1
      have hz1 := hsz.1
      have nsr : ¬ Small r := fun z => nsm ⟨by have := z.1; omega, by have := z.2; omega⟩
      have hgi4 := hgi.same (sameT (t6.trans j4))
      refine ⟨_, rfl, _, rfl, G, tg, _, vG, true, rfl, hgi4, al.ok, TrIs.same (sameT (t6.trans j4)) tg htg', fit_ok al.ok ftg, by omega, by omega, .inl ⟨rfl, nsm⟩, fun J5 j5 => ⟨_, rfl, _, rfl, _, rfl, G, r, _, y, true, rfl, hgi4.same (sameT j5), al.ok, TrIs.same (sameT j5) r hry, (fit_ok al.ok ftg).put xok hput, by omega, by omega, .inl ⟨rfl, nsr⟩, fun J6 j6 => ⟨_, rfl, ?_⟩⟩⟩
      have jA := t6.trans (j4.trans (j5.trans j6))
      exact ⟨_, rfl, _, rfl, G, ts, _, vs, rt, rfl, hgi.same (sameT jA), al.ok, TrIs.same (sameT (sm.trans jA)) ts hts10, small, fts, fun J7 _ => q J7⟩
  · refine ⟨_, rfl, _, _, rfl, rfl, ⟨by decide, by decide⟩, _, _, rfl, rfl, (by show (0 : Int) < 2; decide), rfl, _, rfl, ?_⟩
    by_cases h : V.int (c / 7 % 2) = V.int 0
    · rw [decide_eq_true h]
      exact qT _ rfl
    · rw [decide_eq_false h]
      exact qF _ rfl
  · subst e9
    have d0 := Int.emod_nonneg (c / 14) (show (30 : Int) ≠ 0 by decide)
    have d1 := Int.emod_lt_of_pos (c / 14) (show (0 : Int) < 30 by decide)
    obtain ⟨kd, hkd⟩ := Int.eq_ofNat_of_zero_le d0
    refine ⟨_, rfl, _, rfl, _, _, rfl, rfl, ⟨by decide, by decide⟩, _, _, rfl, rfl, (by show (0 : Int) < 30; decide), _, _, rfl, rfl, _, rfl, _, _, rfl, rfl, ⟨by decide, by decide⟩, ?_⟩
    show spDeep [V.ref wl, V.int (21 + c / 14 % 30), V.int (c / 3)] H9 _ E0
    rw [show 21 + c / 14 % 30 = ((21 + kd : Nat) : Int) by omega]
    exact ⟨G, _, _, _, _, wl, 21 + kd, _, rfl, s8 _ _ hwl7, wd, by omega, by omega, fun t2 v2 J1 j1 ht2 z2' p2' f2' => hn _ _ ⟨t2, v2, rfl, s8.trans j1, ht2, fun z => by have := z.2; omega, by omega, by omega, f2'⟩⟩
end
end K22
namespace K22
open PySem L2
end K22
open PySem PySem.W PyProof.Rows
set_option maxRecDepth 100000 in
set_option maxHeartbeats 0 in
theorem PySem.Challenge.cw_leafsay_k22_what_fits_holds : PySem.Challenge.rw_leafsay_k22_what_fits.Holds := by
  w_on; o_law; k_head; (case hw => w_witness2)
  k_fill
  refine L2.walk_ofK (l := PySem.Challenge.rw_leafsay_k22_what_fits) (n := 63) (k := 120) (x := "_law_script") (CX := L2.CX0) (sp := K22.spLaw) rfl (by decide) rfl ⟨rfl, by decide, by decide, rfl⟩ (fun w h Y => PySem.W.kIn_of Y) ?F (fun K H a ns hl _ hS => ⟨a, ns, rfl, hS, hl, fun _ => rfl⟩) (fun _ _ _ _ z => z)
  case F =>
    intro w mg fa h KX G hmg
    have T : ∃ T : K22.Adr, K22.Tx (L2.KOf KX) mg T := by
      dsimp only [L2.KOf]
      refine' K22.tx_mk KX G ?m_LeafError ?m_NoText ?m_TooGreat ?m_NoName ?m_NoRule ?m_NoKind ?m_NoTree ?m_NoPlace ?m_NoGiven ?m_NoWalk ?m_Ring ?a0 ?l0 ?c0 ?k0 ?a1 ?l1 ?c1 ?k1 ?a2 ?l2 ?c2 ?k2 ?a3 ?l3 ?c3 ?k3 ?a4 ?l4 ?c4 ?k4 ?a5 ?l5 ?c5 ?k5 ?a6 ?l6 ?c6 ?k6 ?a7 ?l7 ?c7 ?k7 ?a8 ?l8 ?c8 ?k8 ?a9 ?l9 ?c9 ?k9 ?a10 ?l10 ?c10 ?k10 ?a11 ?l11 ?c11 ?k11 ?a12 ?l12 ?c12 ?k12 ?a13 ?l13 ?c13 ?k13 ?a14 ?l14 ?c14 ?k14 ?a15 ?l15 ?c15 ?k15 ?a16 ?l16 ?c16 ?k16 ?a17 ?l17 ?c17 ?k17 ?a18 ?l18 ?c18 ?k18 ?a19 ?l19 ?c19 ?k19 ?a20 ?l20 ?c20 ?k20 ?a21 ?l21 ?c21 ?k21 ?a22 ?l22 ?c22 ?k22 ?a23 ?l23 ?c23 ?k23 ?z_ValueError ?z_enumerate ?z_isinstance ?z_len ?z_list ?z_max ?z_range ?z_reversed ?z_str ?z_tuple ?c_MOST_NODES ?c_MOST_DEEP ?e_LeafError ?e_TooGreat ?xga_TooGreat ?xgt_TooGreat ?xca_TooGreat ?xsp_TooGreat ?xtk_TooGreat ?xmo_TooGreat ?xmb_TooGreat ?u_TooGreat_LeafError ?u_TooGreat_NoName ?i_TooGreat_0 ?i_TooGreat_1 ?i_TooGreat_2 ?i_TooGreat_3 ?e_NoName ?xga_NoName ?xgt_NoName ?xca_NoName ?xsp_NoName ?xtk_NoName ?xmo_NoName ?xmb_NoName ?u_NoName_LeafError ?u_NoName_NoName ?i_NoName_0 ?i_NoName_1 ?i_NoName_2 ?i_NoName_3 ?e_NoTree ?xga_NoTree ?xgt_NoTree ?xca_NoTree ?xsp_NoTree ?xtk_NoTree ?xmo_NoTree ?xmb_NoTree ?u_NoTree_LeafError ?u_NoTree_NoName ?i_NoTree_0 ?i_NoTree_1 ?i_NoTree_2 ?i_NoTree_3
      (case m_LeafError => k_is)
      (case m_NoText => k_is)
      (case m_TooGreat => k_is)
      (case m_NoName => k_is)
      (case m_NoRule => k_is)
      (case m_NoKind => k_is)
      (case m_NoTree => k_is)
      (case m_NoPlace => k_is)
      (case m_NoGiven => k_is)
      (case m_NoWalk => k_is)
      (case m_Ring => k_is)
      (case a0 => k_is)
      (case l0 => k_is)
      (case c0 => k_is)
      (case k0 => k_is)
      (case a1 => k_is)
      (case l1 => k_is)
      (case c1 => k_is)
      (case k1 => k_is)
      (case a2 => k_is)
      (case l2 => k_is)
      (case c2 => k_is)
      (case k2 => k_is)
      (case a3 => k_is)
      (case l3 => k_is)
      (case c3 => k_is)
      (case k3 => k_is)
      (case a4 => k_is)
      (case l4 => k_is)
      (case c4 => k_is)
      (case k4 => k_is)
      (case a5 => k_is)
      (case l5 => k_is)
      (case c5 => k_is)
      (case k5 => k_is)
      (case a6 => k_is)
      (case l6 => k_is)
      (case c6 => k_is)
      (case k6 => k_is)
      (case a7 => k_is)
      (case l7 => k_is)
      (case c7 => k_is)
      (case k7 => k_is)
      (case a8 => k_is)
      (case l8 => k_is)
      (case c8 => k_is)
      (case k8 => k_is)
      (case a9 => k_is)
      (case l9 => k_is)
      (case c9 => k_is)
      (case k9 => k_is)
      (case a10 => k_is)
      (case l10 => k_is)
      (case c10 => k_is)
      (case k10 => k_is)
      (case a11 => k_is)
      (case l11 => k_is)
      (case c11 => k_is)
      (case k11 => k_is)
      (case a12 => k_is)
      (case l12 => k_is)
      (case c12 => k_is)
      (case k12 => k_is)
      (case a13 => k_is)
      (case l13 => k_is)
      (case c13 => k_is)
      (case k13 => k_is)
      (case a14 => k_is)
      (case l14 => k_is)
      (case c14 => k_is)
      (case k14 => k_is)
      (case a15 => k_is)
      (case l15 => k_is)
      (case c15 => k_is)
      (case k15 => k_is)
      (case a16 => k_is)
      (case l16 => k_is)
      (case c16 => k_is)
      (case k16 => k_is)
      (case a17 => k_is)
      (case l17 => k_is)
      (case c17 => k_is)
      (case k17 => k_is)
      (case a18 => k_is)
      (case l18 => k_is)
      (case c18 => k_is)
      (case k18 => k_is)
      (case a19 => k_is)
      (case l19 => k_is)
      (case c19 => k_is)
      (case k19 => k_is)
      (case a20 => k_is)
      (case l20 => k_is)
      (case c20 => k_is)
      (case k20 => k_is)
      (case a21 => k_is)
      (case l21 => k_is)
      (case c21 => k_is)
      (case k21 => k_is)
      (case a22 => k_is)
      (case l22 => k_is)
      (case c22 => k_is)
      (case k22 => k_is)
      (case a23 => k_is)
      (case l23 => k_is)
      (case c23 => k_is)
      (case k23 => k_is)
      (case z_ValueError => k_is)
      (case z_enumerate => k_is)
      (case z_isinstance => k_is)
      (case z_len => k_is)
      (case z_list => k_is)
      (case z_max => k_is)
      (case z_range => k_is)
      (case z_reversed => k_is)
      (case z_str => k_is)
      (case z_tuple => k_is)
      (case c_MOST_NODES => k_is)
      (case c_MOST_DEEP => k_is)
      (case e_LeafError => k_exc)
      (case e_TooGreat => k_exc)
      (case xga_TooGreat => k_is)
      (case xgt_TooGreat => k_is)
      (case xca_TooGreat => k_is)
      (case xsp_TooGreat => k_is)
      (case xtk_TooGreat => k_is)
      (case xmo_TooGreat => k_is)
      (case xmb_TooGreat => k_is)
      (case u_TooGreat_LeafError => k_is)
      (case u_TooGreat_NoName => k_is)
      (case i_TooGreat_0 => kit_is)
      (case i_TooGreat_1 => kit_is)
      (case i_TooGreat_2 => kit_is)
      (case i_TooGreat_3 => kit_is)
      (case e_NoName => k_exc)
      (case xga_NoName => k_is)
      (case xgt_NoName => k_is)
      (case xca_NoName => k_is)
      (case xsp_NoName => k_is)
      (case xtk_NoName => k_is)
      (case xmo_NoName => k_is)
      (case xmb_NoName => k_is)
      (case u_NoName_LeafError => k_is)
      (case u_NoName_NoName => k_is)
      (case i_NoName_0 => kit_is)
      (case i_NoName_1 => kit_is)
      (case i_NoName_2 => kit_is)
      (case i_NoName_3 => kit_is)
      (case e_NoTree => k_exc)
      (case xga_NoTree => k_is)
      (case xgt_NoTree => k_is)
      (case xca_NoTree => k_is)
      (case xsp_NoTree => k_is)
      (case xtk_NoTree => k_is)
      (case xmo_NoTree => k_is)
      (case xmb_NoTree => k_is)
      (case u_NoTree_LeafError => k_is)
      (case u_NoTree_NoName => k_is)
      (case i_NoTree_0 => kit_is)
      (case i_NoTree_1 => kit_is)
      (case i_NoTree_2 => kit_is)
      (case i_NoTree_3 => kit_is)
    obtain ⟨T, TX⟩ := T
    have e0 := hmg.symm.trans TX.m_law
    cases e0
    obtain ⟨oc, od, kV, doc, pm, an, cdv, ct, osl, efd, _, _⟩ := TX.F_law.ex
    refine ⟨T.d_law, fun s u => ?_, fun base _ _ => K22.ok_law TX⟩
    rw [efd]
    exact .of_eq rfl
