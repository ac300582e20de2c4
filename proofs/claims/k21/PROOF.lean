import PyProof.Rows.All
import Wide.All
import OpenK.AllK
import Wide.FinOn
import Lean
import PyProof.EqAt
import PyProof.EqKinds
import PyProof.TupleCall
import PyProof.Rows.StrCountLaw
import PyProof.Rows.StrFirst
import PyProof.Rows.StrLast
import PyProof.Rows.StrNews2
import PyProof.Rows.StrSplitCount
import PyProof.StrBlockI
import PyProof.StrLawsIn
import PyProof.StrLawsLast
import PyProof.EnumMake
import PyProof.FString
import PyProof.ReprStr
import PyProof.StrLawsRepr
import PyProof.ListStr
import PySem.Challenge.RW_grooveway_k21_whole_in_order
set_option Elab.async false
set_option linter.all false
set_option maxRecDepth 100000
set_option maxHeartbeats 4000000
/-! THE HAND LAYER, for ints, bools, texts, own classes, LISTS and tuples (index, slices, in, append, pop ..), calls, loops. Paste it whole ahead of your own text; what your proof does not reach may be deleted. -/
namespace L2
open PySem PySem.Spec PyProof.Rows

/-- a key: an int or a str -/
abbrev Key := Sum Int Str
def keyIs : Key → Value → Bool
  | .inl k, v => Value.isInt k v
  | .inr x, v => Value.isStrOf x v
def keyH (w : World) : Key → Int
  | .inl k => hashInt k
  | .inr x => hashStr w x
theorem keyIs_shape : ∀ {k : Key} {v : Value}, keyIs k v = true → (∃ i t, k = Sum.inl i ∧ v = Value.int i t) ∨ (∃ x t, k = Sum.inr x ∧ v = Value.str x t)
  | .inl i, v, h => by
    obtain ⟨t, e⟩ := Value.isInt_shape (k := i) (v := v) h
    exact .inl ⟨i, t, rfl, e⟩
  | .inr x, v, h => by
    obtain ⟨t, e⟩ := Value.isStrOf_shape (x := x) (v := v) h
    exact .inr ⟨x, t, rfl, e⟩
theorem keyIs_int (i : Int) (t : Tok) : keyIs (.inl i) (.int i t) = true := by simp [keyIs, Value.isInt]
theorem keyIs_str (x : Str) (t : Tok) : keyIs (.inr x) (.str x t) = true := by simp [keyIs, Value.isStrOf]
theorem key_ll (a b : Int) : decide ((Sum.inl a : Key) = Sum.inl b) = (a == b) := by
  by_cases e : a = b
  · subst e; simp
  · have h : ¬ (Sum.inl a : Key) = Sum.inl b := fun q => e (Sum.inl.inj q)
    rw [decide_eq_false h]
    exact (beq_eq_false_iff_ne.mpr e).symm
theorem key_rr (a b : Str) : decide ((Sum.inr a : Key) = Sum.inr b) = decide (a = b) := by
  by_cases e : a = b
  · subst e; simp
  · have h : ¬ (Sum.inr a : Key) = Sum.inr b := fun q => e (Sum.inr.inj q)
    rw [decide_eq_false h, decide_eq_false e]
theorem key_lr (a : Int) (b : Str) : decide ((Sum.inl a : Key) = Sum.inr b) = false := decide_eq_false (fun q => nomatch q)
theorem key_rl (a : Str) (b : Int) : decide ((Sum.inr a : Key) = Sum.inl b) = false := decide_eq_false (fun q => nomatch q)

def mixKind (prog : Program) (w : World) : PySem.KeyKind prog w Key where
  is := keyIs
  hash := keyH w
  inj := fun v a b ha hb => by
    rcases keyIs_shape ha with ⟨i, t, rfl, rfl⟩ | ⟨x, t, rfl, rfl⟩
    · rcases keyIs_shape hb with ⟨j, u, rfl, e⟩ | ⟨y, u, rfl, e⟩
      · injection e with e1 _; rw [e1]
      · exact nomatch e
    · rcases keyIs_shape hb with ⟨j, u, rfl, e⟩ | ⟨y, u, rfl, e⟩
      · exact nomatch e
      · injection e with e1 _; rw [e1]
  byValue := fun k v h => by
    rcases keyIs_shape h with ⟨i, t, rfl, rfl⟩ | ⟨x, t, rfl, rfl⟩ <;> rfl
  pyHash := fun hv h => by
    rcases keyIs_shape hv with ⟨i, t, rfl, rfl⟩ | ⟨x, t, rfl, rfl⟩
    · exact wpAny_pyHash_int h
    · exact wpAny_pyHash_str h
  eqBool := fun hu hv h => by
    rcases keyIs_shape hu with ⟨i, t, rfl, rfl⟩ | ⟨x, t, rfl, rfl⟩
    · rcases keyIs_shape hv with ⟨j, u, rfl, rfl⟩ | ⟨y, u, rfl, rfl⟩
      · rw [key_ll] at h; exact wpAny_eqBool_int h
      · rw [key_lr] at h; exact SeqAt.EqAt.int_str i t y u _ _ _ _ h
    · rcases keyIs_shape hv with ⟨j, u, rfl, rfl⟩ | ⟨y, u, rfl, rfl⟩
      · rw [key_rl] at h; exact SeqAt.EqAt.str_int x t j u _ _ _ _ h
      · rw [key_rr] at h; exact wpAny_eqBool_str h
  «strs» := fun k x t v h => by
    rcases keyIs_shape h with ⟨i, u, rfl, e⟩ | ⟨y, u, rfl, e⟩
    · exact nomatch e
    · injection e with e1 _
      subst e1
      cases v <;> rfl

theorem mixKind_int (prog : Program) (w : World) (i : Int) (t : Tok) : (mixKind prog w).is (.inl i) (.int i t) = true := keyIs_int i t
theorem mixKind_str (prog : Program) (w : World) (x : Str) (t : Tok) : (mixKind prog w).is (.inr x) (.str x t) = true := keyIs_str x t
end L2

namespace L2
open PySem PySem.Spec PyProof.Rows

/-- a value, without the heap -/
inductive V where
  | non | bl (b : Bool) | int (i : Int) | str (x : Str) | byt (b : Array UInt8) | flt (b : UInt64) | ref (a : Addr) | ty (n : String)
  deriving DecidableEq

def RelV : V → Value → Prop
  | .non, u => u = Value.none
  | .bl b, u => u = Value.bool b
  | .int i, u => ∃ t, u = Value.int i t
  | .str x, u => ∃ t, u = Value.str x t
  | .byt b, u => ∃ t, u = Value.bytes b t
  | .flt b, u => ∃ t, u = Value.float b t
  | .ref a, u => u = Value.ref a
  | .ty n, u => u = Value.type n

abbrev Vals : List V → List Value → Prop := Paired RelV
theorem Vals.length {xs : List V} {us : List Value} (r : Vals xs us) : xs.length = us.length := Paired.length r
theorem Vals.get : ∀ {xs : List V} {us : List Value} {i : Nat} {x : V}, Vals xs us → xs[i]? = some x → ∃ u, us[i]? = some u ∧ RelV x u
  | _, _, _, _, .nil, e => by simp at e
  | _, _, 0, _, .cons r _, e => by simp at e; subst e; exact ⟨_, rfl, r⟩
  | _, _, i + 1, x, .cons _ t, e => by
    obtain ⟨u, h1, h2⟩ := Vals.get (i := i) (x := x) t (by simpa using e)
    exact ⟨u, by simpa using h1, h2⟩
theorem Vals.set {x : V} {u : Value} (r : RelV x u) : ∀ {xs : List V} {us : List Value} (i : Nat), Vals xs us → Vals (xs.set i x) (us.set i u)
  | _, _, _, .nil => .nil
  | _, _, 0, .cons _ t => .cons r t
  | _, _, i + 1, .cons q t => .cons q (Vals.set r i t)
theorem Vals.append : ∀ {xs ys : List V} {us ws : List Value}, Vals xs us → Vals ys ws → Vals (xs ++ ys) (us ++ ws)
  | _, _, _, _, .nil, s => s
  | _, _, _, _, .cons r t, s => .cons r (Vals.append t s)
theorem Vals.take : ∀ {xs : List V} {us : List Value} (n : Nat), Vals xs us → Vals (xs.take n) (us.take n)
  | _, _, 0, _ => .nil
  | _, _, _ + 1, .nil => .nil
  | _, _, n + 1, .cons r t => .cons r (Vals.take n t)
theorem Vals.drop : ∀ {xs : List V} {us : List Value} (n : Nat), Vals xs us → Vals (xs.drop n) (us.drop n)
  | _, _, 0, r => r
  | _, _, _ + 1, .nil => .nil
  | _, _, n + 1, .cons _ t => Vals.drop n t
def RelO : Option V → Option Value → Prop
  | some v, some u => RelV v u
  | none, none => True
  | _, _ => False
def KV {κ : Type} : List (κ × V) → List (κ × Value) → Prop := Paired fun (p : κ × V) (q : κ × Value) => p.1 = q.1 ∧ RelV p.2 q.2

/-- a key of a dict (00_mix): an int or a text -/
def kV : Key → V
  | .inl i => .int i
  | .inr x => .str x

/-- what stands at a tracked address -/
inductive HO where
  /-- a list -/
  | lst (xs : List V)
  /-- a tuple (never changes) -/
  | tup (xs : List V)
  /-- a dict whose keys are ints and texts; one whose keys are tuples of ints and texts (the empty one is both) -/
  | dK (kvs : List (Key × V)) | dT (kvs : List (List Key × V))
  /-- a set of ints: its members, its size -/
  | set (S : Int → Bool) (n : Nat)
  /-- an instance of the class at C, its dict at dx, its attributes -/
  | ins (C dx : Addr) (fs : List (Str × V))
  /-- the dict of the instance at x -/
  | own (x : Addr)
  /-- the dict of an exception -/
  | xd (fs : List (Str × V))
  /-- a bound method, f of x -/
  | met (f x : Addr)
  /-- a range object lo, lo + 1, .. below hi -/
  | rng (lo hi : Int)
  /-- a thing that is known to the object (the script; a dict while a loop walks it): read, never written while it is so -/
  | frz (o : Obj) (u : HO)
  /-- a code object's table -/
  | tbl (ps : Array Value)
  /-- any other thing, by what is true of its one object (a def of one's own: SetO a S n := HO.ext fun h => ..) -/
  | ext (φ : Heap → Prop)

abbrev Hp := Addr → Option HO
def upd (H : Hp) (a : Addr) (o : HO) : Hp := fun b => if b = a then some o else H b
theorem upd_same {H : Hp} {a : Addr} {o : HO} : upd H a o a = some o := by unfold upd; rw [if_pos rfl]
theorem upd_ne {H : Hp} {a b : Addr} {o : HO} (h : b ≠ a) : upd H a o b = H b := by unfold upd; rw [if_neg h]
/-- two objects of different content stand apart -/
theorem ne_of {H : Hp} {a b : Addr} {o u : HO} (h : H a = some o) (h' : H b = some u) (d : o ≠ u) : a ≠ b := by
  intro e; subst e; rw [h] at h'; exact d (Option.some.inj h')
theorem ne_of_none {H : Hp} {a b : Addr} {o : HO} (h : H a = some o) (h' : H b = none) : a ≠ b := by
  intro e; subst e; rw [h] at h'; cases h'

section
variable (P : Program) (w : World)
def ObjOk (H : Hp) (h : Heap) (a : Addr) : HO → Prop
  | .lst xs => xs.length ≤ sizeLine ∧ ∃ (its : List Value) (n : Nat), Vals xs its ∧ h.get? a = some { cls := .type "list", data := .seq its.toArray n }
  | .tup xs => xs.length ≤ sizeLine ∧ ∃ its : List Value, Vals xs its ∧ IsTup h a its.toArray
  | .dK kvs => kvs.length ≤ sizeLine ∧ (a == sysModules) = false ∧ ∃ vs, KV kvs vs ∧ h.DictOf (mixKind P w) a vs
  | .dT kvs => kvs.length ≤ sizeLine ∧ (a == sysModules) = false ∧ ∃ xs : List (List Key × Addr × Value),
      Paired (fun (p : List Key × V) (q : List Key × Addr × Value) => p.1 = q.1 ∧ H q.2.1 = some (.tup (p.1.map kV)) ∧ RelV p.2 q.2.2) kvs xs ∧
      ∃ o es ep, h.get? a = some o ∧ o.ExactDict ∧ o.data = .dict es ep ∧ es.toList = xs.map (entryOfKey (tupleKind (mixKind P w))) ∧ (xs.map (·.1)).Nodup
  | .set S n => h.SetOf (intKind P w) a S n
  | .ins C dx fs => H dx = some (.own a) ∧ fs.length ≤ 1000 ∧ dx ≠ a ∧ h.get? a = some (PySem.W.instObj C dx) ∧
      ∃ mA, h.Ns1 dx mA ∧ (∀ f, RelO (fs.lookup f) (mA f)) ∧ PySem.Within mA (fs.map (·.1))
  | .own _ => ∃ o, h.get? a = some o
  | .xd fs => ∃ mA, h.Ns1 a mA ∧ ∀ f, RelO (fs.lookup f) (mA f)
  | .rng lo hi => ∃ t u v, h.get? a = some { cls := .type "range", data := .fields #[.int lo t, .int hi u, .int 1 v] }
  | .frz o u => h.get? a = some o ∧ ObjOk H h a u
  | .tbl ps => h.get? a = some { cls := .none, data := .fields ps }
  | .met f x => h.get? a = some (PySem.W.methodObj (.ref f) (.ref x))
  | .ext φ => φ h ∧ (∃ o, h.get? a = some o) ∧ ∀ h1 h2 : Heap, φ h1 → (∀ o, h1.get? a = some o → h2.get? a = some o) → φ h2
/-- the abstract heap is held -/
def HOk (H : Hp) (h : Heap) : Prop := ∀ a o, H a = some o → ObjOk P w H h a o
end

section
variable {P : Program} {w : World} {H H' : Hp} {h h' : Heap} {a : Addr} {o : HO}
theorem ObjOk.lt (x : ObjOk P w H h a o) : a < h.objs.size := by
  cases o with
  | lst xs => obtain ⟨_, _, _, _, e⟩ := x; exact Heap.lt_size e
  | tup xs => obtain ⟨_, _, _, p⟩ := x; exact p.lt
  | dK kvs => obtain ⟨_, _, _, _, o, _, _, e, _⟩ := x; exact Heap.lt_size e
  | dT kvs => obtain ⟨_, _, _, _, o, _, _, e, _⟩ := x; exact Heap.lt_size e
  | set S n => obtain ⟨o, _, _, _, e, _⟩ := x; exact Heap.lt_size e
  | ins C dx fs => obtain ⟨_, _, _, e, _⟩ := x; exact Heap.lt_size e
  | own y => obtain ⟨_, e⟩ := x; exact Heap.lt_size e
  | xd fs => obtain ⟨_, ⟨_, _, _, e, _⟩, _⟩ := x; exact Heap.lt_size e
  | rng lo hi => obtain ⟨_, _, _, e⟩ := x; exact Heap.lt_size e
  | frz ob u => obtain ⟨e, _⟩ := x; exact Heap.lt_size e
  | tbl ps => exact Heap.lt_size (show h.get? a = some _ from x)
  | met f y => exact Heap.lt_size (show h.get? a = some _ from x)
  | ext φ => obtain ⟨_, ⟨_, e⟩, _⟩ := x; exact Heap.lt_size e
theorem Paired.mapP {α β : Type} {F G : α → β → Prop} : ∀ {l₁ : List α} {l₂ : List β}, Paired F l₁ l₂ → (∀ a b, F a b → G a b) → Paired G l₁ l₂
  | _, _, .nil, _ => .nil
  | _, _, .cons r t, f => .cons (f _ _ r) (Paired.mapP t f)
/-- what an object's description leans on: its own object, its own dict, the tuples -/
theorem ObjOk.stay (x : ObjOk P w H h a o) (k : ∀ b u, (b = a ∨ H b = some (.own a)) → h.get? b = some u → h'.get? b = some u)
    (ho : ∀ b, H b = some (.own a) → H' b = some (.own a)) (ht : ∀ b xs, H b = some (.tup xs) → H' b = some (.tup xs)) : ObjOk P w H' h' a o := by
  induction o with
  | lst xs => obtain ⟨z, its, n, r, e⟩ := x; exact ⟨z, its, n, r, k _ _ (.inl rfl) e⟩
  | tup xs => obtain ⟨z, its, r, ob, e, c⟩ := x; exact ⟨z, its, r, ob, k _ _ (.inl rfl) e, c⟩
  | dK kvs => obtain ⟨z, y, vs, r, ob, es, ep, e, c⟩ := x; exact ⟨z, y, vs, r, ob, es, ep, k _ _ (.inl rfl) e, c⟩
  | dT kvs =>
    obtain ⟨z, y, xs, r, ob, es, ep, e, c⟩ := x
    exact ⟨z, y, xs, Paired.mapP r fun p q z => ⟨z.1, ht _ _ z.2.1, z.2.2⟩, ob, es, ep, k _ _ (.inl rfl) e, c⟩
  | set S n => obtain ⟨ob, es, ep, t, e, c⟩ := x; exact ⟨ob, es, ep, t, k _ _ (.inl rfl) e, c⟩
  | ins C dx fs =>
    obtain ⟨d, z, ne, e, mA, ⟨od, es, ep, e2, c⟩, r⟩ := x
    exact ⟨ho _ d, z, ne, k _ _ (.inl rfl) e, mA, ⟨od, es, ep, k _ _ (.inr d) e2, c⟩, r⟩
  | own y => obtain ⟨ob, e⟩ := x; exact ⟨ob, k _ _ (.inl rfl) e⟩
  | xd fs => obtain ⟨mA, ⟨od, es, ep, e, c⟩, r⟩ := x; exact ⟨mA, ⟨od, es, ep, k _ _ (.inl rfl) e, c⟩, r⟩
  | rng lo hi => obtain ⟨t, u, v, e⟩ := x; exact ⟨t, u, v, k _ _ (.inl rfl) e⟩
  | frz ob u ih => obtain ⟨e, q⟩ := x; exact ⟨k _ _ (.inl rfl) e, ih q⟩
  | tbl ps =>
    have e : h.get? a = some { cls := .none, data := .fields ps } := x
    show h'.get? a = some { cls := .none, data := .fields ps }
    exact k a _ (.inl rfl) e
  | met f y =>
    have e : h.get? a = some (PySem.W.methodObj (.ref f) (.ref y)) := x
    show h'.get? a = some (PySem.W.methodObj (.ref f) (.ref y))
    exact k a _ (.inl rfl) e
  | ext φ => obtain ⟨p, ⟨o, e⟩, st⟩ := x; exact ⟨st _ _ p fun o q => k _ _ (.inl rfl) q, ⟨o, k _ _ (.inl rfl) e⟩, st⟩
theorem HOk.lt (x : HOk P w H h) (e : H a = some o) : a < h.objs.size := (x a o e).lt
theorem HOk.fresh (x : HOk P w H h) (e : h.objs.size ≤ a) : H a = none := by
  cases q : H a with
  | none => rfl
  | some u => exact absurd (Nat.lt_of_lt_of_le (x.lt q) e) (Nat.lt_irrefl _)
/-- every object of the heap is kept -/
theorem HOk.kept (x : HOk P w H h) (k : ∀ b u, h.get? b = some u → h'.get? b = some u) : HOk P w H h' := fun a o e =>
  (x a o e).stay (fun b u _ q => k b u q) (fun _ q => q) fun _ _ q => q
/-- a new object is laid and tracked -/
theorem HOk.laid (x : HOk P w H h) (k : ∀ b u, h.get? b = some u → h'.get? b = some u) (hp : h.objs.size ≤ a) (new : ObjOk P w (upd H a o) h' a o) : HOk P w (upd H a o) h' := fun b u e => by
  have hn := x.fresh hp
  by_cases hb : b = a
  · subst hb; rw [upd_same] at e; cases e; exact new
  · rw [upd_ne hb] at e
    exact (x b u e).stay (fun c v _ q => k c v q) (fun c q => by rw [upd_ne (ne_of_none q hn)]; exact q) fun c xs q => by rw [upd_ne (ne_of_none q hn)]; exact q
end

/-- what may be read as u: it is u, or a known u -/
def Rd (H : Hp) (a : Addr) (u : HO) : Prop := H a = some u ∨ ∃ o, H a = some (.frz o u)
theorem Rd.of {H : Hp} {a : Addr} {u : HO} (h : H a = some u) : Rd H a u := .inl h
theorem Rd.ok {P : Program} {w : World} {H : Hp} {h : Heap} {a : Addr} {u : HO} (r : Rd H a u) (x : HOk P w H h) : ObjOk P w H h a u := by
  rcases r with r | ⟨o, r⟩
  · exact x a u r
  · obtain ⟨_, q⟩ := x a _ r
    exact q
/-- what may be written -/
def Mut : Option HO → Prop
  | some (.lst _) => True
  | some (.dK _) => True
  | some (.dT _) => True
  | some (.set _ _) => True
  | some (.ins _ _ _) => True
  | some (.ext _) => True
  | _ => False
section
variable {P : Program} {w : World} {H : Hp} {h h' : Heap} {x e : Addr} {o' : HO}
/-- the object at e is changed: x itself, or the dict of the instance x -/
theorem HOk.write (ok : HOk P w H h) (mu : Mut (H x)) (he : e = x ∨ H e = some (.own x)) (k : ∀ b u, b ≠ e → h.get? b = some u → h'.get? b = some u) (heo : ∃ u, h'.get? e = some u)
    (new : ObjOk P w (upd H x o') h' x o') : HOk P w (upd H x o') h' := fun b u q => by
  have nown : ∀ c y, H c = some (.own y) → c ≠ x := fun c y r z => by subst z; rw [r] at mu; exact mu
  have ntup : ∀ c xs, H c = some (.tup xs) → c ≠ x := fun c xs r z => by subst z; rw [r] at mu; exact mu
  by_cases hb : b = x
  · subst hb; rw [upd_same] at q; cases q; exact new
  · rw [upd_ne hb] at q
    by_cases hbe : b = e
    · have q' : H b = some (.own x) := by
        rcases he with z | z
        · exact absurd (hbe.trans z) hb
        · rw [hbe]; exact z
      rw [q] at q'; cases q'
      obtain ⟨v, hv⟩ := heo
      exact ⟨v, by rw [hbe]; exact hv⟩
    · refine (ok b u q).stay (fun c v hc r => k c v ?_ r) (fun c r => by rw [upd_ne (nown c b r)]; exact r) fun c xs r => by rw [upd_ne (ntup c xs r)]; exact r
      rcases hc with rfl | hc
      · exact hbe
      · rintro rfl
        rcases he with z | z
        · exact nown c b hc z
        · rw [hc] at z; cases z; exact hb rfl
end

/-! ### kept unless tracked; of the frames at fs (the callers') the slots may change (an exception that passes writes there); of the records at ex (iterators) nothing is said -/
structure Un (fs ex : List Addr) (H H' : Hp) (h h' : Heap) : Prop where
  keep : ∀ b o, h.get? b = some o → H b = none → b ∉ fs → b ∉ ex → h'.get? b = some o
  slot : ∀ b o, h.get? b = some o → H b = none → b ∈ fs → b ∉ ex → ∃ sl, h'.get? b = some { o with slots := sl }
  free : ∀ b o, h.get? b = some o → H b = none → b ∉ ex → H' b = none
  there : ∀ b o, h.get? b = some o → b ∉ ex → ∃ o', h'.get? b = some o'
  tups : ∀ b xs, H b = some (.tup xs) → H' b = some (.tup xs)
  frzs : ∀ b o u, H b = some (.frz o u) → H' b = some (.frz o u)
  tbls : ∀ b ps, H b = some (.tbl ps) → ∃ more, H' b = some (.tbl (ps ++ more))
section
variable {fs fs' ex ex' : List Addr} {H H1 H2 : Hp} {h h1 h2 h' : Heap} {a x e : Addr} {o : HO}
theorem Un.any (u : Un fs ex H H1 h h1) {b : Addr} {ob : Obj} (q : h.get? b = some ob) (n : H b = none) (hx : b ∉ ex) : ∃ sl, h1.get? b = some { ob with slots := sl } := by
  by_cases hb : b ∈ fs
  · exact u.slot b ob q n hb hx
  · exact ⟨ob.slots, u.keep b ob q n hb hx⟩
theorem Un.trans (a : Un fs ex H H1 h h1) (b : Un fs ex H1 H2 h1 h2) : Un fs ex H H2 h h2 where
  keep := fun c ob q n hc hx => b.keep c ob (a.keep c ob q n hc hx) (a.free c ob q n hx) hc hx
  slot := fun c ob q n hc hx => by
    obtain ⟨sl, e1⟩ := a.slot c ob q n hc hx
    obtain ⟨sl', e2⟩ := b.slot c _ e1 (a.free c ob q n hx) hc hx
    exact ⟨sl', e2⟩
  free := fun c ob q n hx => by
    obtain ⟨o', e1⟩ := a.there c ob q hx
    exact b.free c o' e1 (a.free c ob q n hx) hx
  there := fun c ob q hx => by
    obtain ⟨o', e1⟩ := a.there c ob q hx
    exact b.there c o' e1 hx
  tups := fun c xs q => b.tups c xs (a.tups c xs q)
  frzs := fun c ob xs q => b.frzs c ob xs (a.frzs c ob xs q)
  tbls := fun c ps q => by
    obtain ⟨m1, e1⟩ := a.tbls c ps q
    obtain ⟨m2, e2⟩ := b.tbls c _ e1
    exact ⟨m1 ++ m2, by rw [e2, Array.append_assoc]⟩
theorem Un.kept (k : ∀ b u, h.get? b = some u → h'.get? b = some u) : Un fs ex H H h h' :=
  ⟨fun b ob q _ _ _ => k b ob q, fun b ob q _ _ _ => ⟨ob.slots, k b ob q⟩, fun _ _ _ n _ => n, fun b ob q _ => ⟨ob, k b ob q⟩, fun _ _ q => q, fun _ _ _ q => q, fun _ ps q => ⟨#[], by rw [q]; simp⟩⟩
theorem Un.refl : Un fs ex H H h h := Un.kept fun _ _ q => q
theorem Un.laid (k : ∀ b u, h.get? b = some u → h'.get? b = some u) (hp : h.objs.size ≤ a) (hn : H a = none) : Un fs ex H (upd H a o) h h' where
  keep := fun b u q _ _ _ => k b u q
  slot := fun b u q _ _ _ => ⟨u.slots, k b u q⟩
  free := fun b u q n _ => by rw [upd_ne (Nat.ne_of_lt (Nat.lt_of_lt_of_le (Heap.lt_size q) hp))]; exact n
  there := fun b u q _ => ⟨u, k b u q⟩
  tups := fun b xs q => by rw [upd_ne (ne_of_none q hn)]; exact q
  frzs := fun b u xs q => by rw [upd_ne (ne_of_none q hn)]; exact q
  tbls := fun b ps q => ⟨#[], by rw [upd_ne (ne_of_none q hn), q]; simp⟩
theorem Un.write (mu : Mut (H x)) (he : e = x ∨ H e = some (.own x)) (k : ∀ b u, b ≠ e → h.get? b = some u → h'.get? b = some u) (heo : ∃ u, h'.get? e = some u) : Un fs ex H (upd H x o) h h' := by
  have hx : ∀ b, H b = none → b ≠ x := fun b n z => by subst z; rw [n] at mu; exact mu
  have hb : ∀ b, H b = none → b ≠ e := fun b n z => by
    subst z
    rcases he with r | r
    · exact hx b n r
    · rw [n] at r; cases r
  have hm : ∀ b u, H b = some u → ¬ Mut (some u) → b ≠ x := fun b u q nm z => by subst z; rw [q] at mu; exact nm mu
  refine ⟨fun b u q n _ _ => k b u (hb b n) q, fun b u q n _ _ => ⟨u.slots, k b u (hb b n) q⟩, fun b u q n _ => by rw [upd_ne (hx b n)]; exact n, fun b u q _ => ?_,
    fun b xs q => by rw [upd_ne (hm b _ q fun z => z)]; exact q, fun b u xs q => by rw [upd_ne (hm b _ q fun z => z)]; exact q, fun b ps q => ⟨#[], by rw [upd_ne (hm b _ q fun z => z), q]; simp⟩⟩
  by_cases hbe : b = e
  · subst hbe; exact heo
  · exact ⟨u, k b u hbe q⟩
theorem Un.mono (u : Un fs ex H H1 h h1) (hs : ∀ b ∈ fs, b ∈ fs') (hx : ∀ b ∈ ex, b ∈ ex') : Un fs' ex' H H1 h h1 :=
  ⟨fun b ob q n hb he => u.keep b ob q n (fun z => hb (hs b z)) fun z => he (hx b z), fun _ _ q n _ he => u.any q n fun z => he (hx _ z), fun b ob q n he => u.free b ob q n fun z => he (hx b z), fun b ob q he => u.there b ob q fun z => he (hx b z), u.tups, u.frzs, u.tbls⟩
end

/-! ### the heap without what is tracked -/
def trk (h : Heap) (H : Hp) : List Addr := (List.range h.objs.size).filter fun a => (H a).isSome
def hidT (h : Heap) (H : Hp) : Heap := PySem.W.hideAll h (trk h H)
theorem hidT_size (h : Heap) (H : Hp) : (hidT h H).objs.size = h.objs.size := PySem.W.hideAll_size _ _
theorem hidT_get {h : Heap} {H : Hp} {b : Addr} {o : Obj} (e : h.get? b = some o) (n : H b = none) : (hidT h H).get? b = some o :=
  PySem.W.hideAll_get _ e fun hm => by
    have q : (H b).isSome = true := (List.mem_filter.mp hm).2
    rw [n] at q; simp at q
theorem of_hidT {h : Heap} {H : Hp} {b : Addr} {o : Obj} (e : (hidT h H).get? b = some o) : h.get? b = some o ∧ H b = none := by
  have e' : h.get? b = some o := PySem.W.of_hideAll (trk h H) e
  refine ⟨e', ?_⟩
  cases q : H b with
  | none => rfl
  | some x =>
    have hm : b ∈ trk h H := List.mem_filter.mpr ⟨List.mem_range.mpr (Heap.lt_size e'), by simp [q]⟩
    have z : (hidT h H).get? b = none := PySem.W.hideAll_none (trk h H) hm
    rw [z] at e; cases e

/-! ### OpenK's ledger, filled with every new object but one -/
def allNews (g h : Heap) (L : Addr) : List (Addr × Obj) := (List.range h.objs.size).filterMap fun a => if a = L ∨ (g.get? a).isSome = true then none else (h.get? a).map fun o => (a, o)
def rest (g h : Heap) (L d : Addr) : List (Addr × Obj) := (allNews g h L).filter fun p => decide (p.1 ≠ d)
end L2

namespace L2
open PySem PySem.Spec PyProof.Rows

/-- the module's facts, over the base: the heap at the law's entry without what is tracked there -/
structure Mod (K : PySem.W.Frag) (mg : Str → Option Value) (base : Heap) : Prop where
  kin : K.In base
  glob : base.Ns mainGlobals mg
  blt : ∃ mb, base.Ns builtinsNs mb ∧ ∀ x : Str, x ≠ "__name__" → mb x = bootBuiltins x
  nolimit : base.NoLimit

/-- the context: a def's body (or a comprehension's block) running. base: fixed through the whole law; s₀, H₀: the entry; outer: the frames whose slots others may change (a def's callers); stack: all frames that run;
   ex: iterators that were made ahead of the entry and are walked here (a comprehension's); fn: the names whose cells were made at the entry (a def: all; a comprehension's block: its own); calm: not within an except suite; pn: pins that every state bears; xe: what is wanted of an exception that leaves the code -/
structure Cx where
  prog : Program
  w : World
  K : PySem.W.Frag
  mg : Str → Option Value
  base : Heap
  A : Around
  N : List Str
  s₀ : Shared
  H₀ : Hp
  env : Env
  outer : List Env
  stack : List Env
  ex : List Addr
  fn : Str → Bool
  calm : Bool
  pn : List (Addr × Obj)
  xe : Value → Shared → Prop
/-- the callers' frames -/
def frs (l : List Env) : List Addr := l.filterMap (·.frame)
abbrev Cx.fs (X : Cx) : List Addr := frs X.outer

def Vis (sc : Scope) (x : Str) : Prop := sc.names.lookup x = some .local ∨ sc.names.lookup x = some .cell ∨ sc.names.lookup x = some .free
def Loc (sc : Scope) (x : Str) : Prop := sc.names.lookup x = some .local ∨ sc.names.lookup x = some .cell
def Look (env : Env) (h : Heap) (m : Str → Option Value) (x : Str) (u : Value) : Prop :=
  (env.kindOf x = some .local ∧ m x = some u) ∨ ((env.kindOf x = some .cell ∨ env.kindOf x = some .free) ∧ ∃ c, env.cells.lookup x = some c ∧ h.IsCell c (some u))

structure Cx.Ok (X : Cx) : Prop where
  mod : Mod X.K X.mg X.base
  kind : X.env.scope.kind = .function
  glob : X.env.globals = mainGlobals
  blt : X.env.builtins = builtinsNs
  above : X.s₀.heap.objs.size ≤ X.env.locals
  inj : ∀ x y c, X.env.cells.lookup x = some c → X.env.cells.lookup y = some c → x = y
  has : ∀ x, (X.env.kindOf x = some .cell ∨ X.env.kindOf x = some .free) → ∃ c, X.env.cells.lookup x = some c
  cab : ∀ x c, X.fn x = true → X.env.cells.lookup x = some c → X.s₀.heap.objs.size ≤ c
  hd : X.calm = true → X.A.handled = none
  frames : X.A.frames = some X.stack
  stk : X.stack = X.outer ∨ (X.stack = X.env :: X.outer ∧ X.env.frame = some X.env.locals)
  exf : ∀ b ∈ X.ex, b ≠ X.env.locals ∧ ∀ x c, X.env.cells.lookup x = some c → c ≠ b
  bs : ∀ b o, X.base.get? b = some o → X.s₀.heap.get? b = some o ∧ X.H₀ b = none
  bsz : X.base.objs.size ≤ X.s₀.heap.objs.size
  noex : ∀ b o, X.base.get? b = some o → b ∉ X.ex
  exfs : ∀ b ∈ X.ex, b ∉ X.fs
  funs : X.s₀.heap.FunFrames X.base X.outer
  frf : ∀ b ∈ X.fs, X.H₀ b = none

structure Inv (X : Cx) (pins : List (Addr × Obj)) (σ : List (Option V)) (H : Hp) (s : Shared) : Prop where
  ok : X.Ok
  os : s.os = X.s₀.os
  bare : AllBare s.gens
  base : Un X.fs X.ex X.H₀ H X.s₀.heap s.heap
  loc : ∃ m, s.heap.Ns X.env.locals m ∧ ∀ (i : Nat) (x : Str) (v : V), X.N[i]? = some x → σ[i]? = some (some v) → Vis X.env.scope x → ∃ u, RelV v u ∧ Look X.env s.heap m x u
  cell : ∀ x c, X.env.cells.lookup x = some c → ∃ v, s.heap.IsCell c v
  free : H X.env.locals = none
  freeC : ∀ x c, X.env.cells.lookup x = some c → H c = none
  pin : ∀ p ∈ X.pn ++ pins, s.heap.get? p.1 = some p.2 ∧ H p.1 = none ∧ p.1 ≠ X.env.locals ∧ p.1 ∉ X.fs ∧ ∀ v, p.2.data ≠ .cell v
  hok : HOk X.prog X.w H s.heap
  len : σ.length = X.N.length

section
variable {X : Cx} {pins : List (Addr × Obj)} {σ : List (Option V)} {H H' : Hp} {s : Shared} {h' : Heap}

theorem Cx.Ok.nofr (ok : X.Ok) {b : Addr} {o : Obj} (e : X.base.get? b = some o) : b ∉ X.fs := fun hb => by
  have := (ok.funs.mem hb).1
  rw [e] at this; cases this
theorem Inv.bs (I : Inv X pins σ H s) : ∀ b o, X.base.get? b = some o → s.heap.get? b = some o ∧ H b = none := fun b o e =>
  ⟨I.base.keep b o (I.ok.bs b o e).1 (I.ok.bs b o e).2 (I.ok.nofr e) (I.ok.noex b o e), I.base.free b o (I.ok.bs b o e).1 (I.ok.bs b o e).2 (I.ok.noex b o e)⟩
theorem Inv.bk (I : Inv X pins σ H s) : ∀ b o, X.base.get? b = some o → s.heap.get? b = some o := fun b o e => (I.bs b o e).1
theorem Inv.mod (I : Inv X pins σ H s) : Mod X.K X.mg X.base := I.ok.mod
theorem Inv.kIn (I : Inv X pins σ H s) : X.K.In s.heap := I.ok.mod.kin.keeps I.bk
theorem Inv.lt (I : Inv X pins σ H s) : X.env.locals < s.heap.objs.size := let ⟨_, hn, _⟩ := I.loc; hn.lt
theorem Inv.sz (I : Inv X pins σ H s) : X.s₀.heap.objs.size ≤ s.heap.objs.size := Nat.le_trans I.ok.above (Nat.le_of_lt I.lt)
theorem Inv.nofs (I : Inv X pins σ H s) {a : Addr} (h : s.heap.objs.size ≤ a) : a ∉ X.fs := fun hb => by
  obtain ⟨_, o, ho, _⟩ := I.ok.funs.mem hb
  exact absurd (Nat.lt_of_lt_of_le (Heap.lt_size ho) (Nat.le_trans I.sz h)) (Nat.lt_irrefl _)
theorem Inv.cne (I : Inv X pins σ H s) : ∀ x c, X.env.cells.lookup x = some c → c ≠ X.env.locals := fun x c e z => by
  obtain ⟨v, o, ho, hd⟩ := I.cell x c e
  obtain ⟨m, ⟨o', es, ep, ho', hd', _⟩, _⟩ := I.loc
  rw [z, ho'] at ho; cases ho; rw [hd'] at hd; cases hd
theorem Inv.funs (I : Inv X pins σ H s) : s.heap.FunFrames X.base X.outer := by
  have all : ∀ (l : List Env), (∀ b ∈ frs l, b ∈ X.fs) → X.s₀.heap.FunFrames X.base l → s.heap.FunFrames X.base l := by
    intro l
    induction l with
    | nil => intro _ _; trivial
    | cons env r ih =>
      intro hs hl
      obtain ⟨hk, ⟨L, o, hf, hn, ho, hd⟩, hr⟩ := hl
      have hL : L ∈ X.fs := hs L (by unfold frs; rw [List.filterMap_cons, hf]; exact List.mem_cons_self)
      obtain ⟨sl, e⟩ := I.base.slot L o ho (I.ok.frf L hL) hL fun z => I.ok.exfs L z hL
      exact ⟨hk, ⟨L, _, hf, hn, e, hd⟩, ih (fun b hb => hs b (by unfold frs; rw [List.filterMap_cons, hf]; exact List.mem_cons_of_mem _ hb)) hr⟩
  exact all X.outer (fun _ hb => hb) I.ok.funs

/-- the frames that run, for a call -/
theorem Inv.stack (I : Inv X pins σ H s) : s.heap.FunFrames X.base X.stack := by
  rcases I.ok.stk with e | ⟨e, hf⟩
  · rw [e]; exact I.funs
  · rw [e]
    obtain ⟨m, hn, _⟩ := I.loc
    refine .cons (by rw [I.ok.kind]; decide) hf hn ?_ I.funs
    exact Heap.get?_none_of_le (Nat.le_trans I.ok.bsz I.ok.above)
theorem Inv.stkSub (I : Inv X pins σ H s) : ∀ b ∈ frs X.stack, b ∈ X.env.locals :: X.fs := fun b hb => by
  rcases I.ok.stk with e | ⟨e, hf⟩
  · rw [e] at hb; exact List.mem_cons_of_mem _ hb
  · rw [e] at hb
    unfold frs at hb
    rw [List.filterMap_cons, hf] at hb
    exact hb
theorem Inv.stkFree (I : Inv X pins σ H s) : ∀ b ∈ frs X.stack, H b = none := fun b hb => by
  rcases List.mem_cons.mp (I.stkSub b hb) with e | hb
  · rw [e]; exact I.free
  · obtain ⟨_, o, ho, _⟩ := I.ok.funs.mem hb
    exact I.base.free b o ho (I.ok.frf b hb) fun z => I.ok.exfs b z hb

/-- THE STEP: the untracked objects but the frame and the records at ch are kept (the callers' frames up to slots), the frame's map is kept, the new abstract heap is held -/
theorem Inv.step {g' : Array GenState} {t' : Nat} {d' : Drawn} {ch : List Addr} (I : Inv X pins σ H s)
    (hch : ∀ b ∈ ch, (b ∈ X.ex ∨ X.s₀.heap.objs.size ≤ b) ∧ b ≠ X.env.locals ∧ (∀ x c, X.env.cells.lookup x = some c → c ≠ b) ∧ ∀ p ∈ X.pn ++ pins, p.1 ≠ b)
    (keep : ∀ b o, b ≠ X.env.locals → b ∉ X.fs → b ∉ ch → s.heap.get? b = some o → H b = none → h'.get? b = some o)
    (slot : ∀ b o, b ≠ X.env.locals → b ∈ X.fs → b ∉ ch → s.heap.get? b = some o → H b = none → ∃ sl, h'.get? b = some { o with slots := sl }) (free : ∀ b o, b ∉ ch → s.heap.get? b = some o → H b = none → H' b = none)
    (there : ∀ b o, b ∉ ch → s.heap.get? b = some o → ∃ o', h'.get? b = some o')
    (tups : ∀ b xs, H b = some (.tup xs) → H' b = some (.tup xs)) (frzs : ∀ b o u, H b = some (.frz o u) → H' b = some (.frz o u)) (tbls : ∀ b ps, H b = some (.tbl ps) → ∃ more, H' b = some (.tbl (ps ++ more)))
    (ns : ∀ m, s.heap.Ns X.env.locals m → h'.Ns X.env.locals m) (hok : HOk X.prog X.w H' h') (hg : AllBare g') :
    Inv X pins σ H' { s with heap := h', gens := g', drawn := d', toks := t' } := by
  have neL : ∀ b o, X.s₀.heap.get? b = some o → b ≠ X.env.locals := fun b o e => Nat.ne_of_lt (Nat.lt_of_lt_of_le (Heap.lt_size e) I.ok.above)
  have neC : ∀ b o, X.s₀.heap.get? b = some o → b ∉ X.ex → b ∉ ch := fun b o e hx hb => by
    rcases (hch b hb).1 with z | z
    · exact hx z
    · exact absurd (Nat.lt_of_lt_of_le (Heap.lt_size e) z) (Nat.lt_irrefl _)
  have cellK : ∀ x c, X.env.cells.lookup x = some c → ∀ v, s.heap.IsCell c v → h'.IsCell c v := fun x c e v ⟨o, ho, hd⟩ => by
    have nch : c ∉ ch := fun z => (hch c z).2.2.1 x c e rfl
    by_cases hc : c ∈ X.fs
    · obtain ⟨sl, q⟩ := slot c o (I.cne x c e) hc nch ho (I.freeC x c e)
      exact ⟨_, q, hd⟩
    · exact ⟨o, keep c o (I.cne x c e) hc nch ho (I.freeC x c e), hd⟩
  refine ⟨I.ok, I.os, hg, ⟨fun b o e n hb hx => ?_, fun b o e n hb hx => ?_, fun b o e n hx => ?_, fun b o e hx => ?_, fun b xs e => tups b xs (I.base.tups b xs e), fun b o xs e => frzs b o xs (I.base.frzs b o xs e), fun b ps e => ?_⟩, ?_, fun x c e => ?_, ?_, fun x c e => ?_, fun p hp => ?_, hok, I.len⟩
  · exact keep b o (neL b o e) hb (neC b o e hx) (I.base.keep b o e n hb hx) (I.base.free b o e n hx)
  · obtain ⟨sl, e1⟩ := I.base.slot b o e n hb hx
    obtain ⟨sl', e2⟩ := slot b _ (neL b o e) hb (neC b o e hx) e1 (I.base.free b o e n hx)
    exact ⟨sl', e2⟩
  · obtain ⟨o', e1⟩ := I.base.there b o e hx
    exact free b o' (neC b o e hx) e1 (I.base.free b o e n hx)
  · obtain ⟨o', e1⟩ := I.base.there b o e hx
    exact there b o' (neC b o e hx) e1
  · obtain ⟨m1, e1⟩ := I.base.tbls b ps e
    obtain ⟨m2, e2⟩ := tbls b _ e1
    exact ⟨m1 ++ m2, by rw [e2, Array.append_assoc]⟩
  · obtain ⟨m, hn, hl⟩ := I.loc
    refine ⟨m, ns m hn, fun i x v e1 e2 e3 => ?_⟩
    obtain ⟨u, r, l⟩ := hl i x v e1 e2 e3
    refine ⟨u, r, ?_⟩
    rcases l with l | ⟨k, c, e, z⟩
    · exact .inl l
    · exact .inr ⟨k, c, e, cellK x c e _ z⟩
  · obtain ⟨v, z⟩ := I.cell x c e
    exact ⟨v, cellK x c e v z⟩
  · obtain ⟨m, ⟨o, _, _, ho, _⟩, _⟩ := I.loc
    exact free _ o (fun z => (hch _ z).2.1 rfl) ho I.free
  · obtain ⟨v, o, ho, hd⟩ := I.cell x c e
    exact free c o (fun z => (hch c z).2.2.1 x c e rfl) ho (I.freeC x c e)
  · obtain ⟨e, n, ne, nf, d⟩ := I.pin p hp
    have nch : p.1 ∉ ch := fun z => (hch p.1 z).2.2.2 p hp rfl
    exact ⟨keep p.1 p.2 ne nf nch e n, free p.1 p.2 nch e n, ne, nf, d⟩
/-- .. where the frame's own object is kept too -/
theorem Inv.un {t' : Nat} (I : Inv X pins σ H s) (u : Un X.fs [] H H' s.heap h') (hok : HOk X.prog X.w H' h') : Inv X pins σ H' { s with heap := h', toks := t' } := by
  obtain ⟨m, ⟨o, es, ep, ho, r⟩, _⟩ := id I.loc
  obtain ⟨sl, hL⟩ := u.any ho I.free (by simp)
  exact I.step (g' := s.gens) (d' := s.drawn) (ch := []) (fun _ z => nomatch z) (fun b o _ hb _ e n => u.keep b o e n hb (by simp)) (fun b o _ hb _ e n => u.slot b o e n hb (by simp)) (fun b o _ e n => u.free b o e n (by simp)) (fun b o _ e => u.there b o e (by simp)) u.tups u.frzs u.tbls (fun m' hm => by
    obtain ⟨o', es', ep', ho', r'⟩ := hm
    rw [ho] at ho'; cases ho'
    exact ⟨_, es', ep', hL, r'⟩) hok I.bare
/-- behind a call (or a comprehension's block): the slots of this frame may have changed too, the records at ch may have turned -/
theorem Inv.call {g' : Array GenState} {t' : Nat} {d' : Drawn} {ch : List Addr} (I : Inv X pins σ H s) (u : Un (frs X.stack) ch H H' s.heap h') (hok : HOk X.prog X.w H' h') (hg : AllBare g')
    (hch : ∀ b ∈ ch, (b ∈ X.ex ∨ X.s₀.heap.objs.size ≤ b) ∧ b ≠ X.env.locals ∧ (∀ x c, X.env.cells.lookup x = some c → c ≠ b) ∧ ∀ p ∈ X.pn ++ pins, p.1 ≠ b) :
    Inv X pins σ H' { s with heap := h', gens := g', drawn := d', toks := t' } := by
  obtain ⟨m, ⟨o, es, ep, ho, r⟩, _⟩ := id I.loc
  obtain ⟨sl, hL⟩ := u.any ho I.free fun z => (hch _ z).2.1 rfl
  exact I.step (ch := ch) hch (fun b o hL hb hc e n => u.keep b o e n (fun z => (List.mem_cons.mp (I.stkSub b z)).elim hL hb) hc) (fun b o _ _ hc e n => u.any e n hc) (fun b o hc e n => u.free b o e n hc) (fun b o hc e => u.there b o e hc) u.tups u.frzs u.tbls (fun m' hm => by
    obtain ⟨o', es', ep', ho', r'⟩ := hm
    rw [ho] at ho'; cases ho'
    exact ⟨_, es', ep', hL, r'⟩) hok hg
/-- an untracked record of ours (an iterator) has turned -/
theorem Inv.turned {t' : Nat} {it : Addr} (I : Inv X pins σ H s) (k : ∀ b o, b ≠ it → s.heap.get? b = some o → h'.get? b = some o) (hn : H it = none) (hL : it ≠ X.env.locals)
    (h1 : it ∈ X.ex ∨ X.s₀.heap.objs.size ≤ it) (h2 : ∀ x c, X.env.cells.lookup x = some c → c ≠ it) (h3 : ∀ p ∈ X.pn ++ pins, p.1 ≠ it) : Inv X pins σ H { s with heap := h', toks := t' } := by
  have nit : ∀ b u, H b = some u → b ≠ it := fun b u e z => by rw [z, hn] at e; cases e
  refine I.step (g' := s.gens) (d' := s.drawn) (ch := [it]) (fun b hb => ?_) (fun b o _ _ hc e _ => k b o (fun z => hc (by simp [z])) e) (fun b o _ _ hc e _ => ⟨o.slots, k b o (fun z => hc (by simp [z])) e⟩) (fun _ _ _ _ n => n)
    (fun b o hc e => ⟨o, k b o (fun z => hc (by simp [z])) e⟩) (fun _ _ e => e) (fun _ _ _ e => e) (fun b ps e => ⟨#[], by rw [e]; simp⟩) (fun m hm => ?_) (fun b u e => ?_) I.bare
  · have e : b = it := by simpa using hb
    subst e
    exact ⟨h1, hL, h2, h3⟩
  · obtain ⟨o, es, ep, ho, r⟩ := hm
    exact ⟨o, es, ep, k _ o (Ne.symm hL) ho, r⟩
  · refine (I.hok b u e).stay (fun c v hc q => k c v ?_ q) (fun _ q => q) fun _ _ q => q
    rcases hc with z | z
    · rw [z]; exact nit b u e
    · exact nit c _ z
theorem Inv.tok (I : Inv X pins σ H s) (t : Nat) : Inv X pins σ H { s with toks := t } := I.un (h' := s.heap) (t' := t) Un.refl I.hok
/-- all objects kept -/
theorem Inv.kept {t' : Nat} (I : Inv X pins σ H s) (k : ∀ b u, s.heap.get? b = some u → h'.get? b = some u) : Inv X pins σ H { s with heap := h', toks := t' } := I.un (Un.kept k) (I.hok.kept k)
/-- a new object laid and tracked -/
theorem Inv.laid {a : Addr} {o : HO} {t' : Nat} (I : Inv X pins σ H s) (k : ∀ b u, s.heap.get? b = some u → h'.get? b = some u) (hp : s.heap.objs.size ≤ a) (new : ObjOk X.prog X.w (upd H a o) h' a o) :
    Inv X pins σ (upd H a o) { s with heap := h', toks := t' } := I.un (Un.laid k hp (I.hok.fresh hp)) (I.hok.laid k hp new)
/-- an object written -/
theorem Inv.write {x e : Addr} {o : HO} {t' : Nat} (I : Inv X pins σ H s) (mu : Mut (H x)) (he : e = x ∨ H e = some (.own x)) (k : ∀ b u, b ≠ e → s.heap.get? b = some u → h'.get? b = some u) (heo : ∃ u, h'.get? e = some u)
    (new : ObjOk X.prog X.w (upd H x o) h' x o) : Inv X pins σ (upd H x o) { s with heap := h', toks := t' } := I.un (Un.write mu he k heo) (I.hok.write mu he k heo new)
theorem Inv.pins_of {pins' : List (Addr × Obj)} (I : Inv X pins σ H s) (h : ∀ p ∈ pins', s.heap.get? p.1 = some p.2 ∧ H p.1 = none ∧ p.1 ≠ X.env.locals ∧ p.1 ∉ X.fs ∧ ∀ v, p.2.data ≠ .cell v) : Inv X pins' σ H s :=
  ⟨I.ok, I.os, I.bare, I.base, I.loc, I.cell, I.free, I.freeC, fun p hp => (List.mem_append.mp hp).elim (fun z => I.pin p (List.mem_append_left _ z)) (h p), I.hok, I.len⟩

theorem nodup_ix {N : List Str} (hN : N.Nodup) {i j : Nat} {x : Str} (a : N[i]? = some x) (b : N[j]? = some x) : i = j := by
  obtain ⟨h1, e1⟩ := List.getElem?_eq_some_iff.mp a
  obtain ⟨h2, e2⟩ := List.getElem?_eq_some_iff.mp b
  exact (List.getElem_inj hN).mp (e1.trans e2.symm)

/-- a name is stored; what changed -/
theorem store_ok2 {M : Model} {A : Around} {E : Value → Shared → Prop} {i : Nat} {x : Str} {v : V} {u : Value} {Q : Unit → Shared → Prop} (I : Inv X pins σ H s) (hN : X.N.Nodup) (hi : X.N[i]? = some x) (hx : Loc X.env.scope x) (r : RelV v u)
    (h : ∀ s', Inv X pins (σ.set i (some v)) H s' → (∃ a, Heap.SameBut a s.heap s'.heap ∧ (a = X.env.locals ∨ X.env.cells.lookup x = some a)) → Q () s') (hf : X.fn x = true ∨ X.env.scope.names.lookup x = some .local := by first | exact .inl rfl | exact .inr rfl | assumption) : wpAny M A (storeName X.env x u) Q E s := by
  obtain ⟨m, hn, hl⟩ := id I.loc
  have hcls : (X.env.scope.kind == .class || (X.env.scope.kind == .module && X.env.locals != X.env.globals)) = false := by rw [I.ok.kind]; rfl
  have hiσ : i < σ.length := by rw [I.len]; exact (List.getElem?_eq_some_iff.mp hi).1
  have cne := I.cne
  have tracked : ∀ {a : Addr} {h' : Heap}, (∃ o, s.heap.get? a = some o ∧ H a = none) → Heap.SameBut a s.heap h' → HOk X.prog X.w H h' := fun {a h'} ha hs b ob e => by
    obtain ⟨_, _, hfree⟩ := ha
    refine (I.hok b ob e).stay (fun c w' hc q => (hs.2 c ?_).trans q) (fun _ q => q) fun _ _ q => q
    rintro rfl
    rcases hc with rfl | hc
    · rw [hfree] at e; cases e
    · rw [hfree] at hc; cases hc
  rcases hx with hk | hk
  · refine wpAny_storeName_local hk hn (fun h' hn' hs => ?_) hcls
    obtain ⟨oL, _, _, hoL, _⟩ := id hn
    refine h _ ⟨I.ok, I.os, I.bare, ⟨fun b o e n hb hx => ?_, fun b o e n hb hx => ?_, I.base.free, fun b o e hx => ?_, I.base.tups, I.base.frzs, I.base.tbls⟩, ⟨_, hn', fun j y v' e1 e2 e3 => ?_⟩, fun y c e => ?_, I.free, I.freeC, fun p hp => ?_, tracked ⟨oL, hoL, I.free⟩ hs, by simpa using I.len⟩ ⟨_, hs, .inl rfl⟩
    · exact (hs.2 b (Nat.ne_of_lt (Nat.lt_of_lt_of_le (Heap.lt_size e) I.ok.above))).trans (I.base.keep b o e n hb hx)
    · obtain ⟨sl, e1⟩ := I.base.slot b o e n hb hx
      exact ⟨sl, (hs.2 b (Nat.ne_of_lt (Nat.lt_of_lt_of_le (Heap.lt_size e) I.ok.above))).trans e1⟩
    · obtain ⟨o', e1⟩ := I.base.there b o e hx
      exact ⟨o', (hs.2 b (Nat.ne_of_lt (Nat.lt_of_lt_of_le (Heap.lt_size e) I.ok.above))).trans e1⟩
    · by_cases hj : j = i
      · subst hj
        rw [hi] at e1; cases e1
        rw [List.getElem?_set_self hiσ] at e2
        cases e2
        exact ⟨u, r, .inl ⟨hk, by simp⟩⟩
      · rw [List.getElem?_set_ne (Ne.symm hj)] at e2
        obtain ⟨u', r', q⟩ := hl j y v' e1 e2 e3
        refine ⟨u', r', ?_⟩
        rcases q with ⟨k, e⟩ | ⟨k, c, e, z⟩
        · refine .inl ⟨k, ?_⟩
          have : y ≠ x := fun e => hj (nodup_ix hN e1 (e ▸ hi))
          simp [this, e]
        · exact .inr ⟨k, c, e, z.sameBut hs (cne y c e)⟩
    · obtain ⟨w', z⟩ := I.cell y c e
      exact ⟨w', z.sameBut hs (cne y c e)⟩
    · obtain ⟨e, n, ne, nf, d⟩ := I.pin p hp
      exact ⟨(hs.2 p.1 ne).trans e, n, ne, nf, d⟩
  · have hfn : X.fn x = true := by
      rcases hf with z | z
      · exact z
      · rw [z] at hk; cases hk
    obtain ⟨c, hc⟩ := I.ok.has x (.inl hk)
    obtain ⟨w', z⟩ := I.cell x c hc
    refine wpAny_storeName_cell I.ok.kind hk hc z (fun h' hc' hs => ?_)
    obtain ⟨oc, hoc, hocd⟩ := id z
    refine h { s with heap := h' } ⟨I.ok, I.os, I.bare, ⟨fun b o e n hb hx => ?_, fun b o e n hb hx => ?_, I.base.free, fun b o e hx => ?_, I.base.tups, I.base.frzs, I.base.tbls⟩, ⟨m, hn.sameBut hs (Ne.symm (cne x c hc)), fun j y v' e1 e2 e3 => ?_⟩, fun y c' e => ?_, I.free, I.freeC, fun p hp => ?_, tracked ⟨oc, hoc, I.freeC x c hc⟩ hs, by simpa using I.len⟩ ⟨c, hs, .inr hc⟩
    · exact (hs.2 b (Nat.ne_of_lt (Nat.lt_of_lt_of_le (Heap.lt_size e) (I.ok.cab x c hfn hc)))).trans (I.base.keep b o e n hb hx)
    · obtain ⟨sl, e1⟩ := I.base.slot b o e n hb hx
      exact ⟨sl, (hs.2 b (Nat.ne_of_lt (Nat.lt_of_lt_of_le (Heap.lt_size e) (I.ok.cab x c hfn hc)))).trans e1⟩
    · obtain ⟨o', e1⟩ := I.base.there b o e hx
      exact ⟨o', (hs.2 b (Nat.ne_of_lt (Nat.lt_of_lt_of_le (Heap.lt_size e) (I.ok.cab x c hfn hc)))).trans e1⟩
    · by_cases hj : j = i
      · subst hj
        rw [hi] at e1; cases e1
        rw [List.getElem?_set_self hiσ] at e2
        cases e2
        exact ⟨u, r, .inr ⟨.inl hk, c, hc, hc'⟩⟩
      · rw [List.getElem?_set_ne (Ne.symm hj)] at e2
        obtain ⟨u', r', q⟩ := hl j y v' e1 e2 e3
        refine ⟨u', r', ?_⟩
        rcases q with q | ⟨k, c', e, z'⟩
        · exact .inl q
        · refine .inr ⟨k, c', e, z'.sameBut hs ?_⟩
          rintro rfl
          exact hj (nodup_ix hN e1 (I.ok.inj _ _ _ e hc ▸ hi))
    · by_cases hcc : c' = c
      · subst hcc; exact ⟨_, hc'⟩
      · obtain ⟨w2, z2⟩ := I.cell y c' e
        exact ⟨w2, z2.sameBut hs hcc⟩
    · obtain ⟨e, n, ne, nf, d⟩ := I.pin p hp
      refine ⟨(hs.2 p.1 ?_).trans e, n, ne, nf, d⟩
      intro q
      rw [q, hoc] at e
      have q' : oc = p.2 := Option.some.inj e
      exact d w' (by rw [← q']; exact hocd)
theorem store_ok {M : Model} {A : Around} {E : Value → Shared → Prop} {i : Nat} {x : Str} {v : V} {u : Value} {Q : Unit → Shared → Prop} (I : Inv X pins σ H s) (hN : X.N.Nodup) (hi : X.N[i]? = some x) (hx : Loc X.env.scope x) (r : RelV v u)
    (h : ∀ s', Inv X pins (σ.set i (some v)) H s' → Q () s') (hf : X.fn x = true ∨ X.env.scope.names.lookup x = some .local := by first | exact .inl rfl | exact .inr rfl | assumption) : wpAny M A (storeName X.env x u) Q E s :=
  store_ok2 I hN hi hx r (fun s' I' _ => h s' I') hf
/-- behind a call or a block, the state as it is -/
theorem Inv.call' {s' : Shared} {ch : List Addr} (I : Inv X pins σ H s) (ho : s'.os = s.os) (u : Un (frs X.stack) ch H H' s.heap s'.heap) (hok : HOk X.prog X.w H' s'.heap) (hg : AllBare s'.gens)
    (hch : ∀ b ∈ ch, (b ∈ X.ex ∨ X.s₀.heap.objs.size ≤ b) ∧ b ≠ X.env.locals ∧ (∀ x c, X.env.cells.lookup x = some c → c ≠ b) ∧ ∀ p ∈ X.pn ++ pins, p.1 ≠ b) : Inv X pins σ H' s' := by
  obtain ⟨h', g', d', t', o'⟩ := s'
  have e : o' = s.os := ho
  subst e
  exact I.call (g' := g') (t' := t') (d' := d') u hok hg hch
end

/-! ### the judgements -/
/-- an exception: its class, its own dict's address (where it has one), the abstract heap behind it -/
abbrev XK := Value → Option Addr → Hp → Prop
abbrev St := List (Option V)
abbrev VK := V → Hp → Prop
/-- an expression's reading; a test's; an argument list's -/
abbrev TE := St → Hp → VK → Prop
abbrev TT := St → Hp → (Bool → Hp → Prop) → Prop
abbrev TA := St → Hp → (List V → Hp → Prop) → Prop
/-- what is wanted behind a statement -/
structure Ends where
  nx : St → Hp → Prop
  rt : VK
  bk : St → Hp → Prop := fun _ _ => False
  ct : St → Hp → Prop := fun _ _ => False
abbrev TS := Ends → St → Hp → Prop

def EP (X : Cx) (pins : List (Addr × Obj)) (σ : St) (Q : VK) (u : Value) (s' : Shared) : Prop := ∃ v H', Inv X pins σ H' s' ∧ RelV v u ∧ Q v H'
def TP (X : Cx) (pins : List (Addr × Obj)) (σ : St) (Q : Bool → Hp → Prop) (b : Bool) (s' : Shared) : Prop := ∃ H', Inv X pins σ H' s' ∧ Q b H'
def AP (X : Cx) (pins : List (Addr × Obj)) (σ : St) (Q : List V → Hp → Prop) (us : List Value) (s' : Shared) : Prop := ∃ vs H', Inv X pins σ H' s' ∧ Vals vs us ∧ Q vs H'
def SP (X : Cx) (pins : List (Addr × Obj)) (D : Ends) (f : Flow) (s' : Shared) : Prop :=
  match f with
  | .next => ∃ σ' H', Inv X pins σ' H' s' ∧ D.nx σ' H'
  | .brk => ∃ σ' H', Inv X pins σ' H' s' ∧ D.bk σ' H'
  | .cont => ∃ σ' H', Inv X pins σ' H' s' ∧ D.ct σ' H'
  | .ret u => ∃ v σ' H', Inv X pins σ' H' s' ∧ RelV v u ∧ D.rt v H'

def PE (X : Cx) (e : Expr) (t : TE) : Prop :=
  ∀ (pins : List (Addr × Obj)) (s : Shared) (σ : St) (H : Hp) (Q : VK), Inv X pins σ H s → t σ H Q → wpAny (model X.prog X.w) X.A (eval e X.env) (EP X pins σ Q) X.xe s
def PT (X : Cx) (e : Expr) (t : TT) : Prop :=
  ∀ (pins : List (Addr × Obj)) (s : Shared) (σ : St) (H : Hp) (Q : Bool → Hp → Prop), Inv X pins σ H s → t σ H Q → wpAny (model X.prog X.w) X.A (isTrue e X.env (eval e X.env)) (TP X pins σ Q) X.xe s
/-- a test whatever its 'whole' is (and, or) -/
def PW (X : Cx) (e : Expr) (t : TT) : Prop :=
  ∀ (whole : Sem Value) (pins : List (Addr × Obj)) (s : Shared) (σ : St) (H : Hp) (Q : Bool → Hp → Prop), Inv X pins σ H s → t σ H Q → wpAny (model X.prog X.w) X.A (isTrue e X.env whole) (TP X pins σ Q) X.xe s
theorem PW.pt {X : Cx} {e : Expr} {t : TT} (h : PW X e t) : PT X e t := h _
/-- an argument list (no star), from the left -/
def PA (X : Cx) (es : List Expr) (t : TA) : Prop :=
  ∀ (pos : Pos) (pins : List (Addr × Obj)) (s : Shared) (σ : St) (H : Hp) (Q : List V → Hp → Prop), Inv X pins σ H s → t σ H Q → wpAny (model X.prog X.w) X.A (spliced (backTo pos (starEach es X.env))) (AP X pins σ Q) X.xe s
def PS (X : Cx) (st : Stmt) (t : TS) : Prop :=
  ∀ (pins : List (Addr × Obj)) (s : Shared) (σ : St) (H : Hp) (D : Ends), Inv X pins σ H s → t D σ H → wpAny (model X.prog X.w) X.A (exec st X.env) (SP X pins D) X.xe s
def PSs (X : Cx) (st : List Stmt) (t : TS) : Prop :=
  ∀ (pins : List (Addr × Obj)) (s : Shared) (σ : St) (H : Hp) (D : Ends), Inv X pins σ H s → t D σ H → wpAny (model X.prog X.w) X.A (execs st X.env) (SP X pins D) X.xe s
/-- weaken the end -/
theorem thn {α : Type} {t : Sem α} {Q Q' : α → Shared → Prop} {M : Model} {A : Around} {E : Value → Shared → Prop} {s : Shared} (h : wpAny M A t Q E s) (hQ : ∀ a s, Q a s → Q' a s) : wpAny M A t Q' E s := wpAny_mono h hQ fun _ _ x => x
end L2

namespace L2
open PySem PySem.Spec PyProof.Rows
section
variable {X : Cx}

/-! ### names and constants -/
def tVar (i : Nat) : TE := fun σ H Q => ∃ v, σ[i]? = some (some v) ∧ Q v H
def tC (v : V) : TE := fun _ H Q => Q v H
theorem pe_var {i : Nat} {x : Str} {pos : Pos} (hN : X.N[i]? = some x) (hv : Vis X.env.scope x) (hd : (x == ("__debug__" : Str)) = false := by decide) (hcd : (x == ("__classdict__" : Str)) = false := by decide) : PE X (.Name x pos) (tVar i) := by
  intro pins s σ H Q I h
  obtain ⟨v, e, h⟩ := h
  obtain ⟨m, hn, hl⟩ := I.loc
  obtain ⟨u, r, l⟩ := hl i x v hN e hv
  have fin : EP X pins σ Q u s := ⟨v, H, I, r, h⟩
  rcases l with ⟨hk, hm⟩ | ⟨hk, c, hc, hcell⟩
  · exact wpAny_Name (wpAny_loadName_local I.ok.kind hk hn hm fin) hd
  · rcases hk with hk | hk
    · exact wpAny_Name (wpAny_loadName_cell I.ok.kind hk hc hcell fin) hd
    · exact wpAny_Name (wpAny_loadName_free I.ok.kind hk hc hcell fin hcd) hd
theorem pe_int {i j pos} : PE X (.Constant (.int i) j pos) (tC (.int i)) := fun _ _ _ H _ I h => wpAny_Constant_int ⟨.int i, H, I.tok _, ⟨_, rfl⟩, h⟩
theorem pe_bl {b j pos} : PE X (.Constant (.bool b) j pos) (tC (.bl b)) := fun _ _ _ H _ I h => Constant_bool ⟨.bl b, H, I, rfl, h⟩
theorem pe_non {j pos} : PE X (.Constant .none j pos) (tC .non) := fun _ _ _ H _ I h => Constant_none ⟨.non, H, I, rfl, h⟩
theorem pe_str {x j pos} : PE X (.Constant (.str x) j pos) (tC (.str x)) := fun _ _ _ H _ I h => Calls.Constant_str ⟨.str x, H, I.tok _, ⟨_, rfl⟩, h⟩

/-- a global name of the def -/
def Gl (X : Cx) (x : Str) : Prop := X.env.kindOf x = some .globalImplicit
theorem ld_glob {E : Value → Shared → Prop} {pins : List (Addr × Obj)} {s : Shared} {σ : St} {H : Hp} {x : Str} {u : Value} {pos : Pos} {Q : Value → Shared → Prop} (I : Inv X pins σ H s) (hg : Gl X x) (hm : X.mg x = some u) (h : Q u s)
    (hd : (x == ("__debug__" : Str)) = false := by decide) : wpAny (model X.prog X.w) X.A (eval (.Name x pos) X.env) Q E s :=
  Calls.Name_function_global I.ok.kind hg (Calls.loadGlobal_global (by rw [I.ok.glob]; exact I.mod.glob.keeps I.bk) hm h) hd
theorem ld_blt {E : Value → Shared → Prop} {pins : List (Addr × Obj)} {s : Shared} {σ : St} {H : Hp} {x : Str} {u : Value} {pos : Pos} {Q : Value → Shared → Prop} (I : Inv X pins σ H s) (hg : Gl X x) (hm : X.mg x = none) (hv : bootBuiltins x = some u) (h : Q u s)
    (hn : x ≠ "__name__" := by decide) (hd : (x == ("__debug__" : Str)) = false := by decide) : wpAny (model X.prog X.w) X.A (eval (.Name x pos) X.env) Q E s := by
  obtain ⟨mb, h1, h2⟩ := I.mod.blt
  exact Calls.Name_function_global I.ok.kind hg (Calls.loadGlobal_builtin (by rw [I.ok.glob]; exact I.mod.glob.keeps I.bk) hm (by rw [I.ok.blt]; exact h1.keeps I.bk) ((h2 x hn).trans hv) h) hd
/-! ### arithmetic -/
/-- two ints -/
def t2I (ta tb : TE) (k : Int → Int → Hp → Prop) : St → Hp → Prop := fun σ H => ta σ H fun x H1 => tb σ H1 fun y H2 => ∃ i j, x = .int i ∧ y = .int j ∧ k i j H2
def tAdd (ta tb : TE) : TE := fun σ H Q => t2I ta tb (fun i j H2 => Q (.int (i + j)) H2) σ H
def tSub (ta tb : TE) : TE := fun σ H Q => t2I ta tb (fun i j H2 => Q (.int (i - j)) H2) σ H
/-- the left factor below 2^64 -/
def tMul (ta tb : TE) : TE := fun σ H Q => t2I ta tb (fun i j H2 => (-(2 ^ 64) < i ∧ i < 2 ^ 64) ∧ Q (.int (i * j)) H2) σ H
variable {a b : Expr} {ta tb : TE} {pos : Pos}
/-! ### comparisons -/
def PC (X : Cx) (op : CmpOp) (a b : Expr) (t : TE) : Prop :=
  ∀ (pins : List (Addr × Obj)) (s : Shared) (σ : St) (H : Hp) (Q : VK), Inv X pins σ H s → t σ H Q →
    wpAny (model X.prog X.w) X.A (eval a X.env) (fun v s₁ => wpAny (model X.prog X.w) X.A (eval b X.env) (fun u s₂ => wpAny (model X.prog X.w) X.A (compareOp op v u) (EP X pins σ Q) X.xe s₂) X.xe s₁) X.xe s
theorem nobehind (b : Expr) {op : CmpOp} (h : op ≠ .In) (h2 : op ≠ .NotIn) : behindInMarks op b = false := by
  have e1 : (op == CmpOp.In) = false := by cases op <;> first | rfl | exact absurd rfl h
  have e2 : (op == CmpOp.NotIn) = false := by cases op <;> first | rfl | exact absurd rfl h2
  cases b <;> simp [behindInMarks, e1, e2]
def tCmp (p : Int → Int → Bool) (ta tb : TE) : TE := fun σ H Q => t2I ta tb (fun i j H2 => Q (.bl (p i j)) H2) σ H
abbrev tLt : TE → TE → TE := tCmp fun i j => decide (i < j)
abbrev tLe : TE → TE → TE := tCmp fun i j => decide (i ≤ j)
abbrev tGt : TE → TE → TE := tCmp fun i j => decide (j < i)
abbrev tGe : TE → TE → TE := tCmp fun i j => decide (j ≤ i)
abbrev tEqI : TE → TE → TE := tCmp fun i j => decide (i = j)
abbrev tNeI : TE → TE → TE := tCmp fun i j => !decide (i = j)
/-- is None -/
def tIsN (ta : TE) : TE := fun σ H Q => ta σ H fun x H1 => Q (.bl (decide (x = .non))) H1
def tNotN (ta : TE) : TE := fun σ H Q => ta σ H fun x H1 => Q (.bl (!decide (x = .non))) H1
theorem RelV.none_iff {x : V} {v : Value} (r : RelV x v) : (v == Value.none) = decide (x = .non) := by
  cases x with
  | non => cases r; rfl
  | bl _ => cases r; rfl
  | int _ => obtain ⟨t, rfl⟩ := r; rfl
  | str _ => obtain ⟨t, rfl⟩ := r; rfl
  | byt _ => obtain ⟨t, rfl⟩ := r; rfl
  | flt _ => obtain ⟨t, rfl⟩ := r; rfl
  | ref _ => cases r; rfl
  | ty _ => cases r; rfl
theorem pc_isN {j pos'} (ha : PE X a ta) : PC X .Is a (.Constant .none j pos') (tIsN ta) := by
  intro pins s σ H Q I h
  refine thn (ha pins s σ H _ I h) fun v s1 ⟨x, H1, I1, r1, q1⟩ => ?_
  exact Constant_none (is_none_gen ⟨.bl _, H1, I1, by rw [r1.none_iff]; rfl, q1⟩)
theorem pc_notN {j pos'} (ha : PE X a ta) : PC X .IsNot a (.Constant .none j pos') (tNotN ta) := by
  intro pins s σ H Q I h
  refine thn (ha pins s σ H _ I h) fun v s1 ⟨x, H1, I1, r1, q1⟩ => ?_
  exact Constant_none (isnot_none_gen ⟨.bl _, H1, I1, by rw [r1.none_iff]; rfl, q1⟩)
/-- a comparison as a value, as a test -/
def tB (t : TE) : TT := fun σ H Q => t σ H fun x H1 => ∃ c, x = .bl c ∧ Q c H1
theorem pt_cmp {op : CmpOp} {t : TE} (h : PC X op a b t) (h1 : behindInMarks op b = false := by first | exact nobehind _ (by decide) (by decide) | rfl) : PT X (.Compare a [op] [b] pos) (tB t) := by
  intro pins s σ H Q I hw
  refine wpAny_isTrue_Compare1 (thn (h pins s σ H _ I hw) fun v s1 h1 => thn h1 fun u s2 h2 => thn h2 fun c s3 ⟨x, H1, I1, r1, q1⟩ => ?_) h1
  obtain ⟨d, rfl, q⟩ := q1
  cases r1
  exact wpAny_truthy_bool ⟨H1, I1, q⟩
/-- an expression whose value is a bool, as a test -/
theorem pt_val {e : Expr} {t : TE} (h : PE X e t) (he : ∀ whole, isTrue e X.env whole = (do let v ← whole; standAt e.pos; holding [v] (truthy v)) := by intro _; rfl) : PT X e (tB t) := by
  intro pins s σ H Q I hw
  refine isTrue_plain (thn (h pins s σ H _ I hw) fun v s1 ⟨x, H1, I1, r1, q1⟩ => ?_) (he _)
  obtain ⟨d, rfl, q⟩ := q1
  cases r1
  exact wpAny_truthy_bool ⟨H1, I1, q⟩

/-! ### and, or, not -/
variable {tA tB' : TT} {rest : List Expr}
def tAnd (t u : TT) : TT := fun σ H Q => t σ H fun c H1 => if c = true then u σ H1 Q else Q false H1
def tOr (t u : TT) : TT := fun σ H Q => t σ H fun c H1 => if c = true then Q true H1 else u σ H1 Q
def tNot (t : TT) : TT := fun σ H Q => t σ H fun c H1 => Q (!c) H1
theorem pw_and1 (ha : PT X a tA) : PW X (.BoolOp .And [a] pos) tA := by
  intro wh pins s σ H Q I h
  refine isTrue_and (thn (ha pins s σ H Q I h) fun c s1 e => ?_)
  cases c with
  | true => exact isTrue_and_nil e
  | false => exact e
theorem pw_or1 (ha : PT X a tA) : PW X (.BoolOp .Or [a] pos) tA := by
  intro wh pins s σ H Q I h
  refine isTrue_or (thn (ha pins s σ H Q I h) fun c s1 e => ?_)
  cases c with
  | false => exact isTrue_or_nil e
  | true => exact e
theorem pw_and (ha : PT X a tA) (hb : PW X (.BoolOp .And (b :: rest) pos) tB') : PW X (.BoolOp .And (a :: b :: rest) pos) (tAnd tA tB') := by
  intro wh pins s σ H Q I h
  refine isTrue_and (thn (ha pins s σ H _ I h) fun c s1 ⟨H1, I1, q1⟩ => ?_)
  cases c with
  | true => exact hb wh pins s1 σ H1 Q I1 q1
  | false => exact ⟨H1, I1, q1⟩
theorem pw_or (ha : PT X a tA) (hb : PW X (.BoolOp .Or (b :: rest) pos) tB') : PW X (.BoolOp .Or (a :: b :: rest) pos) (tOr tA tB') := by
  intro wh pins s σ H Q I h
  refine isTrue_or (thn (ha pins s σ H _ I h) fun c s1 ⟨H1, I1, q1⟩ => ?_)
  cases c with
  | true => exact ⟨H1, I1, q1⟩
  | false => exact hb wh pins s1 σ H1 Q I1 q1
theorem pt_not (ha : PT X a tA) : PT X (.UnaryOp .Not a pos) (tNot tA) := by
  intro pins s σ H Q I h
  exact isTrue_not (ha pins s σ H (fun c H1 => Q (!c) H1) I h)
/-- .. as values (bools) -/
def tAndV (ta tb : TE) : TE := fun σ H Q => ta σ H fun x H1 => ∃ c, x = .bl c ∧ if c = true then tb σ H1 Q else Q (.bl false) H1
def tOrV (ta tb : TE) : TE := fun σ H Q => ta σ H fun x H1 => ∃ c, x = .bl c ∧ if c = true then Q (.bl true) H1 else tb σ H1 Q
def tNotV (ta : TE) : TE := fun σ H Q => ta σ H fun x H1 => ∃ c, x = .bl c ∧ Q (.bl (!c)) H1
theorem pe_one {op} {t : TE} (h : PE X a t) : PE X (.BoolOp op [a] pos) t := fun pins s σ H Q I hw => BoolOp_one (h pins s σ H Q I hw)
theorem pe_and (ha : PE X a ta) (hb : PE X (.BoolOp .And (b :: rest) pos) tb) : PE X (.BoolOp .And (a :: b :: rest) pos) (tAndV ta tb) := by
  intro pins s σ H Q I h
  refine BoolOp_and (thn (ha pins s σ H _ I h) fun v s1 ⟨x, H1, I1, r1, q1⟩ => ?_)
  obtain ⟨c, rfl, q1⟩ := q1
  cases r1
  refine wpAny_truthy_bool ?_
  cases c with
  | true => exact hb pins s1 σ H1 Q I1 q1
  | false => exact ⟨.bl false, H1, I1, rfl, q1⟩
/-- a if t else b -/
def tIf (t : TT) (ta tb : TE) : TE := fun σ H Q => t σ H fun c H1 => if c = true then ta σ H1 Q else tb σ H1 Q
end
end L2

namespace L2
open PySem PySem.Spec PyProof.Rows

/-! ### a list, a tuple that is read: tracked, frozen, or an object of the module -/
def SqL (K : PySem.W.Frag) (H : Hp) (a : Addr) (xs : List V) : Prop :=
  Rd H a (.lst xs) ∨
    ∃ (o : Obj) (its : Array Value) (n : Nat), K.lookup a = some o ∧ o.cls = .type "list" ∧ o.dict = none ∧ o.data = .seq its n ∧ its.size ≤ sizeLine ∧ Vals xs its.toList
def SqT (K : PySem.W.Frag) (H : Hp) (a : Addr) (xs : List V) : Prop :=
  Rd H a (.tup xs) ∨
    ∃ (o : Obj) (its : Array Value) (n : Nat), K.lookup a = some o ∧ o.cls = .type "tuple" ∧ o.data = .seq its n ∧ its.size ≤ sizeLine ∧ Vals xs its.toList
def absV : Value → Option V
  | .none => some .non
  | .bool b => some (.bl b)
  | .int i _ => some (.int i)
  | .str x _ => some (.str x)
  | .bytes b _ => some (.byt b)
  | .float b _ => some (.flt b)
  | .ref a => some (.ref a)
  | .type n => some (.ty n)
  | _ => none
theorem RelV.abs {x : V} {u : Value} (r : RelV x u) : absV u = some x := by
  cases x with
  | non => cases r; rfl
  | bl _ => cases r; rfl
  | int _ => obtain ⟨t, rfl⟩ := r; rfl
  | str _ => obtain ⟨t, rfl⟩ := r; rfl
  | byt _ => obtain ⟨t, rfl⟩ := r; rfl
  | flt _ => obtain ⟨t, rfl⟩ := r; rfl
  | ref _ => cases r; rfl
  | ty _ => cases r; rfl
theorem RelV.inj {x y : V} {u : Value} (r : RelV x u) (q : RelV y u) : x = y := Option.some.inj (r.abs.symm.trans q.abs)
theorem Vals.inj : ∀ {xs ys : List V} {us : List Value}, Vals xs us → Vals ys us → xs = ys
  | _, _, _, .nil, .nil => rfl
  | _, _, _, .cons r t, .cons r' t' => by rw [r.inj r', Vals.inj t t']
section
variable {X : Cx} {pins : List (Addr × Obj)} {σ : St} {H : Hp} {s : Shared} {a : Addr} {xs ys : List V}
theorem SqL.of {K : PySem.W.Frag} (h : H a = some (.lst xs)) : SqL K H a xs := .inl (.inl h)
theorem SqT.of {K : PySem.W.Frag} (h : H a = some (.tup xs)) : SqT K H a xs := .inl (.inl h)
theorem Inv.list (I : Inv X pins σ H s) (h : SqL X.K H a xs) : ∃ its : List Value, Vals xs its ∧ PlainL s.heap a its.toArray ∧ xs.length ≤ sizeLine := by
  rcases h with h | ⟨o, its, n, hk, hc, hd, hs, hz, r⟩
  · obtain ⟨z, its, n, r, e⟩ := h.ok I.hok
    exact ⟨its, r, ⟨_, n, e, rfl, rfl, rfl⟩, z⟩
  · refine ⟨its.toList, r, ⟨o, n, I.kIn a o hk, hc, hd, by simpa using hs⟩, ?_⟩
    have e := r.length
    simp only [Array.length_toList] at e
    omega
theorem Inv.tuple (I : Inv X pins σ H s) (h : SqT X.K H a xs) : ∃ its : List Value, Vals xs its ∧ IsTup s.heap a its.toArray ∧ xs.length ≤ sizeLine := by
  rcases h with h | ⟨o, its, n, hk, hc, hs, hz, r⟩
  · obtain ⟨z, its, r, p⟩ := h.ok I.hok
    exact ⟨its, r, p, z⟩
  · refine ⟨its.toList, r, ⟨o, I.kIn a o hk, hc, n, by simpa using hs⟩, ?_⟩
    have e := r.length
    simp only [Array.length_toList] at e
    omega
theorem Inv.list_inj (I : Inv X pins σ H s) (h : SqL X.K H a xs) (h' : SqL X.K H a ys) : xs = ys := by
  obtain ⟨its, r, ⟨o, n, e, _, _, d⟩, _⟩ := I.list h
  obtain ⟨its', r', ⟨o', n', e', _, _, d'⟩, _⟩ := I.list h'
  rw [e] at e'; cases e'
  rw [d] at d'
  injection d' with d1 _
  have : its = its' := by simpa using congrArg Array.toList d1
  subst this
  exact r.inj r'
theorem Inv.tuple_inj (I : Inv X pins σ H s) (h : SqT X.K H a xs) (h' : SqT X.K H a ys) : xs = ys := by
  obtain ⟨its, r, ⟨o, e, _, n, d⟩, _⟩ := I.tuple h
  obtain ⟨its', r', ⟨o', e', _, n', d'⟩, _⟩ := I.tuple h'
  rw [e] at e'; cases e'
  rw [d] at d'
  injection d' with d1 _
  have : its = its' := by simpa using congrArg Array.toList d1
  subst this
  exact r.inj r'
end

/-! ### another wish about exceptions -/
abbrev Cx.wish (X : Cx) (E : Value → Shared → Prop) : Cx := { X with xe := E }
/-- no exception leaves -/
abbrev Cx.nox (X : Cx) : Cx := X.wish fun _ _ => False
theorem Cx.Ok.wish {X : Cx} (ok : X.Ok) (E : Value → Shared → Prop) : (X.wish E).Ok :=
  ⟨ok.mod, ok.kind, ok.glob, ok.blt, ok.above, ok.inj, ok.has, ok.cab, ok.hd, ok.frames, ok.stk, ok.exf, ok.bs, ok.bsz, ok.noex, ok.exfs, ok.funs, ok.frf⟩
theorem Cx.Ok.unwish {X : Cx} {E : Value → Shared → Prop} (ok : (X.wish E).Ok) : X.Ok :=
  ⟨ok.mod, ok.kind, ok.glob, ok.blt, ok.above, ok.inj, ok.has, ok.cab, ok.hd, ok.frames, ok.stk, ok.exf, ok.bs, ok.bsz, ok.noex, ok.exfs, ok.funs, ok.frf⟩
section
variable {X : Cx} {pins : List (Addr × Obj)} {σ : St} {H : Hp} {s : Shared} {E : Value → Shared → Prop}
theorem Inv.wish (I : Inv X pins σ H s) (E : Value → Shared → Prop) : Inv (X.wish E) pins σ H s := ⟨I.ok.wish E, I.os, I.bare, I.base, I.loc, I.cell, I.free, I.freeC, I.pin, I.hok, I.len⟩
theorem Inv.unwish (I : Inv (X.wish E) pins σ H s) : Inv X pins σ H s := ⟨I.ok.unwish, I.os, I.bare, I.base, I.loc, I.cell, I.free, I.freeC, I.pin, I.hok, I.len⟩
theorem SP.unwish {D : Ends} {f : Flow} {s' : Shared} (h : SP (X.wish E) pins D f s') : SP X pins D f s' := by
  cases f with
  | next => obtain ⟨σ', H', I, q⟩ := h; exact ⟨σ', H', I.unwish, q⟩
  | brk => obtain ⟨σ', H', I, q⟩ := h; exact ⟨σ', H', I.unwish, q⟩
  | cont => obtain ⟨σ', H', I, q⟩ := h; exact ⟨σ', H', I.unwish, q⟩
  | ret u => obtain ⟨v, σ', H', I, r, q⟩ := h; exact ⟨v, σ', H', I.unwish, r, q⟩
theorem PSs.nox {st : List Stmt} {t : TS} (h : PSs X.nox st t) : PSs X st t := fun pins s σ H D I hw =>
  wpAny_mono (h pins s σ H D (I.wish _) hw) (fun _ _ q => q.unwish) fun _ _ z => False.elim z
end

/-! ### blocks and small statements -/
section
variable {X : Cx} {st : Stmt} {rest : List Stmt} {t u : TS} {e : Expr} {te : TE} {pos : Pos}
def tNext : TS := fun D σ H => D.nx σ H
def tSeq (t u : TS) : TS := fun D σ H => t { D with nx := u D } σ H
theorem pss_nil : PSs X [] tNext := fun _ _ σ H _ I h => wpAny_execs_nil ⟨σ, H, I, h⟩
theorem pss_cons (h1 : PS X st t) (h2 : PSs X rest u) : PSs X (st :: rest) (tSeq t u) := by
  intro pins s σ H D I h
  refine wpAny_execs_cons (thn (h1 pins s σ H { D with nx := u D } I h) fun f s1 q => ?_)
  cases f with
  | next =>
    obtain ⟨σ', H', I', q⟩ := q
    exact h2 pins s1 σ' H' D I' q
  | ret v => exact q
  | brk => exact q
  | cont => exact q
theorem pss_one (h1 : PS X st t) : PSs X [st] t := by
  intro pins s σ H D I h
  refine wpAny_execs_cons (thn (h1 pins s σ H D I h) fun f s1 q => ?_)
  cases f with
  | next => exact wpAny_execs_nil q
  | ret v => exact q
  | brk => exact q
  | cont => exact q
def tBreak : TS := fun D σ H => D.bk σ H
def tCont : TS := fun D σ H => D.ct σ H
theorem ps_pass : PS X (.Pass pos) tNext := fun _ _ σ H _ I h => wpAny_Pass ⟨σ, H, I, h⟩
/-- in a def's body nothing is shown -/
theorem Inv.quiet {pins : List (Addr × Obj)} {σ : St} {H : Hp} {s : Shared} (I : Inv X pins σ H s) : interactive X.env = false := by simp [interactive, I.ok.kind]
/-- an expression whose value is dropped -/
def tDrop (te : TE) : TS := fun D σ H => te σ H fun _ H1 => D.nx σ H1
theorem ps_expr (he : PE X e te) (hs : swapsWith e none pos.line X.env = pure false := by rfl) : PS X (.Expr e pos) (tDrop te) := by
  intro pins s σ H D I h
  exact wpAny_Expr_any (thn (he pins s σ H _ I h) fun v s1 ⟨x, H1, I1, r1, q1⟩ => ⟨σ, H1, I1, q1⟩) I.quiet hs
def tRet (te : TE) : TS := fun D σ H => te σ H D.rt
theorem ps_ret (he : PE X e te) : PS X (.Return (some e) pos) (tRet te) := by
  intro pins s σ H D I h
  exact wpAny_Return_some (thn (he pins s σ H _ I h) fun v s1 ⟨x, H1, I1, r1, q1⟩ => ⟨x, σ, H1, I1, r1, q1⟩)
def tRetN : TS := fun D _ H => D.rt .non H
def tIfS (c : TT) (t u : TS) : TS := fun D σ H => c σ H fun b H1 => if b = true then t D σ H1 else u D σ H1
theorem ps_if {c : Expr} {a b : List Stmt} {tc : TT} (hc : PT X c tc) (ha : PSs X a t) (hb : PSs X b u) : PS X (.If c a b pos) (tIfS tc t u) := by
  intro pins s σ H D I h
  refine wpAny_If (thn (hc pins s σ H _ I h) fun d s1 ⟨H1, I1, q1⟩ => ?_)
  cases d with
  | true => exact ha pins s1 σ H1 D I1 q1
  | false => exact hb pins s1 σ H1 D I1 q1
/-- code that the proof never comes to -/
def tNever : TS := fun _ _ _ => False
theorem ps_never : PS X st tNever := fun _ _ _ _ _ _ h => h.elim
end

/-! ### targets -/
abbrev TG := V → St → Hp → (St → Hp → Prop) → Prop
abbrev TGs := List V → St → Hp → (St → Hp → Prop) → Prop
def PG (X : Cx) (target : Expr) (t : TG) : Prop :=
  ∀ (pins : List (Addr × Obj)) (s : Shared) (σ : St) (H : Hp) (v : V) (u : Value) (Q : St → Hp → Prop), Inv X pins σ H s → RelV v u → t v σ H Q →
    wpAny (model X.prog X.w) X.A (assign target X.env u) (fun _ s' => ∃ σ' H', Inv X pins σ' H' s' ∧ Q σ' H') X.xe s
/-- several targets, one after another -/
def PGs (X : Cx) (ts : List Expr) (t : TGs) : Prop :=
  ∀ (pins : List (Addr × Obj)) (s : Shared) (σ : St) (H : Hp) (vs : List V) (us : List Value) (Q : St → Hp → Prop), Inv X pins σ H s → Vals vs us → t vs σ H Q →
    wpAny (model X.prog X.w) X.A (assignInOrder ((assignEach ts X.env).map (·.2)) us) (fun _ s' => ∃ σ' H', Inv X pins σ' H' s' ∧ Q σ' H') X.xe s
/-- o[i] = v, by values -/
abbrev TSet := V → V → V → Hp → (Hp → Prop) → Prop
def PSet (X : Cx) (t : TSet) : Prop :=
  ∀ (pins : List (Addr × Obj)) (s : Shared) (σ : St) (H : Hp) (o i v : V) (ov iv u : Value) (Q : Hp → Prop), Inv X pins σ H s → RelV o ov → RelV i iv → RelV v u → t o i v H Q →
    wpAny (model X.prog X.w) X.A (setItem ov iv u) (fun _ s' => ∃ H', Inv X pins σ H' s' ∧ Q H') X.xe s
/-- a op= b, by values -/
abbrev TIp := V → V → Hp → VK → Prop
def PIp (X : Cx) (op : Operator) (t : TIp) : Prop :=
  ∀ (pins : List (Addr × Obj)) (s : Shared) (σ : St) (H : Hp) (x y : V) (v u : Value) (Q : VK), Inv X pins σ H s → RelV x v → RelV y u → t x y H Q →
    wpAny (model X.prog X.w) X.A (inplaceOp op v u) (EP X pins σ Q) X.xe s
section
variable {X : Cx} {pos : Pos}
def gName (i : Nat) : TG := fun v σ H Q => Q (σ.set i (some v)) H
theorem pg_name {i : Nat} {x : Str} (hN : X.N.Nodup) (hi : X.N[i]? = some x) (hx : Loc X.env.scope x) (hf : X.fn x = true ∨ X.env.scope.names.lookup x = some .local := by first | exact .inl rfl | exact .inr rfl | assumption) : PG X (.Name x pos) (gName i) := by
  intro pins s σ H v u Q I r h
  exact wpAny_assign_Name (store_ok I hN hi hx r (fun s' I' => ⟨_, H, I', h⟩) hf)
def gNil : TGs := fun vs σ H Q => vs = [] ∧ Q σ H
def gCons (t : TG) (u : TGs) : TGs := fun vs σ H Q => ∃ v r, vs = v :: r ∧ t v σ H fun σ' H' => u r σ' H' Q
theorem pgs_nil : PGs X [] gNil := by
  intro pins s σ H vs us Q I r h
  obtain ⟨e, h⟩ := h
  subst e
  cases r
  exact assignInOrder_nil ⟨σ, H, I, h⟩
theorem pgs_cons {e : Expr} {es : List Expr} {t : TG} {u : TGs} (h1 : PG X e t) (h2 : PGs X es u)
    (hs : (assignEach (e :: es) X.env).map (·.2) = assign e X.env :: (assignEach es X.env).map (·.2) := by rfl) : PGs X (e :: es) (gCons t u) := by
  intro pins s σ H vs us Q I r h
  obtain ⟨v, vr, e1, h⟩ := h
  subst e1
  cases r with
  | cons r rr =>
    rw [hs]
    refine assignInOrder_cons (thn (h1 pins s σ H _ _ _ I r h) fun _ s1 ⟨σ1, H1, I1, q1⟩ => ?_)
    exact h2 pins s1 σ1 H1 _ _ Q I1 rr q1
/-- (a, b, ..) = a tuple of that length -/
def gTup (K : PySem.W.Frag) (n : Nat) (t : TGs) : TG := fun v σ H Q => ∃ a xs, v = .ref a ∧ SqT K H a xs ∧ xs.length = n ∧ t xs σ H Q
theorem pg_tup {es : List Expr} {k : Nat} {t : TGs} {n : Nat} (hc : X.calm = true) (h : PGs X es t)
    (hn : (assignEach es X.env).length = n := by rfl) (hst : (assignEach es X.env).findIdx? (·.1) = none := by rfl) : PG X (.Tuple es k pos) (gTup X.K n t) := by
  intro pins s σ H v u Q I r hw
  obtain ⟨a, xs, e1, hq, hl, hw⟩ := hw
  subst e1
  cases r
  obtain ⟨its, rv, ht, hz⟩ := I.tuple hq
  refine assign_Tuple_tuple (I.ok.hd hc) ht (by simp [hn, ← hl, rv.length]) hst fun h' hx => ?_
  have I1 : Inv X pins σ H { s with heap := h' } := I.kept (t' := s.toks) fun b o e => hx b o (Nat.ne_of_lt (Heap.lt_size e)) e
  exact h pins _ σ H xs _ Q I1 (by simpa using rv) hw
/-- o[i] = .. -/
def gSub (to ti : TE) (t : TSet) : TG := fun v σ H Q => to σ H fun o H1 => ti σ H1 fun i H2 => t o i v H2 fun H3 => Q σ H3
theorem pg_sub {o i : Expr} {to ti : TE} {t : TSet} (ho : PE X o to) (hi : PE X i ti) (hs : PSet X t)
    (ha : ∀ v, assign (.Subscript o i pos) X.env v = (do
      let ov ← holding [v] (eval o X.env)
      let iv ← holding [v, ov] (eval i X.env)
      standAt pos
      holding [v, ov, iv] (setItem ov iv v)
      release [v, ov, iv] []) := by intro _; rfl) : PG X (.Subscript o i pos) (gSub to ti t) := by
  intro pins s σ H v u Q I r h
  rw [ha]
  refine wpAny_bind (wpAny_holding (thn (ho pins s σ H _ I h) fun ov s1 ⟨x, H1, I1, r1, q1⟩ => ?_))
  refine wpAny_bind (wpAny_holding (thn (hi pins s1 σ H1 _ I1 q1) fun iv s2 ⟨y, H2, I2, r2, q2⟩ => ?_))
  refine wpAny_bind (wpAny_standAt (wpAny_bind (wpAny_holding (thn (hs pins s2 σ H2 x y v ov iv u _ I2 r1 r2 r q2) fun _ s3 ⟨H3, I3, q3⟩ => ?_))))
  exact wpAny_release ⟨σ, H3, I3, q3⟩
/-- target = value -/
def tAsg (te : TE) (g : TG) : TS := fun D σ H => te σ H fun x H1 => g x σ H1 D.nx
theorem ps_asg {tg e : Expr} {te : TE} {g : TG} (he : PE X e te) (hg : PG X tg g) (hs : swapsWithSole [tg] e pos.line X.env = pure false := by rfl) (hw : swappedStores [tg] e X.env = pure none := by rfl)
    (h1 : (assignEach [tg] X.env).map (·.2) = [assign tg X.env] := by rfl) : PS X (.Assign [tg] e pos) (tAsg te g) := by
  intro pins s σ H D I h
  refine wpAny_Assign_stores (thn (he pins s σ H _ I h) fun v s1 ⟨x, H1, I1, r1, q1⟩ => ?_) hs hw
  rw [h1]
  exact thn (hg pins s1 σ H1 x v _ I1 r1 q1) fun _ s2 q => q
/-- name = value -/
theorem ps_set {i : Nat} {x : Str} {e : Expr} {te : TE} {pos' : Pos} (hN : X.N.Nodup) (hi : X.N[i]? = some x) (hx : Loc X.env.scope x) (he : PE X e te) (hs : swapsWith e (some (.Name x pos')) pos.line X.env = pure false := by rfl) (hf : X.fn x = true ∨ X.env.scope.names.lookup x = some .local := by first | exact .inl rfl | exact .inr rfl | assumption) :
    PS X (.Assign [.Name x pos'] e pos) (tAsg te (gName i)) := by
  intro pins s σ H D I h
  refine wpAny_Assign_Name (thn (he pins s σ H _ I h) fun v s1 ⟨y, H1, I1, r1, q1⟩ => ?_) hs
  exact store_ok I1 hN hi hx r1 (fun s2 I2 => ⟨_, H1, I2, q1⟩) hf
/-- a, b = x, y with plain local names: stored from the right; the pair itself is not tracked (the opening rows as in PyProof/Rows/TupAssign.lean:23) -/
def tPar (i j : Nat) (ta : TA) : TS := fun D σ H => ta σ H fun vs H1 => ∃ v w, vs = [v, w] ∧ D.nx ((σ.set i (some v)).set j (some w)) H1
/-- name op= e -/
def tAug (i : Nat) (te : TE) (ti : TIp) : TS := fun D σ H => ∃ x, σ[i]? = some (some x) ∧ te σ H fun y H1 => ti x y H1 fun z H2 => D.nx (σ.set i (some z)) H2
/-- o[i] op= e -/
def tAugS (to ti te : TE) (tget : V → V → Hp → VK → Prop) (tip : TIp) (tset : TSet) : TS := fun D σ H => to σ H fun o H1 => ti σ H1 fun i H2 => tget o i H2 fun x H3 => te σ H3 fun y H4 => tip x y H4 fun z H5 => tset o i z H5 fun H6 => D.nx σ H6
/-- o[i], by values -/
def PGet (X : Cx) (t : V → V → Hp → VK → Prop) : Prop :=
  ∀ (pins : List (Addr × Obj)) (s : Shared) (σ : St) (H : Hp) (o i : V) (ov iv : Value) (Q : VK), Inv X pins σ H s → RelV o ov → RelV i iv → t o i H Q →
    wpAny (model X.prog X.w) X.A (getItem ov iv) (EP X pins σ Q) X.xe s
/-- ints -/
def ipI (f : Int → Int → Int) : TIp := fun x y H Q => ∃ i j, x = .int i ∧ y = .int j ∧ Q (.int (f i j)) H
end

/-! ### while -/
section
variable {X : Cx} {pos : Pos}
/-- the invariant W with its measure -/
def tWhile (c : TT) (tb : TS) : TS := fun D σ H => ∃ W : Nat → St → Hp → Prop, (∃ m, W m σ H) ∧ ∀ m σ H, W m σ H →
  c σ H fun b H1 => if b = true then ∃ N : St → Hp → Prop, (∀ σ' H', N σ' H' → ∃ m', m' < m ∧ W m' σ' H') ∧ tb { D with nx := N, ct := N, bk := D.nx } σ H1 else D.nx σ H1
theorem ps_while {c : Expr} {body : List Stmt} {tc : TT} {tb : TS} (hp : PassesOwn (model X.prog X.w) X.A X.env X.xe) (hc : PT X c tc) (hb : PSs X body tb) : PS X (.While c body [] pos) (tWhile tc tb) := by
  intro pins s σ H D I h
  obtain ⟨W, ⟨m0, w0⟩, turn⟩ := h
  refine wpAny_While (codeAny_whileLoop (fun n s' => ∃ σ' H', Inv X pins σ' H' s' ∧ W n σ' H') ?_ m0 ⟨σ, H, I, w0⟩)
  rintro n s1 ⟨σ1, H1, I1, w1⟩
  refine wpAny_passesOwn hp (thn (hc pins s1 σ1 H1 _ I1 (turn n σ1 H1 w1)) fun b s2 ⟨H2, I2, q2⟩ => ?_)
  cases b with
  | true =>
    obtain ⟨N, hN, q2⟩ := q2
    rw [if_pos rfl]
    refine wpAny_passesOwn hp (thn (hb pins s2 σ1 H2 _ I2 q2) fun f s3 q3 => ?_)
    cases f with
    | next =>
      obtain ⟨σ3, H3, I3, n3⟩ := q3
      obtain ⟨m', hm, w3⟩ := hN σ3 H3 n3
      exact ⟨m', hm, σ3, H3, I3, w3⟩
    | cont =>
      obtain ⟨σ3, H3, I3, n3⟩ := q3
      obtain ⟨m', hm, w3⟩ := hN σ3 H3 n3
      exact ⟨m', hm, σ3, H3, I3, w3⟩
    | brk => exact q3
    | ret v => exact q3
  | false =>
    rw [if_neg Bool.false_ne_true]
    exact wpAny_execs_nil ⟨σ1, H2, I2, q2⟩
end

/-! ### what a loop or a comprehension walks -/
/-- at turn i: it yields x (the heap may grow), or it stops -/
structure It where
  go : Nat → Hp → Prop
  yld : Nat → Hp → V → Hp → Prop
  stop : Nat → Hp → Prop
/-- the iterator's own objects may turn: they are not the frame's, not pinned, younger than the entry (or a comprehension's own) -/
def FpOk (X : Cx) (pins : List (Addr × Obj)) (H : Hp) (b : Addr) : Prop :=
  H b = none ∧ b ≠ X.env.locals ∧ b ∉ X.fs ∧ (b ∈ X.ex ∨ X.s₀.heap.objs.size ≤ b) ∧ (∀ x c, X.env.cells.lookup x = some c → c ≠ b) ∧ ∀ p ∈ X.pn ++ pins, p.1 ≠ b
theorem Inv.fpOk {X : Cx} {pins : List (Addr × Obj)} {σ : St} {H H' : Hp} {s : Shared} {b : Addr} (I : Inv X pins σ H s) (hb : s.heap.objs.size ≤ b) (hn : H' b = none) : FpOk X pins H' b := by
  refine ⟨hn, Nat.ne_of_gt (Nat.lt_of_lt_of_le I.lt hb), I.nofs hb, .inr (Nat.le_trans I.sz hb), fun x c e z => ?_, fun p hp z => ?_⟩
  · obtain ⟨v, q⟩ := I.cell x c e
    exact absurd (Nat.lt_of_lt_of_le q.lt (by rw [z]; exact hb)) (Nat.lt_irrefl _)
  · exact absurd (Nat.lt_of_lt_of_le (Heap.lt_size (I.pin p hp).1) (by rw [z]; exact hb)) (Nat.lt_irrefl _)
structure Turn (P : Program) (w : World) (K : PySem.W.Frag) (tg : Expr) (J : It) (fp : List Addr) (it : Addr) (tn : Nat → Heap → Prop) : Prop where
  mem : it ∈ fp
  obj : ∀ i h, tn i h → ∀ b ∈ fp, ∃ o, h.get? b = some o ∧ ∀ v, o.data ≠ .cell v
  keep : ∀ i h h', tn i h → (∀ b ∈ fp, ∀ o, h.get? b = some o → h'.get? b = some o) → tn i h'
  item : ∀ (X : Cx), X.prog = P → X.w = w → X.K = K → X.calm = true → ∀ (i : Nat) (pins : List (Addr × Obj)) (s : Shared) (σ : St) (H : Hp) (E : Value → Shared → Prop), Inv X pins σ H s → (∀ b ∈ fp, FpOk X pins H b) → tn i s.heap → J.go i H →
    wpAny (model P w) X.A (pyNext (.ref it)) (fun r s1 => ∃ u, r = some u ∧
      wpAny (model P w) X.A (letOwnedTupleGo tg (.ref it) u) (fun _ s2 => ∃ x H', Inv X pins σ H' s2 ∧ RelV x u ∧ J.yld i H x H' ∧ tn (i + 1) s2.heap ∧ ∀ b ∈ fp, H' b = none) E s1) E s
  done : ∀ (X : Cx), X.prog = P → X.w = w → X.K = K → X.calm = true → ∀ (i : Nat) (pins : List (Addr × Obj)) (s : Shared) (σ : St) (H : Hp) (E : Value → Shared → Prop), Inv X pins σ H s → (∀ b ∈ fp, FpOk X pins H b) → tn i s.heap → J.stop i H →
    wpAny (model P w) X.A (pyNext (.ref it)) (fun r s1 => r = none ∧ Inv X pins σ H s1) E s
  self : ∀ (A : Around) (i : Nat) (s : Shared) (Q : Value → Shared → Prop) (E : Value → Shared → Prop), tn i s.heap → Q (.ref it) s → wpAny (model P w) A (pyIter (.ref it)) Q E s
abbrev TI := St → Hp → (It → Hp → Prop) → Prop
/-- an iterator has come -/
def PIE (X : Cx) (pins : List (Addr × Obj)) (σ : St) (tg : Expr) (R : It → Hp → Prop) (itv : Value) (s2 : Shared) : Prop :=
  ∃ (it : Addr) (fp : List Addr) (tn : Nat → Heap → Prop) (J : It) (H' : Hp), itv = .ref it ∧ Inv X pins σ H' s2 ∧ Turn X.prog X.w X.K tg J fp it tn ∧ tn 0 s2.heap ∧ (∀ b ∈ fp, FpOk X pins H' b) ∧ R J H'
def PI (X : Cx) (tg iter : Expr) (wi : TI) : Prop :=
  ∀ (pins : List (Addr × Obj)) (s : Shared) (σ : St) (H : Hp) (R : It → Hp → Prop), Inv X pins σ H s → wi σ H R →
    wpAny (model X.prog X.w) X.A (eval iter X.env) (fun v s1 => wpAny (model X.prog X.w) X.A (pyIter v) (PIE X pins σ tg R) X.xe s1) X.xe s

/-- the step ahead of the store is nothing for an iterator that keeps no tuple -/
theorem go_of {M : Model} {A : Around} {E : Value → Shared → Prop} {s : Shared} {tg : Expr} {it : Addr} {u : Value} {o : Obj} {n : String} {vs : Array Value} {Q : Unit → Shared → Prop} (ho : s.heap.get? it = some o) (hc : o.cls = .type n) (hd : o.data = .fields vs)
    (hn : ["enumerate", "zip", "dict_itemiterator", "dict_reverseitemiterator", "odict_iterator", "itertools.zip_longest", "itertools.pairwise"].contains n = false) (hQ : Q () s) : wpAny M A (letOwnedTupleGo tg (.ref it) u) Q E s := by
  unfold letOwnedTupleGo
  cases tg <;> first
    | exact wpAny_pure hQ
    | (cases u <;> first
        | exact wpAny_pure hQ
        | (refine wpAny_bind (wpAny_load ho ?_)
           rw [hc, hd]
           show wpAny M A (if (["enumerate", "zip", "dict_itemiterator", "dict_reverseitemiterator", "odict_iterator", "itertools.zip_longest", "itertools.pairwise"].contains n && vs[0]? == some (rawInt _)) = true then _ else _) Q E s
           rw [if_neg (by intro h; rw [hn, Bool.false_and] at h; cases h)]
           exact wpAny_pure hQ))

/-- the list at a, as it stands at each turn (a loop may append to it) -/
def Itl (K : PySem.W.Frag) (a : Addr) : It :=
  ⟨fun i H => ∃ xs x, SqL K H a xs ∧ xs[i]? = some x, fun i H x H' => H' = H ∧ ∀ xs, SqL K H a xs → xs[i]? = some x, fun i H => ∃ xs, SqL K H a xs ∧ xs.length ≤ i⟩
def Itt (K : PySem.W.Frag) (a : Addr) : It :=
  ⟨fun i H => ∃ xs x, SqT K H a xs ∧ xs[i]? = some x, fun i H x H' => H' = H ∧ ∀ xs, SqT K H a xs → xs[i]? = some x, fun i H => ∃ xs, SqT K H a xs ∧ xs.length ≤ i⟩
/-- lo, lo + 1, .. (n of them) -/
def Itr (lo : Int) (n : Nat) : It := ⟨fun i _ => i < n, fun i H x H' => H' = H ∧ x = .int (lo + i), fun i _ => n ≤ i⟩
theorem turn_list {P : Program} {w : World} {K : PySem.W.Frag} {tg : Expr} (a it : Addr) : Turn P w K tg (Itl K a) [it] it (fun i h => h.IsListIter it a i) where
  mem := by simp
  obj := fun i h st b hb => by
    have e : b = it := by simpa using hb
    subst e
    obtain ⟨o, e, c, d⟩ := st
    exact ⟨o, e, fun v z => by rw [d] at z; cases z⟩
  keep := fun i h h' st k => st.at fun o e => k it (by simp) o e
  item := by
    intro X hP hw hK hc i pins s σ H E I hf st hg
    subst hP hw hK
    obtain ⟨xs, x, hq, hx⟩ := hg
    obtain ⟨its, rv, p, hz⟩ := I.list hq
    obtain ⟨u, hu, ru⟩ := rv.get hx
    obtain ⟨f0, f1, f2, f3, f4, f5⟩ := hf it (by simp)
    refine wpAny_pyNext_list_item st p.isList (x := u) (by simpa using hu) fun h' st' sb => ?_
    have I1 : Inv X pins σ H { s with heap := h' } := I.turned (t' := s.toks) (fun b o hb e => (sb.2 b hb).trans e) f0 f1 f3 f4 f5
    obtain ⟨o, e, c, d⟩ := id st'
    exact ⟨u, rfl, go_of (s := { s with heap := h' }) e c d (by decide) ⟨x, H, I1, ru, ⟨rfl, fun ys hy => by rw [I.list_inj hy hq]; exact hx⟩, st', fun b hb => (hf b hb).1⟩⟩
  done := by
    intro X hP hw hK hc i pins s σ H E I hf st hg
    subst hP hw hK
    obtain ⟨xs, hq, hx⟩ := hg
    obtain ⟨its, rv, p, hz⟩ := I.list hq
    obtain ⟨f0, f1, f2, f3, f4, f5⟩ := hf it (by simp)
    have hl := rv.length
    exact wpAny_pyNext_list_end (I.ok.hd hc) st p.isList (by simp; omega) fun h' eb => ⟨rfl, I.turned (t' := s.toks) (fun b o hb e => eb b o hb e) f0 f1 f3 f4 f5⟩
  self := fun _ _ _ _ _ st h => wpAny_pyIter_listiter st h
theorem turn_tuple {P : Program} {w : World} {K : PySem.W.Frag} {tg : Expr} (a it : Addr) : Turn P w K tg (Itt K a) [it] it (fun i h => h.IsTupleIter it a i) where
  mem := by simp
  obj := fun i h st b hb => by
    have e : b = it := by simpa using hb
    subst e
    obtain ⟨o, e, c, d⟩ := st
    exact ⟨o, e, fun v z => by rw [d] at z; cases z⟩
  keep := fun i h h' st k => st.at fun o e => k it (by simp) o e
  item := by
    intro X hP hw hK hc i pins s σ H E I hf st hg
    subst hP hw hK
    obtain ⟨xs, x, hq, hx⟩ := hg
    obtain ⟨its, rv, p, hz⟩ := I.tuple hq
    obtain ⟨u, hu, ru⟩ := rv.get hx
    obtain ⟨f0, f1, f2, f3, f4, f5⟩ := hf it (by simp)
    refine wpAny_pyNext_tuple_item st (show s.heap.IsTuple a its.toArray from p) (x := u) (by simpa using hu) fun h' st' sb => ?_
    have I1 : Inv X pins σ H { s with heap := h' } := I.turned (t' := s.toks) (fun b o hb e => (sb.2 b hb).trans e) f0 f1 f3 f4 f5
    obtain ⟨o, e, c, d⟩ := id st'
    exact ⟨u, rfl, go_of (s := { s with heap := h' }) e c d (by decide) ⟨x, H, I1, ru, ⟨rfl, fun ys hy => by rw [I.tuple_inj hy hq]; exact hx⟩, st', fun b hb => (hf b hb).1⟩⟩
  done := by
    intro X hP hw hK hc i pins s σ H E I hf st hg
    subst hP hw hK
    obtain ⟨xs, hq, hx⟩ := hg
    obtain ⟨its, rv, p, hz⟩ := I.tuple hq
    obtain ⟨f0, f1, f2, f3, f4, f5⟩ := hf it (by simp)
    have hl := rv.length
    exact wpAny_pyNext_tuple_end (I.ok.hd hc) st (show s.heap.IsTuple a its.toArray from p) (by simp; omega) fun h' eb => ⟨rfl, I.turned (t' := s.toks) (fun b o hb e => eb b o hb e) f0 f1 f3 f4 f5⟩
  self := fun _ _ _ _ _ st h => wpAny_pyIter_tupleiter st h
theorem turn_range {P : Program} {w : World} {K : PySem.W.Frag} {tg : Expr} (it : Addr) (lo : Int) (n : Nat) : Turn P w K tg (Itr lo n) [it] it (fun i h => IsRangeIter h it (lo + (i : Nat) * 1) ((n : Int) - (i : Nat)) 1) where
  mem := by simp
  obj := fun i h st b hb => by
    have e : b = it := by simpa using hb
    subst e
    exact ⟨_, st, fun v z => by
      have z' : Data.fields _ = Data.cell v := z
      cases z'⟩
  keep := fun i h h' st k => k it (by simp) _ st
  item := by
    intro X hP hw hK hc i pins s σ H E I hf st hg
    subst hP hw hK
    obtain ⟨f0, f1, f2, f3, f4, f5⟩ := hf it (by simp)
    have W := Walks.range (prog := X.prog) (w := X.w) (I.ok.hd hc) it lo 1 n
    refine W.item i s _ _ hg st fun v h' tk hv st' kk => ?_
    obtain ⟨t, rfl⟩ := hv
    have I1 : Inv X pins σ H { s with heap := h', toks := tk } := I.turned (fun b o hb e => kk b o (by simpa using hb) e) f0 f1 f3 f4 f5
    refine ⟨_, rfl, go_of (s := { s with heap := h', toks := tk }) (n := "range_iterator") st' rfl rfl (by decide) ⟨.int (lo + i), H, I1, ⟨t, ?_⟩, ⟨rfl, rfl⟩, st', fun b hb => (hf b hb).1⟩⟩
    rw [Int.mul_one]
  done := by
    intro X hP hw hK hc i pins s σ H E I hf st hg
    subst hP hw hK
    obtain ⟨f0, f1, f2, f3, f4, f5⟩ := hf it (by simp)
    exact wpAny_pyNext_range_end (I.ok.hd hc) st (by have : n ≤ i := hg; omega) fun h' eb => ⟨rfl, I.turned (t' := s.toks) (fun b o hb e => eb b o hb e) f0 f1 f3 f4 f5⟩
  self := fun _ _ _ _ _ st h => wpAny_pyIter_rangeiter st h
end L2

namespace L2
open PySem PySem.Spec PyProof.Rows
section
variable {X : Cx} {tg : Expr}
def iList (K : PySem.W.Frag) (tl : TE) : TI := fun σ H R => tl σ H fun x H1 => ∃ a, x = .ref a ∧ (∃ xs, SqL K H1 a xs) ∧ R (Itl K a) H1
def iTup (K : PySem.W.Frag) (tl : TE) : TI := fun σ H R => tl σ H fun x H1 => ∃ a, x = .ref a ∧ (∃ xs, SqT K H1 a xs) ∧ R (Itt K a) H1
theorem pi_tup {l : Expr} {tl : TE} (hl : PE X l tl) : PI X tg l (iTup X.K tl) := by
  intro pins s σ H R I h
  refine thn (hl pins s σ H _ I h) fun v s1 ⟨x, H1, I1, r1, q1⟩ => ?_
  obtain ⟨a, e, ⟨xs, hq⟩, q⟩ := q1
  subst e
  cases r1
  obtain ⟨its, rv, p, hz⟩ := I1.tuple hq
  refine wpAny_pyIter_tuple (show s1.heap.IsTuple a its.toArray from p) ?_
  refine ⟨s1.heap.objs.size, [s1.heap.objs.size], _, _, H1, rfl, I1.kept (t' := s1.toks) fun b o e => Heap.get?_push_of_some _ e, turn_tuple a _, ⟨_, Heap.get?_push_size _ rfl, rfl, rfl⟩, fun b hb => ?_, q⟩
  have e : b = s1.heap.objs.size := by simpa using hb
  subst e
  exact I1.fpOk (Nat.le_refl _) (I1.hok.fresh (Nat.le_refl _))
/-- a range object just made, walked -/
theorem range_it {pins : List (Addr × Obj)} {σ : St} {H : Hp} {s : Shared} {R : It → Hp → Prop} {E : Value → Shared → Prop} {lo hi : Int} {t u v : Tok} {tk : Nat} (I : Inv X pins σ H s) (h1 : -(2 ^ 62) ≤ lo) (h2 : lo < 2 ^ 62) (h3 : -(2 ^ 62) ≤ hi) (h4 : hi < 2 ^ 62)
    (q : R (Itr lo (hi - lo).toNat) H) : wpAny (model X.prog X.w) X.A (pyIter (.ref s.heap.objs.size)) (PIE X pins σ tg R) E { s with heap := s.heap.push { cls := .type "range", data := .fields #[.int lo t, .int hi u, .int 1 v] }, toks := tk } := by
  refine wpAny_pyIter_range (IsRange.new ..) (small_one h1 h2 h3 h4) ?_
  have I1 : Inv X pins σ H { s with heap := s.heap.push { cls := .type "range", data := .fields #[.int lo t, .int hi u, .int 1 v] }, toks := tk } := I.kept fun b o e => Heap.get?_push_of_some _ e
  refine ⟨(s.heap.push { cls := .type "range", data := .fields #[.int lo t, .int hi u, .int 1 v] }).objs.size, [(s.heap.push { cls := .type "range", data := .fields #[.int lo t, .int hi u, .int 1 v] }).objs.size], _, _, H, rfl,
    I1.kept (t' := tk) fun b o e => Heap.get?_push_of_some _ e, turn_range _ lo (hi - lo).toNat, ?_, fun b hb => ?_, q⟩
  · have e1 : lo + ((0 : Nat) : Int) * 1 = lo := by simp
    have e2 : (((hi - lo).toNat : Nat) : Int) - ((0 : Nat) : Int) = Builtin.Range.rangeSize lo hi 1 := by rw [rangeSize_one]; split <;> omega
    show IsRangeIter _ _ (lo + ((0 : Nat) : Int) * 1) ((((hi - lo).toNat : Nat) : Int) - ((0 : Nat) : Int)) 1
    rw [e1, e2]
    exact Heap.get?_push_size _ rfl
  · have e : b = (s.heap.push { cls := .type "range", data := .fields #[.int lo t, .int hi u, .int 1 v] }).objs.size := by simpa using hb
    subst e
    exact I1.fpOk (Nat.le_refl _) (I1.hok.fresh (Nat.le_refl _))
def iRng1 (ta : TA) : TI := fun σ H R => ta σ H fun vs H1 => ∃ j : Int, vs = [.int j] ∧ -(2 ^ 62) ≤ j ∧ j < 2 ^ 62 ∧ R (Itr 0 j.toNat) H1
def iRng2 (ta : TA) : TI := fun σ H R => ta σ H fun vs H1 => ∃ i j : Int, vs = [.int i, .int j] ∧ (-(2 ^ 62) ≤ i ∧ i < 2 ^ 62 ∧ -(2 ^ 62) ≤ j ∧ j < 2 ^ 62) ∧ R (Itr i (j - i).toNat) H1
theorem pi_range1 {a : Expr} {ta : TA} {p pos : Pos} (hg : Gl X "range") (hm : X.mg "range" = none) (ha : PA X [a] ta) (hs : starEach [a] X.env = [(false, eval a X.env)] := by rfl) : PI X tg (.Call (.Name "range" p) [a] [] pos) (iRng1 ta) := by
  intro pins s σ H R I h
  refine Call_ (ld_blt I hg hm boot_range (PyProof.Rows.callWith_type1 (thn (ha pos pins s σ H _ I h) fun us s1 ⟨vs, H1, I1, r1, q1⟩ => ?_) hs rfl))
  obtain ⟨j, e, q1, q2, q⟩ := q1
  subst e
  cases r1 with
  | cons r rr =>
    cases rr
    obtain ⟨t, rfl⟩ := r
    exact call_range_1 (range_it I1 (by omega) (by omega) q1 q2 (by simpa using q))
theorem pi_range2 {a b : Expr} {ta : TA} {p pos : Pos} (hg : Gl X "range") (hm : X.mg "range" = none) (ha : PA X [a, b] ta) (hs : starEach [a, b] X.env = [(false, eval a X.env), (false, eval b X.env)] := by rfl) (hs2 : starEach [b] X.env = [(false, eval b X.env)] := by rfl) :
    PI X tg (.Call (.Name "range" p) [a, b] [] pos) (iRng2 ta) := by
  intro pins s σ H R I h
  refine Call_ (ld_blt I hg hm boot_range (PyProof.Rows.callWith_type1 (thn (ha pos pins s σ H _ I h) fun us s1 ⟨vs, H1, I1, r1, q1⟩ => ?_) (by rw [hs, hs2]) (by rw [hs2]; rfl)))
  obtain ⟨i, j, e, ⟨q1, q2, q3, q4⟩, q⟩ := q1
  subst e
  cases r1 with
  | cons r rr =>
    cases rr with
    | cons r' rr =>
      cases rr
      obtain ⟨t, rfl⟩ := r
      obtain ⟨t', rfl⟩ := r'
      exact call_range_2 (range_it I1 q1 q2 q3 q4 q)

/-! ### for -/
/-- W: the invariant by the turn and a measure; N: what the body is to reach -/
def tFor (wi : TI) (g : TG) (tb : TS) : TS := fun D σ H => wi σ H fun J H1 => ∃ W : Nat → Nat → St → Hp → Prop, (∃ m, W 0 m σ H1) ∧ ∀ i m σ H, W i m σ H →
  (J.stop i H ∧ D.nx σ H) ∨ (J.go i H ∧ ∃ N : St → Hp → Prop, (∀ σ' H', N σ' H' → ∃ m', m' < m ∧ W (i + 1) m' σ' H') ∧ ∀ x H', J.yld i H x H' → g x σ H' fun σ2 H2 => tb { D with nx := N, ct := N, bk := D.nx } σ2 H2)
/-- the records at fp as they stand -/
def pinsAt (fp : List Addr) (h : Heap) : List (Addr × Obj) := fp.filterMap fun b => (h.get? b).map fun o => (b, o)
theorem mem_pinsAt {fp : List Addr} {h : Heap} {b : Addr} {o : Obj} (hb : b ∈ fp) (e : h.get? b = some o) : (b, o) ∈ pinsAt fp h := List.mem_filterMap.mpr ⟨b, hb, by rw [e]; rfl⟩
theorem of_pinsAt {fp : List Addr} {h : Heap} {p : Addr × Obj} (hp : p ∈ pinsAt fp h) : p.1 ∈ fp ∧ h.get? p.1 = some p.2 := by
  obtain ⟨b, hb, e⟩ := List.mem_filterMap.mp hp
  cases q : h.get? b with
  | none => rw [q] at e; cases e
  | some o =>
    rw [q] at e
    have e' : (b, o) = p := Option.some.inj e
    subst e'
    exact ⟨hb, q⟩
theorem Inv.pinned {pins : List (Addr × Obj)} {σ : St} {H : Hp} {s : Shared} {fp : List Addr} (I : Inv X pins σ H s) (hf : ∀ b ∈ fp, FpOk X pins H b) (ho : ∀ b ∈ fp, ∃ o, s.heap.get? b = some o ∧ ∀ v, o.data ≠ .cell v) : Inv X (pins ++ pinsAt fp s.heap) σ H s :=
  I.pins_of fun p hp => (List.mem_append.mp hp).elim (fun z => I.pin p (List.mem_append_right _ z)) fun z => by
    obtain ⟨hb, e⟩ := of_pinsAt z
    obtain ⟨f0, f1, f2, _⟩ := hf p.1 hb
    obtain ⟨o, e', d⟩ := ho p.1 hb
    rw [e] at e'; cases e'
    exact ⟨e, f0, f1, f2, d⟩
theorem Inv.unpinned {pins pl : List (Addr × Obj)} {σ : St} {H : Hp} {s : Shared} (I : Inv X (pins ++ pl) σ H s) : Inv X pins σ H s := I.pins_of fun p hp => I.pin p (List.mem_append_right _ (List.mem_append_left _ hp))
theorem ps_for {iter : Expr} {body : List Stmt} {wi : TI} {g : TG} {tb : TS} {pos : Pos} (hp : PassesOwn (model X.prog X.w) X.A X.env X.xe) (hc : X.calm = true) (hi : PI X tg iter wi) (hg : PG X tg g) (hb : PSs X body tb)
    (hs : ∀ x, foldedSetIterable iter X.env x = pure x := by intro _; rfl) : PS X (.For tg iter body [] pos) (tFor wi g tb) := by
  intro pins s σ H D I h
  refine wpAny_For (thn (hi pins s σ H _ I h) fun v s1 h1 => thn h1 fun itv s2 h2 => ?_) hs
  obtain ⟨it, fp, tn, J, H2, e, I2, T, st2, f2, W, ⟨m0, w0⟩, turn⟩ := h2
  subst e
  -- what stays true of the iterator's objects through the loop
  have stat : ∀ {H' : Hp}, (∀ b ∈ fp, H' b = none) → ∀ b ∈ fp, FpOk X pins H' b := fun hn b hb => ⟨hn b hb, (f2 b hb).2⟩
  refine codeAny_forLoop_any (fun n s' => ∃ i σ' H', Inv X pins σ' H' s' ∧ tn i s'.heap ∧ (∀ b ∈ fp, H' b = none) ∧ W i n σ' H') ?_ m0 ⟨0, σ, H2, I2, st2, fun b hb => (f2 b hb).1, w0⟩
  rintro n s3 ⟨i, σ3, H3, I3, st3, fr3, w3⟩
  rcases turn i n σ3 H3 w3 with ⟨stop, qn⟩ | ⟨go, N, hN, step⟩
  · refine wpAny_passesOwn hp (thn (T.done X rfl rfl rfl hc i pins s3 σ3 H3 X.xe I3 (stat fr3) st3 stop) fun r s4 ⟨hr, I4⟩ => ?_)
    subst hr
    exact wpAny_execs_nil ⟨σ3, H3, I4, qn⟩
  · refine wpAny_passesOwn hp (thn (T.item X rfl rfl rfl hc i pins s3 σ3 H3 X.xe I3 (stat fr3) st3 go) fun r s4 ⟨u, hr, h4⟩ => ?_)
    subst hr
    refine wpAny_passesOwn hp (thn h4 fun _ s5 ⟨x, H5, I5, r5, y5, st5, fr5⟩ => ?_)
    have I5' := I5.pinned (stat fr5) (T.obj _ _ st5)
    refine wpAny_passesOwn hp (thn (hg _ s5 σ3 H5 x u _ I5' r5 (step x H5 y5)) fun _ s6 ⟨σ6, H6, I6, q6⟩ => ?_)
    refine wpAny_passesOwn hp (thn (hb _ s6 σ6 H6 _ I6 q6) fun f s7 q7 => ?_)
    have again : ∀ {σ7 : St} {H7 : Hp}, Inv X (pins ++ pinsAt fp s5.heap) σ7 H7 s7 → N σ7 H7 → ∃ m, m < n ∧ ∃ i σ' H', Inv X pins σ' H' s7 ∧ tn i s7.heap ∧ (∀ b ∈ fp, H' b = none) ∧ W i m σ' H' := fun {σ7 H7} I7 n7 => by
      obtain ⟨m', hm, w7⟩ := hN σ7 H7 n7
      refine ⟨m', hm, i + 1, σ7, H7, I7.unpinned, T.keep _ _ _ st5 fun b hb o e => (I7.pin (b, o) (List.mem_append_right _ (List.mem_append_right _ (mem_pinsAt hb e)))).1, fun b hb => ?_, w7⟩
      obtain ⟨o, e, d⟩ := T.obj _ _ st5 b hb
      exact (I7.pin (b, o) (List.mem_append_right _ (List.mem_append_right _ (mem_pinsAt hb e)))).2.1
    cases f with
    | next => obtain ⟨σ7, H7, I7, n7⟩ := q7; exact again I7 n7
    | cont => obtain ⟨σ7, H7, I7, n7⟩ := q7; exact again I7 n7
    | brk => obtain ⟨σ7, H7, I7, q7⟩ := q7; exact ⟨σ7, H7, I7.unpinned, q7⟩
    | ret v => obtain ⟨x7, σ7, H7, I7, r7, q7⟩ := q7; exact ⟨x7, σ7, H7, I7.unpinned, r7, q7⟩
end

/-! ### the forms one uses -/
end L2

namespace L2
open PySem PySem.Spec PyProof.Rows

abbrev R2 := V → V → Hp → VK → Prop
/-- a two-place operation on values: f is binaryOp op, inplaceOp op or compareOp op -/
def OpR (X : Cx) (f : Value → Value → Sem Value) (r : R2) : Prop :=
  ∀ (pins : List (Addr × Obj)) (s : Shared) (σ : St) (H : Hp) (x y : V) (v u : Value) (Q : VK), Inv X pins σ H s → RelV x v → RelV y u → r x y H Q →
    wpAny (model X.prog X.w) X.A (f v u) (EP X pins σ Q) X.xe s
/-- a one-place operation -/
def UnR (X : Cx) (f : Value → Sem Value) (r : V → Hp → VK → Prop) : Prop :=
  ∀ (pins : List (Addr × Obj)) (s : Shared) (σ : St) (H : Hp) (x : V) (v : Value) (Q : VK), Inv X pins σ H s → RelV x v → r x H Q →
    wpAny (model X.prog X.w) X.A (f v) (EP X pins σ Q) X.xe s
/-- a call of a value that is known (a builtin, a type) with values -/
def CallR (X : Cx) (f : Value) (r : List V → Hp → VK → Prop) : Prop :=
  ∀ (pins : List (Addr × Obj)) (s : Shared) (σ : St) (H : Hp) (xs : List V) (us : List Value) (Q : VK), Inv X pins σ H s → Vals xs us → r xs H Q →
    wpAny (model X.prog X.w) X.A (call f us) (EP X pins σ Q) X.xe s
/-- a value's truth -/
def TruR (X : Cx) (r : V → Hp → (Bool → Hp → Prop) → Prop) : Prop :=
  ∀ (pins : List (Addr × Obj)) (s : Shared) (σ : St) (H : Hp) (x : V) (v : Value) (Q : Bool → Hp → Prop), Inv X pins σ H s → RelV x v → r x H Q →
    wpAny (model X.prog X.w) X.A (truthy v) (TP X pins σ Q) X.xe s

def tOp (r : R2) (ta tb : TE) : TE := fun σ H Q => ta σ H fun x H1 => tb σ H1 fun y H2 => r x y H2 Q
def tUn (r : V → Hp → VK → Prop) (ta : TE) : TE := fun σ H Q => ta σ H fun x H1 => r x H1 Q
/-- ints in, under C, and a value out -/
def rI (C : Int → Int → Prop) (g : Int → Int → V) : R2 := fun x y H Q => ∃ i j, x = .int i ∧ y = .int j ∧ C i j ∧ Q (g i j) H
def rI0 (g : Int → Int → V) : R2 := fun x y H Q => ∃ i j, x = .int i ∧ y = .int j ∧ Q (g i j) H
def rU (g : Int → V) : V → Hp → VK → Prop := fun x H Q => ∃ i, x = .int i ∧ Q (g i) H

section
variable {X : Cx} {a b c : Expr} {ta tb tc : TE} {pos : Pos}

theorem binT (ha : PE X a ta) (hb : PE X b tb) {pins : List (Addr × Obj)} {s : Shared} {σ : St} {H : Hp} {R : V → V → Hp → Prop} (I : Inv X pins σ H s)
    (h : ta σ H fun x H1 => tb σ H1 fun y H2 => R x y H2) {Q : Value → Shared → Prop} {f : Value → Value → Sem Value}
    (hf : ∀ v u s2 x y H2, Inv X pins σ H2 s2 → RelV x v → RelV y u → R x y H2 → wpAny (model X.prog X.w) X.A (f v u) Q X.xe s2) :
    wpAny (model X.prog X.w) X.A (eval a X.env) (fun v s₁ => wpAny (model X.prog X.w) X.A (eval b X.env) (fun u s₂ => wpAny (model X.prog X.w) X.A (f v u) Q X.xe s₂) X.xe s₁) X.xe s := by
  refine thn (ha pins s σ H _ I h) fun v s1 ⟨x, H1, I1, r1, q1⟩ => ?_
  refine thn (hb pins s1 σ H1 _ I1 q1) fun u s2 ⟨y, H2, I2, r2, q2⟩ => ?_
  exact hf v u s2 x y H2 I2 r1 r2 q2

theorem pe_op {op : Operator} {r : R2} (ho : OpR X (binaryOp op) r) (ha : PE X a ta) (hb : PE X b tb) : PE X (.BinOp a op b pos) (tOp r ta tb) := by
  intro pins s σ H Q I h
  exact wpAny_BinOp (binT ha hb I h fun v u s2 x y H2 I2 rx ry q => ho pins s2 σ H2 x y v u Q I2 rx ry q)
theorem pe_un {op : UnaryOp} {r : V → Hp → VK → Prop} (ho : UnR X (unaryOp op) r) (ha : PE X a ta) : PE X (.UnaryOp op a pos) (tUn r ta) := by
  intro pins s σ H Q I h
  exact UnaryOp_ (thn (ha pins s σ H _ I h) fun v s1 ⟨x, H1, I1, r1, q1⟩ => ho pins s1 σ H1 x v Q I1 r1 q1)
/-! ### ints -/
theorem opI {f : Value → Value → Sem Value} {C : Int → Int → Prop} {g : Int → Int → Int}
    (rule : ∀ (i j : Int) (t u : Tok) (s : Shared) (Q : Value → Shared → Prop) (E : Value → Shared → Prop), C i j → Q (.int (g i j) s.toks) { s with toks := s.toks + 1 } → wpAny (model X.prog X.w) X.A (f (.int i t) (.int j u)) Q E s) :
    OpR X f (rI C fun i j => .int (g i j)) := by
  intro pins s σ H x y v u Q I rx ry h
  obtain ⟨i, j, rfl, rfl, hc, q⟩ := h
  obtain ⟨t, rfl⟩ := rx
  obtain ⟨t', rfl⟩ := ry
  exact rule i j t t' s _ _ hc ⟨.int (g i j), H, I.tok _, ⟨_, rfl⟩, q⟩
theorem opI0 {f : Value → Value → Sem Value} {g : Int → Int → Int}
    (rule : ∀ (i j : Int) (t u : Tok) (s : Shared) (Q : Value → Shared → Prop) (E : Value → Shared → Prop), Q (.int (g i j) s.toks) { s with toks := s.toks + 1 } → wpAny (model X.prog X.w) X.A (f (.int i t) (.int j u)) Q E s) :
    OpR X f (rI0 fun i j => .int (g i j)) := by
  intro pins s σ H x y v u Q I rx ry h
  obtain ⟨i, j, rfl, rfl, q⟩ := h
  obtain ⟨t, rfl⟩ := rx
  obtain ⟨t', rfl⟩ := ry
  exact rule i j t t' s _ _ ⟨.int (g i j), H, I.tok _, ⟨_, rfl⟩, q⟩
theorem opB0 {f : Value → Value → Sem Value} {g : Int → Int → Bool}
    (rule : ∀ (i j : Int) (t u : Tok) (s : Shared) (Q : Value → Shared → Prop) (E : Value → Shared → Prop), Q (.bool (g i j)) s → wpAny (model X.prog X.w) X.A (f (.int i t) (.int j u)) Q E s) :
    OpR X f (rI0 fun i j => .bl (g i j)) := by
  intro pins s σ H x y v u Q I rx ry h
  obtain ⟨i, j, rfl, rfl, q⟩ := h
  obtain ⟨t, rfl⟩ := rx
  obtain ⟨t', rfl⟩ := ry
  exact rule i j t t' s _ _ ⟨.bl (g i j), H, I, rfl, q⟩

def CDiv (i j : Int) : Prop := 0 < j ∧ j < 1073741824
def CDivN (i j : Int) : Prop := j ≠ 0 ∧ j.natAbs < 1073741824
def CPow (i j : Int) : Prop := 0 ≤ j ∧ j ≤ 1000000 ∧ i.natAbs < 2 ^ 64
def CMul (i j : Int) : Prop := (-(2 ^ 64) < i ∧ i < 2 ^ 64) ∨ (-(2 ^ 64) < j ∧ j < 2 ^ 64)
theorem CMul.ok {i j : Int} (h : CMul i j) : IntMulOk i j := by
  rcases h with ⟨h1, h2⟩ | ⟨h1, h2⟩
  · exact .of_left (intBits_le_64 h1 h2)
  · exact .of_right (intBits_le_64 h1 h2)
theorem op_add : OpR X (binaryOp .Add) (rI0 fun i j => .int (i + j)) := opI0 fun _ _ _ _ _ _ _ q => add_int q
theorem op_sub : OpR X (binaryOp .Sub) (rI0 fun i j => .int (i - j)) := opI0 fun _ _ _ _ _ _ _ q => sub_int q
theorem op_modN : OpR X (binaryOp .Mod) (rI (fun _ j => j ≠ 0) fun i j => .int (i.fmod j)) := opI fun _ _ _ _ _ _ _ hc q => mod_int' hc q
theorem unI {f : Value → Sem Value} {g : Int → Int}
    (rule : ∀ (i : Int) (t : Tok) (s : Shared) (Q : Value → Shared → Prop) (E : Value → Shared → Prop), Q (.int (g i) s.toks) { s with toks := s.toks + 1 } → wpAny (model X.prog X.w) X.A (f (.int i t)) Q E s) :
    UnR X f (rU fun i => .int (g i)) := by
  intro pins s σ H x v Q I rx h
  obtain ⟨i, rfl, q⟩ := h
  obtain ⟨t, rfl⟩ := rx
  exact rule i t s _ _ ⟨.int (g i), H, I.tok _, ⟨_, rfl⟩, q⟩
theorem un_neg : UnR X (unaryOp .USub) (rU fun i => .int (-i)) := unI fun _ _ _ _ _ q => neg_int q
/-! ### bools among ints: n += (a < b) -/
end

/-! ### comparisons -/
/-- the scalars that == tells apart as data does -/
def scal : V → V → Bool
  | .non, .non => true | .non, .int _ => true | .int _, .non => true | .non, .bl _ => true | .bl _, .non => true | .non, .str _ => true | .str _, .non => true
  | .int _, .int _ => true | .bl _, .bl _ => true | .str _, .str _ => true | .byt _, .byt _ => true
  | .int _, .str _ => true | .str _, .int _ => true | .bl _, .str _ => true | .str _, .bl _ => true
  | _, _ => false
def rEq : R2 := fun x y H Q => scal x y = true ∧ Q (.bl (decide (x = y))) H
def rNe : R2 := fun x y H Q => scal x y = true ∧ Q (.bl (!decide (x = y))) H

theorem dec_int {i j : Int} : decide (V.int i = V.int j) = (i == j) := by
  rw [Bool.eq_iff_iff]
  simp
theorem dec_bl {i j : Bool} : decide (V.bl i = V.bl j) = (i == j) := by
  rw [Bool.eq_iff_iff]
  simp
theorem dec_str {i j : Str} : decide (V.str i = V.str j) = (i == j) := by
  rw [Bool.eq_iff_iff]
  simp
theorem dec_byt {i j : Array UInt8} : decide (V.byt i = V.byt j) = (i.toList == j.toList) := by
  rw [Bool.eq_iff_iff]
  cases i
  cases j
  simp

section
variable {X : Cx} {a b c : Expr} {ta tb tc : TE} {pos : Pos}
theorem fin_bl {pins : List (Addr × Obj)} {σ : St} {H : Hp} {s : Shared} {Q : VK} {k k' : Bool} (I : Inv X pins σ H s) (q : Q (.bl k) H) (e : k = k') : EP X pins σ Q (.bool k') s := by
  subst e
  exact ⟨.bl k, H, I, rfl, q⟩
theorem op_eq : OpR X (compareOp .Eq) rEq := by
  intro pins s σ H x y v u Q I rx ry h
  obtain ⟨hs, q⟩ := h
  cases x with
  | non =>
    cases rx
    cases y with
    | non => cases ry; exact PySem.EqNone.eq_none_none (fin_bl I q (by simp))
    | bl j => cases ry; exact PySem.EqNone.eq_none_bool (fin_bl I q (by simp))
    | int j => obtain ⟨t', rfl⟩ := ry; exact PySem.EqNone.eq_none_int (fin_bl I q (by simp))
    | str j => obtain ⟨t', rfl⟩ := ry; exact PySem.EqNone.eq_none_str (fin_bl I q (by simp))
    | _ => exact absurd (show false = true from hs) Bool.false_ne_true
  | bl i =>
    cases rx
    cases y with
    | non => cases ry; exact PySem.EqNone.eq_bool_none (fin_bl I q (by simp))
    | bl j => cases ry; exact eq_bool (fin_bl I q dec_bl)
    | str j => obtain ⟨t', rfl⟩ := ry; exact PySem.EqMixed.eq_bool_str (fin_bl I q (by simp))
    | _ => exact absurd (show false = true from hs) Bool.false_ne_true
  | int i =>
    obtain ⟨t, rfl⟩ := rx
    cases y with
    | non => cases ry; exact PySem.EqNone.eq_int_none (fin_bl I q (by simp))
    | int j => obtain ⟨t', rfl⟩ := ry; exact eq_int (fin_bl I q dec_int)
    | str j => obtain ⟨t', rfl⟩ := ry; exact PySem.EqMixed.eq_int_str (fin_bl I q (by simp))
    | _ => exact absurd (show false = true from hs) Bool.false_ne_true
  | str i =>
    obtain ⟨t, rfl⟩ := rx
    cases y with
    | non => cases ry; exact PySem.EqNone.eq_str_none (fin_bl I q (by simp))
    | bl j => cases ry; exact PySem.EqMixed.eq_str_bool (fin_bl I q (by simp))
    | int j => obtain ⟨t', rfl⟩ := ry; exact PySem.EqMixed.eq_str_int (fin_bl I q (by simp))
    | str j => obtain ⟨t', rfl⟩ := ry; exact eq_str (fin_bl I q dec_str)
    | _ => exact absurd (show false = true from hs) Bool.false_ne_true
  | byt i =>
    obtain ⟨t, rfl⟩ := rx
    cases y with
    | byt j => obtain ⟨t', rfl⟩ := ry; exact PySem.W.eq_bytes (fin_bl I q dec_byt)
    | _ => exact absurd (show false = true from hs) Bool.false_ne_true
  | _ => cases y <;> exact absurd (show false = true from hs) Bool.false_ne_true
theorem op_ne : OpR X (compareOp .NotEq) rNe := by
  intro pins s σ H x y v u Q I rx ry h
  obtain ⟨hs, q⟩ := h
  cases x with
  | non =>
    cases rx
    cases y with
    | non => cases ry; exact PySem.EqNone.ne_none_none (fin_bl I q (by simp))
    | bl j => cases ry; exact PySem.EqNone.ne_none_bool (fin_bl I q (by simp))
    | int j => obtain ⟨t', rfl⟩ := ry; exact PySem.EqNone.ne_none_int (fin_bl I q (by simp))
    | str j => obtain ⟨t', rfl⟩ := ry; exact PySem.EqNone.ne_none_str (fin_bl I q (by simp))
    | _ => exact absurd (show false = true from hs) Bool.false_ne_true
  | bl i =>
    cases rx
    cases y with
    | non => cases ry; exact PySem.EqNone.ne_bool_none (fin_bl I q (by simp))
    | bl j => cases ry; exact ne_bool (fin_bl I q (congrArg not dec_bl))
    | str j => obtain ⟨t', rfl⟩ := ry; exact PySem.EqMixed.ne_bool_str (fin_bl I q (by simp))
    | _ => exact absurd (show false = true from hs) Bool.false_ne_true
  | int i =>
    obtain ⟨t, rfl⟩ := rx
    cases y with
    | non => cases ry; exact PySem.EqNone.ne_int_none (fin_bl I q (by simp))
    | int j => obtain ⟨t', rfl⟩ := ry; exact ne_int (fin_bl I q (congrArg not dec_int))
    | str j => obtain ⟨t', rfl⟩ := ry; exact PySem.EqMixed.ne_int_str (fin_bl I q (by simp))
    | _ => exact absurd (show false = true from hs) Bool.false_ne_true
  | str i =>
    obtain ⟨t, rfl⟩ := rx
    cases y with
    | non => cases ry; exact PySem.EqNone.ne_str_none (fin_bl I q (by simp))
    | bl j => cases ry; exact PySem.EqMixed.ne_str_bool (fin_bl I q (by simp))
    | int j => obtain ⟨t', rfl⟩ := ry; exact PySem.EqMixed.ne_str_int (fin_bl I q (by simp))
    | str j => obtain ⟨t', rfl⟩ := ry; exact ne_str (fin_bl I q (congrArg not dec_str))
    | _ => exact absurd (show false = true from hs) Bool.false_ne_true
  | byt i =>
    obtain ⟨t, rfl⟩ := rx
    cases y with
    | byt j => obtain ⟨t', rfl⟩ := ry; exact PySem.W.ne_bytes (fin_bl I q (congrArg not dec_byt))
    | _ => exact absurd (show false = true from hs) Bool.false_ne_true
  | _ => cases y <;> exact absurd (show false = true from hs) Bool.false_ne_true

theorem op_lt : OpR X (compareOp .Lt) (rI0 fun i j => .bl (decide (i < j))) := opB0 fun _ _ _ _ _ _ _ q => lt_int q
theorem op_le : OpR X (compareOp .LtE) (rI0 fun i j => .bl (decide (i ≤ j))) := opB0 fun _ _ _ _ _ _ _ q => le_int q
theorem op_gt : OpR X (compareOp .Gt) (rI0 fun i j => .bl (decide (j < i))) := opB0 fun _ _ _ _ _ _ _ q => gt_int q
theorem op_ge : OpR X (compareOp .GtE) (rI0 fun i j => .bl (decide (j ≤ i))) := opB0 fun _ _ _ _ _ _ _ q => ge_int q
/-- the one string within the other -/
theorem op_in_str : OpR X (compareOp .In) (fun x y H Q => ∃ i j, x = .str i ∧ y = .str j ∧ Q (.bl (!(Builtin.Str.occurrences j i 0 j.length 1).isEmpty)) H) := by
  intro pins s σ H x y v u Q I rx ry h
  obtain ⟨i, j, rfl, rfl, q⟩ := h
  obtain ⟨t, rfl⟩ := rx
  obtain ⟨t', rfl⟩ := ry
  exact in_str (fin_bl I q rfl)

/-- is, is not of two objects that are tracked lists or instances -/
def isObj : HO → Bool
  | .lst _ => true
  | .ins _ _ _ => true
  | _ => false
/-- two rules for one operation: by cases -/
theorem OpR.or {f : Value → Value → Sem Value} {r r' : R2} (h : OpR X f r) (h' : OpR X f r') : OpR X f (fun x y H Q => r x y H Q ∨ r' x y H Q) := by
  intro pins s σ H x y v u Q I rx ry q
  rcases q with q | q
  · exact h pins s σ H x y v u Q I rx ry q
  · exact h' pins s σ H x y v u Q I rx ry q

theorem nomark (b : Expr) {op : CmpOp} (h : op ≠ .In := by decide) (h2 : op ≠ .NotIn := by decide) : behindInMarks op b = false := by
  have e1 : (op == CmpOp.In) = false := by cases op <;> first | rfl | exact absurd rfl h
  have e2 : (op == CmpOp.NotIn) = false := by cases op <;> first | rfl | exact absurd rfl h2
  cases b <;> simp [behindInMarks, e1, e2]
/-- a comparison as a value; hm: nomark b, or (for in, not in) by with_unfolding_all rfl -/
theorem pe_cmpR {op : CmpOp} {r : R2} (ho : OpR X (compareOp op) r) (ha : PE X a ta) (hb : PE X b tb) (hm : behindInMarks op b = false) : PE X (.Compare a [op] [b] pos) (tOp r ta tb) := by
  intro pins s σ H Q I h
  exact wpAny_Compare1 (binT ha hb I h fun v u s2 x y H2 I2 rx ry q => ho pins s2 σ H2 x y v u Q I2 rx ry q) hm
/-- a reading of a value as a test -/
def tTest (t : TE) : TT := fun σ H Q => t σ H fun x H' => ∃ k, x = .bl k ∧ Q k H'
theorem pt_cmpR {op : CmpOp} {r : R2} (ho : OpR X (compareOp op) r) (ha : PE X a ta) (hb : PE X b tb) (hm : behindInMarks op b = false) : PT X (.Compare a [op] [b] pos) (tTest (tOp r ta tb)) := by
  intro pins s σ H Q I h
  refine wpAny_isTrue_Compare1 (thn (ha pins s σ H _ I h) fun v s1 ⟨x, H1, I1, r1, q1⟩ => thn (hb pins s1 σ H1 _ I1 q1) fun u s2 ⟨y, H2, I2, r2, q2⟩ =>
    thn (ho pins s2 σ H2 x y v u _ I2 r1 r2 q2) fun c s3 ⟨z, H3, I3, r3, k, e, q3⟩ => ?_) hm
  subst e
  cases r3
  exact wpAny_truthy_bool ⟨H3, I3, q3⟩
/-- a op1 b op2 c -/
def tChain (r r' : R2) (ta tb tc : TE) : TE := fun σ H Q => ta σ H fun x H1 => tb σ H1 fun y H2 => r x y H2 fun z H3 => ∃ k, z = .bl k ∧
  (if k = true then tc σ H3 fun w' H4 => r' y w' H4 Q else Q (.bl false) H3)
/-! ### truth -/
/-- a value's truth by the abstract heap -/
def TruV (K : PySem.W.Frag) (x : V) (H : Hp) (k : Bool) : Prop :=
  match x with
  | .non => k = false
  | .bl b => k = b
  | .int i => k = (i != 0)
  | .str y => y.length ≤ sizeLine ∧ k = ((y.length : Int) != 0)
  | .byt y => y.size ≤ sizeLine ∧ k = ((y.size : Int) != 0)
  | .ref p => (∃ xs, SqL K H p xs ∧ k = !xs.isEmpty) ∨ (∃ xs, SqT K H p xs ∧ k = !xs.isEmpty) ∨ ∃ kvs, H p = some (.dK kvs) ∧ k = !kvs.isEmpty
  | _ => False
theorem line63 : (sizeLine : Nat) < 2 ^ 63 := by rw [sizeLine_eq]; decide
/-! ### strs and bytes -/
theorem op_add_str : OpR X (binaryOp .Add) (fun x y H Q => ∃ i j, x = .str i ∧ y = .str j ∧ i.length + j.length ≤ sizeLine ∧ Q (.str (i ++ j)) H) := by
  intro pins s σ H x y v u Q I rx ry h
  obtain ⟨i, j, rfl, rfl, hz, q⟩ := h
  obtain ⟨t, rfl⟩ := rx
  obtain ⟨t', rfl⟩ := ry
  exact add_str (fun t' tk => ⟨.str (i ++ j), H, I.tok _, ⟨_, rfl⟩, q⟩) hz
def PlainIxT (b : Expr) : Prop := ∀ o i, subscripted b false o i = operate [o, i] (getItem o i)
/-! ### scalar builtins, by CallR -/
theorem vals1 {x : V} {us : List Value} (r : Vals [x] us) : ∃ u, us = [u] ∧ RelV x u := by
  cases r with
  | cons r1 r2 => cases r2; exact ⟨_, rfl, r1⟩
theorem vals2 {x y : V} {us : List Value} (r : Vals [x, y] us) : ∃ u w', us = [u, w'] ∧ RelV x u ∧ RelV y w' := by
  cases r with
  | cons r1 r2 =>
    cases r2 with
    | cons r3 r4 => cases r4; exact ⟨_, _, rfl, r1, r3⟩
theorem call_max2 (hc : X.calm = true) : CallR X (.builtin "max") (fun xs H Q => ∃ i j, xs = [.int i, .int j] ∧ Q (.int (if j > i then j else i)) H) := by
  intro pins s σ H xs us Q I r h
  obtain ⟨i, j, rfl, q⟩ := h
  obtain ⟨u, w', rfl, ⟨t, rfl⟩, ⟨t', rfl⟩⟩ := vals2 r
  refine max_two_ints (I.ok.hd hc) fun h' tk k => ⟨_, H, I.kept k, ?_, q⟩
  by_cases hj : j > i
  · rw [if_pos hj, if_pos hj]; exact ⟨_, rfl⟩
  · rw [if_neg hj, if_neg hj]; exact ⟨_, rfl⟩
theorem call_min2 (hc : X.calm = true) : CallR X (.builtin "min") (fun xs H Q => ∃ i j, xs = [.int i, .int j] ∧ Q (.int (if j < i then j else i)) H) := by
  intro pins s σ H xs us Q I r h
  obtain ⟨i, j, rfl, q⟩ := h
  obtain ⟨u, w', rfl, ⟨t, rfl⟩, ⟨t', rfl⟩⟩ := vals2 r
  refine min_two_ints (I.ok.hd hc) fun h' tk k => ⟨_, H, I.kept k, ?_, q⟩
  by_cases hj : j < i
  · rw [if_pos hj, if_pos hj]; exact ⟨_, rfl⟩
  · rw [if_neg hj, if_neg hj]; exact ⟨_, rfl⟩
/-- len of a str, a bytes, a list, a tuple -/
def LenV (K : PySem.W.Frag) (x : V) (H : Hp) (n : Nat) : Prop :=
  match x with
  | .str y => y.length ≤ sizeLine ∧ n = y.length
  | .byt y => y.size ≤ sizeLine ∧ n = y.size
  | .ref p => (∃ xs, SqL K H p xs ∧ n = xs.length) ∨ ∃ xs, SqT K H p xs ∧ n = xs.length
  | _ => False
end
end L2

namespace L2
open PySem PySem.Spec PyProof.Rows

/-! ### an instance, its attributes a map -/
structure ObjM (h : Heap) (x dx C : Addr) (mA : Str → Option Value) : Prop where
  obj : h.get? x = some (PySem.W.instObj C dx)
  ns : h.Ns1 dx mA
  ne : dx ≠ x

theorem lookIn_ns {h : Heap} {dx : Addr} {mA : Str → Option Value} (n : h.Ns1 dx mA) : ∃ od, h.get? dx = some od ∧ ∀ name, PySem.W.lookIn name od = some (mA name) := by
  obtain ⟨o, es, ep, ho, hd, hk, _, hm⟩ := n
  refine ⟨o, ho, fun name => ?_⟩
  have e := hm name
  unfold nsFind findBy at e
  rw [← Array.find?_toList] at e
  unfold PySem.W.lookIn
  rw [hd]
  dsimp only
  split
  · rename_i y q
    rw [q] at e
    exact congrArg some e
  · rename_i q
    rw [q] at e
    have a : es.toList.any (·.refKey) = false := by
      rw [List.any_eq_false]
      intro y hy
      obtain ⟨z, t, hkey⟩ := hk y (Array.mem_toList_iff.mp hy)
      simp [DictEntry.refKey, hkey]
    have a' : ¬ es.toList.any (·.refKey) = true := by rw [a]; exact Bool.false_ne_true
    rw [if_neg a']
    exact congrArg some e

theorem ObjM.look {h : Heap} {x dx C : Addr} {mA : Str → Option Value} (I : ObjM h x dx C mA) : ∃ od, PySem.W.InstAt h x (PySem.W.instObj C dx) C (some od) ∧ ∀ name, PySem.W.lookIn name od = some (mA name) :=
  let ⟨od, ho, hl⟩ := lookIn_ns I.ns
  ⟨od, ⟨I.obj, rfl, rfl, ho⟩, hl⟩

section
variable {prog : Program} {w : World} {A : Around} {E : Value → Shared → Prop} {s : Shared} {K : PySem.W.Frag} {x dx C f : Addr} {mA : Str → Option Value} {name : Str} {v : Value}

theorem get_map {expr : Bool} {Q : Value → Shared → Prop} (X : K.In s.heap) (I : ObjM s.heap x dx C mA) (hg : PySem.W.plainGet K C name = true) (hh : PySem.W.hasDictIn K C = true)
    (ha : PySem.W.findIn K (.ref C) name = some none) (hv : mA name = some v) (hv' : PySem.W.handedIn v = true) (h : Q v { s with toks := s.toks + 1 }) :
    wpAny (model prog w) A (getAttr (.ref x) name expr) Q E s := by
  obtain ⟨od, J, hl⟩ := I.look
  exact PySem.W.get_value X J (PySem.W.plainGet_of hg).1 (PySem.W.findObj_own hh ha rfl (by rw [hl, hv])) hv' h

theorem get_meth {pl : Sem Bool} {Q : Value × List Value → Shared → Prop} (X : K.In s.heap) (I : ObjM s.heap x dx C mA) (hg : PySem.W.plainGet K C name = true)
    (hf : PySem.W.findIn K (.ref C) name = some (some (.ref f))) (ht : PySem.W.isFn K (.ref f) = true) (hv : mA name = none) (h : Q (.ref f, [.ref x]) s) :
    wpAny (model prog w) A (getMethod (.ref x) name pl) Q E s := by
  obtain ⟨od, J, hl⟩ := I.look
  exact PySem.W.method_fn X J (PySem.W.plainGet_of hg).1 (PySem.W.plainGet_of hg).2 hf (beq_iff_eq.mp ht) (by show (PySem.W.lookIn name od).map (·.isSome) = some false; rw [hl, hv]; rfl) h

theorem set_map {ns : List Str} {Q : Unit → Shared → Prop} (X : K.In s.heap) (I : ObjM s.heap x dx C mA)
    (hs : PySem.W.findIn K (.ref C) "__setattr__" = some (some (.builtin "object.__setattr__"))) (hp : PySem.W.plainOver K C = true) (ht : PySem.W.takerIn K C name = some none) (hh : PySem.W.hasDictIn K C = true)
    (hw : PySem.Within mA ns) (hsz : ns.length ≤ sizeLine)
    (h : ∀ h', ObjM h' x dx C (fun y => if y = name then some v else mA y) → Heap.SameBut dx s.heap h' → Q () { s with heap := h', toks := s.toks + 2 }) :
    wpAny (model prog w) A (setAttr (.ref x) name v) Q E s := by
  obtain ⟨od, J, hl⟩ := I.look
  refine PySem.W.set_plain X J hs (PySem.W.osa_open (s := { s with toks := s.toks + 1 }) (r := none) X J hp ht fun b => ?_)
  obtain ⟨cd, hc, hd'⟩ := PySem.W.any_some hh
  have hx : s.heap.get? x = some ⟨.ref C, some dx, .plain, #[]⟩ := I.obj
  refine wpAny_bind (wpAny_pure (wpAny_bind (wpAny_bind (wpAny_loadPart hx (wpAny_bind (PySem.W.Looks.here (s := { s with toks := s.toks + 1 }) (PySem.W.looks_clsIn X hc) ?_))))))
  rw [hd']
  refine wpAny_pure (a := some dx) (wpAny_bind (wpAny_pure (wpAny_bind ?_)))
  refine wpAny_nsSet1 (s := { s with toks := s.toks + 1 }) I.ns fun h' hn2 hs2 => ?_
  obtain ⟨oD, esD, epD, hoD, hdD, hcD⟩ := hn2.count (PySem.Within.cons name v hw)
  refine wpAny_bind (wpAny_lookBehind hoD (by rw [hdD]; exact pastItsLine_dict (Nat.le_trans hcD (by rw [List.length_cons]; omega))) ?_)
  exact wpAny_pure (h _ ⟨(hs2.2 _ (Ne.symm I.ne)).trans I.obj, hn2, I.ne⟩ hs2)

/-- C(..): the dict at the heap's end, the instance behind it; then its __init__ -/
theorem make_map {R : Result → Shared → Prop} {vs : List Value} {kw : List (Str × Value)} (X : K.In s.heap) (hm : PySem.W.makesIn K C = true)
    (hi : PySem.W.findIn K (.ref C) "__init__" = some (some (.ref f))) (hf : PySem.W.typeIn K (.ref f) = some (.type "function"))
    (h : codeAny (model prog w) (A.under (.builtin "type.__call__" ⟨.ref C :: vs, kw⟩)) (.call (.ref f) ⟨.ref (s.heap.objs.size + 1) :: vs, kw⟩) (PySem.W.InitBack (s.heap.objs.size + 1) R)
      { s with heap := (s.heap.push PySem.W.emptyDict).push (PySem.W.instObj C s.heap.objs.size) }) :
    codeAny (model prog w) A (.call (.ref C) ⟨vs, kw⟩) R s := by
  obtain ⟨hh, g, d, t, os⟩ := s
  exact PySem.W.make_core (PySem.W.makes_of X hm) (PySem.W.looks_findIn X hi) (fun self => PySem.W.bind_fn X self hf) (.inl rfl) h
end

/-! ### the attributes as a list of pairs -/
def putF (f : Str) (v : V) : List (Str × V) → List (Str × V)
  | [] => [(f, v)]
  | (g, x) :: r => if g = f then (g, v) :: r else (g, x) :: putF f v r
theorem lookup_putF (f g : Str) (v : V) : ∀ fs : List (Str × V), (putF f v fs).lookup g = if g = f then some v else fs.lookup g
  | [] => by
    show List.lookup g [(f, v)] = _
    by_cases h : g = f
    · have hb : (g == f) = true := beq_iff_eq.mpr h
      simp only [List.lookup, hb, if_pos h]
    · have hb : (g == f) = false := beq_eq_false_iff_ne.mpr h
      simp only [List.lookup, hb, if_neg h]
  | (k, x) :: r => by
    have ih := lookup_putF f g v r
    rw [show putF f v ((k, x) :: r) = (if k = f then (k, v) :: r else (k, x) :: putF f v r) from rfl]
    by_cases hk : k = f
    · rw [if_pos hk]
      by_cases h : g = k
      · have hb : (g == k) = true := beq_iff_eq.mpr h
        simp only [List.lookup, hb, if_pos (h.trans hk)]
      · have hb : (g == k) = false := beq_eq_false_iff_ne.mpr h
        simp only [List.lookup, hb, if_neg (fun e : g = f => h (e.trans hk.symm))]
    · rw [if_neg hk]
      by_cases h : g = k
      · have hb : (g == k) = true := beq_iff_eq.mpr h
        simp only [List.lookup, hb, if_neg (fun e : g = f => hk (h.symm.trans e))]
      · have hb : (g == k) = false := beq_eq_false_iff_ne.mpr h
        simp only [List.lookup, hb]
        exact ih
theorem keys_putF (f : Str) (v : V) : ∀ fs : List (Str × V), f ∈ (putF f v fs).map (·.1) ∧ ∀ g, g ∈ fs.map (·.1) → g ∈ (putF f v fs).map (·.1)
  | [] => ⟨by simp [putF], fun g h => by simp at h⟩
  | (k, x) :: r => by
    obtain ⟨i1, i2⟩ := keys_putF f v r
    rw [show putF f v ((k, x) :: r) = (if k = f then (k, v) :: r else (k, x) :: putF f v r) from rfl]
    by_cases hk : k = f
    · rw [if_pos hk]
      subst hk
      exact ⟨by simp, fun g h => by simpa using h⟩
    · rw [if_neg hk]
      refine ⟨?_, fun g h => ?_⟩
      · rw [List.map_cons]
        exact List.mem_cons_of_mem _ i1
      · rw [List.map_cons] at h ⊢
        rcases List.mem_cons.mp h with e | e
        · exact List.mem_cons.mpr (.inl e)
        · exact List.mem_cons_of_mem _ (i2 g e)
theorem length_putF (f : Str) (v : V) : ∀ fs : List (Str × V), (putF f v fs).length ≤ fs.length + 1
  | [] => by simp [putF]
  | (k, x) :: r => by
    have ih := length_putF f v r
    rw [show putF f v ((k, x) :: r) = (if k = f then (k, v) :: r else (k, x) :: putF f v r) from rfl]
    by_cases hk : k = f
    · rw [if_pos hk, List.length_cons, List.length_cons]; omega
    · rw [if_neg hk, List.length_cons, List.length_cons]; omega

theorem RelO.some_of {v : V} {o : Option Value} (r : RelO (some v) o) : ∃ u, o = some u ∧ RelV v u := by
  cases o with
  | none => exact (show False from r).elim
  | some u => exact ⟨u, rfl, r⟩
theorem RelO.none_of {o : Option Value} (r : RelO none o) : o = none := by
  cases o with
  | none => rfl
  | some u => exact (show False from r).elim
theorem handed_of {v : V} {u : Value} (r : RelV v u) : PySem.W.handedIn u = true := by
  cases v with
  | non => cases (show u = Value.none from r); rfl
  | bl b => cases (show u = Value.bool b from r); rfl
  | int i => obtain ⟨t, e⟩ := (show ∃ t, u = Value.int i t from r); cases e; rfl
  | str x => obtain ⟨t, e⟩ := (show ∃ t, u = Value.str x t from r); cases e; rfl
  | byt b => obtain ⟨t, e⟩ := (show ∃ t, u = Value.bytes b t from r); cases e; rfl
  | flt b => obtain ⟨t, e⟩ := (show ∃ t, u = Value.float b t from r); cases e; rfl
  | ref a => cases (show u = Value.ref a from r); rfl
  | ty n => cases (show u = Value.type n from r); rfl

section
variable {P : Program} {w : World} {H H' : Hp} {h h' : Heap} {a C dx : Addr} {fs fs' : List (Str × V)}
theorem ins_get (hok : HOk P w H h) (e : H a = some (.ins C dx fs)) : ∃ mA, ObjM h a dx C mA ∧ (∀ f, RelO (fs.lookup f) (mA f)) ∧ PySem.Within mA (fs.map (·.1)) ∧ fs.length ≤ 1000 ∧ H dx = some (.own a) := by
  obtain ⟨d, z, ne, ob, mA, n, r, q⟩ := (show ObjOk P w H h a (.ins C dx fs) from hok a _ e)
  exact ⟨mA, ⟨ob, n, ne⟩, r, q, z, d⟩
end

/-! ### what of the text a class must have -/
structure Cls (K : PySem.W.Frag) (C : Addr) : Prop where
  pg : PySem.W.plainGet K C Str.empty = true
  hd : PySem.W.hasDictIn K C = true
  po : PySem.W.plainOver K C = true
  sa : PySem.W.findIn K (.ref C) "__setattr__" = some (some (.builtin "object.__setattr__"))
theorem Cls.get {K : PySem.W.Frag} {C : Addr} (c : Cls K C) (f : Str) : PySem.W.plainGet K C f = true := c.pg
/-- no class of it has the name -/
def NoAttr (K : PySem.W.Frag) (C : Addr) (f : Str) : Prop := PySem.W.findIn K (.ref C) f = some none
theorem NoAttr.taker {K : PySem.W.Frag} {C : Addr} {f : Str} (n : NoAttr K C f) : PySem.W.takerIn K C f = some none := by
  unfold PySem.W.takerIn
  rw [show PySem.W.findIn K (.ref C) f = some none from n]
  rfl
/-- a constant of the class -/
structure Con (K : PySem.W.Frag) (C : Addr) (f : Str) (v : V) (u : Value) : Prop where
  at_ : PySem.W.findIn K (.ref C) f = some (some u)
  rel : RelV v u
  get : PySem.W.specialIn K u "__get__" = some none
  cp : PySem.W.copiedNames.contains f = false
/-- a method: a plain def of the class or of one above it -/
structure Meth (K : PySem.W.Frag) (C : Addr) (m : Str) (f : Addr) : Prop where
  at_ : PySem.W.findIn K (.ref C) m = some (some (.ref f))
  fn : PySem.W.isFn K (.ref f) = true
  kp : PySem.W.keepIn K (.ref f) = true

section
variable {X : Cx} {pins : List (Addr × Obj)} {σ : St} {H : Hp} {s : Shared} {a C dx : Addr} {fs : List (Str × V)} {f : Str} {v : V} {A : Around} {E : Value → Shared → Prop}

theorem getattr_ok {b : Bool} {Q : Value → Shared → Prop} (I : Inv X pins σ H s) (e : H a = some (.ins C dx fs)) (c : Cls X.K C) (n : NoAttr X.K C f) (l : fs.lookup f = some v)
    (h : ∀ u s', Inv X pins σ H s' → RelV v u → Q u s') : wpAny (model X.prog X.w) A (getAttr (.ref a) f b) Q E s := by
  obtain ⟨mA, O, r, _, _, _⟩ := ins_get I.hok e
  obtain ⟨u, hu, ru⟩ := RelO.some_of (v := v) (o := mA f) (by rw [← l]; exact r f)
  exact get_map I.kIn O (c.get f) c.hd n hu (handed_of ru) (h u _ (I.tok _) ru)

theorem getmeth_ok {m : Str} {g : Addr} {pl : Sem Bool} {Q : Value × List Value → Shared → Prop} (I : Inv X pins σ H s) (e : H a = some (.ins C dx fs)) (c : Cls X.K C) (k : Meth X.K C m g) (l : fs.lookup m = none)
    (h : Q (.ref g, [.ref a]) s) : wpAny (model X.prog X.w) A (getMethod (.ref a) m pl) Q E s := by
  obtain ⟨mA, O, r, _, _, _⟩ := ins_get I.hok e
  have hn : mA m = none := RelO.none_of (by rw [← l]; exact r m)
  exact get_meth I.kIn O (c.get m) k.at_ k.fn hn h

theorem setattr_ok {y : V} {u : Value} {Q : Unit → Shared → Prop} (I : Inv X pins σ H s) (e : H a = some (.ins C dx fs)) (c : Cls X.K C) (n : NoAttr X.K C f) (hl : fs.length < 1000) (ry : RelV y u)
    (h : ∀ s', Inv X pins σ (upd H a (.ins C dx (putF f y fs))) s' → Q () s') : wpAny (model X.prog X.w) A (setAttr (.ref a) f u) Q E s := by
  obtain ⟨mA, O, r, wi, _, ho⟩ := ins_get I.hok e
  have hz : (fs.map (·.1)).length ≤ sizeLine := by rw [List.length_map, sizeLine_eq]; omega
  refine set_map I.kIn O c.sa c.po n.taker c.hd wi hz fun h' O' sb => h _ ?_
  have hd : ∃ o, h'.get? dx = some o := let ⟨o, _, _, e', _⟩ := O'.ns; ⟨o, e'⟩
  refine I.write (x := a) (e := dx) (by rw [e]; exact True.intro) (.inr ho) (fun b q hb z => (sb.2 b hb).trans z) hd ?_
  refine ⟨by rw [upd_ne O.ne]; exact ho, ?_, O.ne, O'.obj, _, O'.ns, fun g => ?_, fun g hg => ?_⟩
  · have := length_putF f y fs; omega
  · show RelO ((putF f y fs).lookup g) (if g = f then some u else mA g)
    rw [lookup_putF]
    by_cases q : g = f
    · rw [if_pos q, if_pos q]; exact ry
    · rw [if_neg q, if_neg q]; exact r g
  · by_cases q : g = f
    · rw [q]; exact (keys_putF f y fs).1
    · refine (keys_putF f y fs).2 g (wi g fun z => hg ?_)
      show (if g = f then some u else mA g) = none
      rw [if_neg q]; exact z

/-- a new instance, tracked, without attributes -/
theorem Inv.made (I : Inv X pins σ H s) : Inv X pins σ (upd (upd H s.heap.objs.size (.own (s.heap.objs.size + 1))) (s.heap.objs.size + 1) (.ins C s.heap.objs.size []))
    { s with heap := (s.heap.push PySem.W.emptyDict).push (PySem.W.instObj C s.heap.objs.size) } := by
  have e1 : (s.heap.push PySem.W.emptyDict).get? s.heap.objs.size = some PySem.W.emptyDict := Heap.get?_push_size s.heap rfl
  have e2 : ((s.heap.push PySem.W.emptyDict).push (PySem.W.instObj C s.heap.objs.size)).get? (s.heap.objs.size + 1) = some (PySem.W.instObj C s.heap.objs.size) := by
    have := Heap.get?_push_size (s.heap.push PySem.W.emptyDict) (o := PySem.W.instObj C s.heap.objs.size) rfl
    rwa [Heap.size_push] at this
  have e3 : (s.heap.push PySem.W.emptyDict).Ns s.heap.objs.size (fun _ => none) := ⟨PySem.W.emptyDict, #[], _, e1, rfl, (fun e he => absurd he (by simp)), fun _ => rfl⟩
  have I1 := I.laid (a := s.heap.objs.size) (o := .own (s.heap.objs.size + 1)) (h' := s.heap.push PySem.W.emptyDict) (t' := s.toks) (fun b u q => Heap.get?_push_of_some _ q) (Nat.le_refl _) ⟨_, e1⟩
  refine I1.laid (a := s.heap.objs.size + 1) (o := .ins C s.heap.objs.size []) (t' := s.toks) (fun b u q => Heap.get?_push_of_some _ q) (Nat.le_of_eq (Heap.size_push _ _)) ?_
  have ne : s.heap.objs.size ≠ s.heap.objs.size + 1 := Nat.ne_of_lt (Nat.lt_succ_self _)
  refine ⟨by rw [upd_ne ne, upd_same], Nat.zero_le _, ne, e2, fun _ => none, (Heap.Ns1.of_empty e3).at fun o q => Heap.get?_push_of_some _ q, fun _ => True.intro, fun y hy => absurd rfl hy⟩

/-- e.f where nothing but the object is asked: through attributeBase (super) and the last hold -/
theorem attr_of {prog : Program} {w : World} {env : Env} {e : Expr} {f : Str} {pos : Pos} {s : Shared} {Q : Value → Shared → Prop} (hb : attributeBase e f env (eval e env) = eval e env)
    (h : wpAny (model prog w) A (eval e env) (fun o s₁ => wpAny (model prog w) A (getAttr o f true) Q E s₁) E s) : wpAny (model prog w) A (eval (.Attribute e f pos) env) Q E s :=
  Attribute_any_ h (by rw [arm_eval_Attribute, hb])
end

/-! ### readings and rules -/
/-- e.f, an attribute of the instance -/
def tFld (K : PySem.W.Frag) (ta : TE) (f : Str) : TE := fun σ H Q => ta σ H fun x H1 => ∃ a C dx fs v, x = .ref a ∧ H1 a = some (.ins C dx fs) ∧ Cls K C ∧ NoAttr K C f ∧ fs.lookup f = some v ∧ Q v H1
/-- e.f, a constant of the class -/
def tCon (K : PySem.W.Frag) (ta : TE) (f : Str) : TE := fun σ H Q => ta σ H fun x H1 => ∃ a C dx fs v u, x = .ref a ∧ H1 a = some (.ins C dx fs) ∧ Cls K C ∧ Con K C f v u ∧ fs.lookup f = none ∧ Q v H1
/-- e.f = value -/
def sFld (K : PySem.W.Frag) (ta tv : TE) (f : Str) : TS := fun D σ H => tv σ H fun y H1 => ta σ H1 fun x H2 => ∃ a C dx fs, x = .ref a ∧ H2 a = some (.ins C dx fs) ∧ Cls K C ∧ NoAttr K C f ∧ fs.length < 1000 ∧
  D.nx σ (upd H2 a (.ins C dx (putF f y fs)))
/-- an augmented operator on two values -/
def InOp (X : Cx) (op : Operator) (rd : V → V → Hp → VK → Prop) : Prop :=
  ∀ (pins : List (Addr × Obj)) (s : Shared) (σ : St) (H : Hp) (x y : V) (u v : Value) (Q : VK), Inv X pins σ H s → RelV x u → RelV y v → rd x y H Q → wpAny (model X.prog X.w) X.A (inplaceOp op u v) (EP X pins σ Q) X.xe s
/-- e.f op= value -/
def sFldAug (K : PySem.W.Frag) (ta tv : TE) (rd : V → V → Hp → VK → Prop) (f : Str) : TS := fun D σ H => ta σ H fun x H1 => ∃ a C dx fs v, x = .ref a ∧ H1 a = some (.ins C dx fs) ∧ Cls K C ∧ NoAttr K C f ∧ fs.lookup f = some v ∧
  tv σ H1 fun y H2 => rd v y H2 fun z H3 => ∃ dx' fs', H3 a = some (.ins C dx' fs') ∧ fs'.length < 1000 ∧ D.nx σ (upd H3 a (.ins C dx' (putF f z fs')))

section
variable {X : Cx} {o e value : Expr} {f : Str} {pos pos' tpos : Pos} {ta tv : TE}
theorem pe_fld (he : PE X e ta) (hb : attributeBase e f X.env (eval e X.env) = eval e X.env) : PE X (.Attribute e f pos) (tFld X.K ta f) := by
  intro pins s σ H Q I h
  refine attr_of hb (thn (he pins s σ H _ I h) fun u s1 ⟨x, H1, I1, rx, a, C, dx, fs, v, ex, ea, c, n, l, q⟩ => ?_)
  subst ex
  obtain rfl : u = Value.ref a := rx
  exact getattr_ok I1 ea c n l fun u' s2 I2 ru => ⟨v, H1, I2, ru, q⟩
theorem ps_fld (ha : PE X o ta) (hv : PE X value tv) (hs : swapsWith value (some (.Attribute o f pos')) pos.line X.env = pure false) : PS X (.Assign [.Attribute o f pos'] value pos) (sFld X.K ta tv f) := by
  intro pins s σ H D I h
  refine plainObj_wpAny_Assign_Attribute (thn (hv pins s σ H _ I h) fun u s1 ⟨y, H1, I1, ry, q⟩ => thn (ha pins s1 σ H1 _ I1 q) fun ov s2 ⟨x, H2, I2, rx, a, C, dx, fs, ex, ea, c, n, l, q2⟩ => ?_) hs
  subst ex
  obtain rfl : ov = Value.ref a := rx
  exact setattr_ok I2 ea c n l ry fun s3 I3 => ⟨σ, _, I3, q2⟩
def rAdd : V → V → Hp → VK → Prop := fun x y H Q => ∃ i j, x = .int i ∧ y = .int j ∧ Q (.int (i + j)) H
def rSub : V → V → Hp → VK → Prop := fun x y H Q => ∃ i j, x = .int i ∧ y = .int j ∧ Q (.int (i - j)) H
end

/-! ### isinstance -/
section
variable {X : Cx} {pins : List (Addr × Obj)} {σ : St} {H : Hp} {s : Shared} {A : Around} {E : Value → Shared → Prop} {Q : Value → Shared → Prop} {c : Value} {b : Bool}
/-- the type of a value, as the fragment's deciders take it; for an instance its class -/
inductive TyOf (K : PySem.W.Frag) (H : Hp) : V → Value → Prop where
  | non : TyOf K H .non (.type "NoneType")
  | bl (x : Bool) : TyOf K H (.bl x) (.type "bool")
  | int (i : Int) : TyOf K H (.int i) (.type "int")
  | str (x : Str) : TyOf K H (.str x) (.type "str")
  | flt (x : UInt64) : TyOf K H (.flt x) (.type "float")
  | lst {a : Addr} {xs : List V} (e : H a = some (.lst xs)) : TyOf K H (.ref a) (.type "list")
  | frz {a : Addr} {o : Obj} {xs : List V} (e : H a = some (.frz o (.lst xs))) : TyOf K H (.ref a) (.type "list")
  | tup {a : Addr} {xs : List V} (e : H a = some (.tup xs)) : TyOf K H (.ref a) (.type "tuple")
  | dK {a : Addr} {kvs : List (Key × V)} (e : H a = some (.dK kvs)) : TyOf K H (.ref a) (.type "dict")
  | dT {a : Addr} {kvs : List (List Key × V)} (e : H a = some (.dT kvs)) : TyOf K H (.ref a) (.type "dict")
  | ins {a C dx : Addr} {fs : List (Str × V)} (e : H a = some (.ins C dx fs)) (cl : Cls K C) (ha : PySem.W.findIn K (.ref C) "__class__" = some (some (.builtin "object.__class__")))
      (hn : PySem.W.specialIn K (.builtin "object.__class__") "__get__" = some (some (.builtin "getset_descriptor.__get__"))) (htk : PySem.W.takesIn K (.builtin "object.__class__") = some true)
      (hm : PySem.W.mroIn K C (.type "object") = some true) : TyOf K H (.ref a) (.ref C)
end
end L2

namespace L2
open PySem PySem.Spec PyProof.Rows

/-! ### room -/
structure Room (k : Nat) (A : Around) : Prop where
  hd : A.handled = none
  dp : A.depth + 3 * k + 5 < recursionLimit
  un : A.units + 16 * k + 200 < cLine
theorem Room.mono {j k : Nat} {A : Around} (r : Room k A) (h : j ≤ k) : Room j A := ⟨r.hd, by have := r.dp; omega, by have := r.un; omega⟩
theorem Room.deeper {k : Nat} {A : Around} (r : Room (k + 1) A) (env : Env) : Room k (A.deeper env) :=
  ⟨r.hd, by have := r.dp; show A.depth + 1 + 3 * k + 5 < _; omega, by have := r.un; show A.units + 3 + 16 * k + 200 < _; omega⟩
theorem make_depth {A : Around} {C : Addr} {us : List Value} {kw : List (Str × Value)} : (A.under (.builtin "type.__call__" ⟨.ref C :: us, kw⟩)).depth = A.depth + 1 := by
  first | rfl | simp [Around.under, Code.weight, Code.isCreation, Code.isGuard, Code.isCaller, Code.frames, Code.isFrame, guardIds]
theorem make_units {A : Around} {C : Addr} {us : List Value} {kw : List (Str × Value)} : (A.under (.builtin "type.__call__" ⟨.ref C :: us, kw⟩)).units = A.units + 1 := by
  first | rfl | simp [Around.under, Code.cUnits, Code.frames, Code.isFrame]
theorem Room.make {k : Nat} {A : Around} (r : Room (k + 1) A) (C : Addr) (us : List Value) (kw : List (Str × Value)) : Room k (A.under (.builtin "type.__call__" ⟨.ref C :: us, kw⟩)) :=
  ⟨r.hd, by have := r.dp; rw [make_depth]; omega, by have := r.un; rw [make_units]; omega⟩
theorem Room.depth {k : Nat} {A : Around} (r : Room k A) : A.depth < recursionLimit := by have := r.dp; omega
theorem Room.units {k : Nat} {A : Around} (r : Room k A) : A.units + 64 < cLine := by have := r.un; omega
/-! ### argument lists and displays -/
def tNil : TA := fun _ H Q => Q [] H
def tCons (ta : TE) (tr : TA) : TA := fun σ H Q => ta σ H fun x H1 => tr σ H1 fun xs H2 => Q (x :: xs) H2
section
variable {X : Cx} {e : Expr} {es : List Expr} {te : TE} {t : TA} {pos : Pos}
theorem pa_nil : PA X [] tNil := fun _ _ _ _ H Q I h => Calls.spliced_nil ⟨[], H, I, .nil, h⟩
theorem pa_cons (ha : PE X e te) (hr : PA X es t) (hs : starEach (e :: es) X.env = (false, eval e X.env) :: starEach es X.env := by rfl) : PA X (e :: es) (tCons te t) := by
  intro pos pins s σ H Q I h
  rw [hs]
  show wpAny _ _ (spliced ((false, eval e X.env) :: backTo pos (starEach es X.env))) _ _ s
  refine Calls.spliced_cons (thn (ha pins s σ H _ I h) fun u s1 ⟨x, H1, I1, r1, q1⟩ => ?_)
  exact thn (hr pos pins s1 σ H1 _ I1 q1) fun us s2 ⟨xs, H2, I2, r2, q2⟩ => ⟨x :: xs, H2, I2, .cons r1 r2, q2⟩

/-- a tuple, a list of written items -/
def tTup (t : TA) : TE := fun σ H Q => t σ H fun xs H1 => xs.length ≤ sizeLine ∧ ∀ p, H1 p = none → Q (.ref p) (upd H1 p (.tup xs))
def tLst (t : TA) : TE := fun σ H Q => t σ H fun xs H1 => xs.length ≤ sizeLine ∧ ∀ p, H1 p = none → Q (.ref p) (upd H1 p (.lst xs))
theorem pe_tup {x1} (h : PA X es t) : PE X (.Tuple es x1 pos) (tTup t) := by
  intro pins s σ H Q I hq
  refine wpAny_Tuple_spliced (thn (h pos pins s σ H _ I hq) fun us s1 ⟨xs, H1, I1, r, z, q⟩ => ⟨by rw [← r.length]; exact z, ?_⟩)
  have hf : H1 s1.heap.objs.size = none := I1.hok.fresh (Nat.le_refl _)
  refine ⟨.ref s1.heap.objs.size, upd H1 s1.heap.objs.size (.tup xs), I1.laid (t' := s1.toks) (fun b u e => Heap.get?_push_of_some _ e) (Nat.le_refl _) ?_, rfl, q _ hf⟩
  exact ⟨z, us, r, ⟨_, Heap.get?_push_size _ rfl, rfl, _, rfl⟩⟩
theorem pe_lst (h : PA X es t) : PE X (.List es pos) (tLst t) := by
  intro pins s σ H Q I hq
  refine wpAny_List_spliced (thn (h pos pins s σ H _ I hq) fun us s1 ⟨xs, H1, I1, r, z, q⟩ => ⟨by rw [← r.length]; exact z, ?_⟩)
  have hf : H1 s1.heap.objs.size = none := I1.hok.fresh (Nat.le_refl _)
  refine ⟨.ref s1.heap.objs.size, upd H1 s1.heap.objs.size (.lst xs), I1.laid (t' := s1.toks) (fun b u e => Heap.get?_push_of_some _ e) (Nat.le_refl _) ?_, rfl, q _ hf⟩
  exact ⟨z, us, 0, r, Heap.get?_push_size _ rfl⟩
end

/-! ### what a def promises -/
/-- a def's promise: the bound arguments in the parameters' order, the heap, the wanted end, the wanted exception -/
abbrev Sp := List V → Hp → VK → XK → Prop
/-- how an exception lies behind a call (file 08 gives it): the callers' frames, abstract heap and state ahead of the call, the wish, the exception, the state -/
abbrev CXT := List Env → Hp → Shared → XK → Value → Shared → Prop

/-- the state at a call -/
structure Env0 (P : Program) (w : World) (K : PySem.W.Frag) (mg : Str → Option Value) (base : Heap) (A : Around) (outer : List Env) (s : Shared) (H : Hp) : Prop where
  frames : A.frames = some outer
  mod : Mod K mg base
  bs : ∀ b o, base.get? b = some o → s.heap.get? b = some o ∧ H b = none
  bsz : base.objs.size ≤ s.heap.objs.size
  funs : s.heap.FunFrames base outer
  frf : ∀ b ∈ frs outer, H b = none
  hok : HOk P w H s.heap
  bare : AllBare s.gens
/-- a call's end -/
def CE (outer : List Env) (P : Program) (w : World) (H : Hp) (s : Shared) (Q : VK) (u : Value) (s' : Shared) : Prop :=
  ∃ v H', s'.os = s.os ∧ AllBare s'.gens ∧ Un (frs outer) [] H H' s.heap s'.heap ∧ HOk P w H' s'.heap ∧ RelV v u ∧ Q v H'
def CR (CX : CXT) (outer : List Env) (P : Program) (w : World) (H : Hp) (s : Shared) (Q : VK) (E : XK) (r : Result) (s' : Shared) : Prop :=
  match r with
  | .ok (.ret u) => CE outer P w H s Q u s'
  | .ok _ => False
  | .error e => CX outer H s E e s'
structure FnOk (P : Program) (w : World) (K : PySem.W.Frag) (mg : Str → Option Value) (base : Heap) (CX : CXT) (k : Nat) (f : Addr) (fd : FuncData) (ps : List Str) (sp : Sp) : Prop where
  len : ∀ vs H Q E, sp vs H Q E → vs.length = ps.length
  run : ∀ (A : Around) (outer : List Env) (s : Shared) (H : Hp) (args : Args) (us : List Value) (vs : List V) (Q : VK) (E : XK), Room k A → Env0 P w K mg base A outer s H → BindsTo s fd args (ps.zip us) → Vals vs us → sp vs H Q E →
    codeAny (model P w) A (.call (.ref f) args) (CR CX outer P w H s Q E) s
theorem FnOk.mono {P : Program} {w : World} {K : PySem.W.Frag} {mg : Str → Option Value} {base : Heap} {CX : CXT} {j k : Nat} {f : Addr} {fd : FuncData} {ps : List Str} {sp : Sp} (F : FnOk P w K mg base CX j f fd ps sp) (h : j ≤ k) :
    FnOk P w K mg base CX k f fd ps sp := ⟨F.len, fun A outer s H args us vs Q E hr => F.run A outer s H args us vs Q E (hr.mono h)⟩
/-- a weaker promise -/
theorem FnOk.imp {P : Program} {w : World} {K : PySem.W.Frag} {mg : Str → Option Value} {base : Heap} {CX : CXT} {k : Nat} {f : Addr} {fd : FuncData} {ps : List Str} {sp sp' : Sp} (F : FnOk P w K mg base CX k f fd ps sp)
    (h : ∀ vs H Q E, sp' vs H Q E → sp vs H Q E) : FnOk P w K mg base CX k f fd ps sp' :=
  ⟨fun vs H Q E q => F.len vs H Q E (h _ _ _ _ q), fun A outer s H args us vs Q E hr he hb hv hs => F.run A outer s H args us vs Q E hr he hb hv (h _ _ _ _ hs)⟩

theorem Env0.make {P : Program} {w : World} {K : PySem.W.Frag} {mg : Str → Option Value} {base : Heap} {A : Around} {outer : List Env} {s : Shared} {H : Hp} (e : Env0 P w K mg base A outer s H) (C : Addr) (us : List Value) (kw : List (Str × Value)) :
    Env0 P w K mg base (A.under (.builtin "type.__call__" ⟨.ref C :: us, kw⟩)) outer s H := ⟨by first | exact e.frames | (simpa [Around.under, Code.envs, Code.isFrame, pushEnvs] using e.frames), e.mod, e.bs, e.bsz, e.funs, e.frf, e.hok, e.bare⟩
section
variable {X : Cx} {pins : List (Addr × Obj)} {σ : St} {H : Hp} {s s' : Shared}
/-- from a body: what a callee wants -/
theorem Inv.env0 (I : Inv X pins σ H s) : Env0 X.prog X.w X.K X.mg X.base X.A X.stack s H :=
  ⟨I.ok.frames, I.ok.mod, I.bs, Nat.le_trans I.ok.bsz I.sz, I.stack, I.stkFree, I.hok, I.bare⟩
/-- behind a call -/
theorem Inv.after {Q : VK} {u : Value} (I : Inv X pins σ H s) (h : CE X.stack X.prog X.w H s Q u s') : EP X pins σ Q u s' := by
  obtain ⟨v, H', os, bare, un, hok, r, q⟩ := h
  obtain ⟨hh, g, d, t, os'⟩ := s'
  obtain rfl : os' = s.os := os
  exact ⟨v, H', I.call (h' := hh) (g' := g) (d' := d) (t' := t) (ch := []) un hok bare (fun b z => absurd z (by simp)), r, q⟩
end

/-! ### calls -/
/-- f(..): the written arguments, then the defaults dvs; E: what is wanted of an exception -/
def tCall (sp : Sp) (dvs : List V) (E : XK) (t : TA) : TE := fun σ H Q => t σ H fun vs H1 => sp (vs ++ dvs) H1 Q E
/-- o.m(..) of an instance of the class at C -/
def tMeth (C : Addr) (m : Str) (sp : Sp) (dvs : List V) (E : XK) (ta : TE) (t : TA) : TE := fun σ H Q => ta σ H fun x H1 => ∃ a dx fs, x = .ref a ∧ H1 a = some (.ins C dx fs) ∧ fs.lookup m = none ∧
  t σ H1 fun vs H2 => sp (x :: (vs ++ dvs)) H2 Q E
/-- C(..): a new instance and its dict, then __init__ -/
def tMake (C : Addr) (sp : Sp) (dvs : List V) (E : XK) (t : TA) : TE := fun σ H Q => t σ H fun vs H1 => ∀ x dx, H1 x = none → H1 dx = none → dx ≠ x →
  sp (.ref x :: (vs ++ dvs)) (upd (upd H1 dx (.own x)) x (.ins C dx [])) (fun v H2 => v = .non ∧ Q (.ref x) H2) E

/-- how the parameters are bound: us the positional arguments, kw the keywords' values by name, ds the defaults that fill up -/
def Binds (K : PySem.W.Frag) (fd : FuncData) (ps : List Str) (ds : List Value) : Prop :=
  ∀ (s : Shared) (us : List Value), K.In s.heap → (us ++ ds).length = ps.length → BindsTo s fd ⟨us, []⟩ (ps.zip (us ++ ds))
/-- every parameter is given -/
theorem Binds.all {K : PySem.W.Frag} {fd : FuncData} {ps : List Str} (h : ∀ us : List Value, us.length = ps.length → bindArgs fd ⟨us, []⟩ = pure (ps.zip us)) : Binds K fd ps [] := fun s us _ hl => by
  rw [List.append_nil] at hl ⊢
  exact .of_eq (h us hl)

/-- an exception of a callee reaches what this body wants of exceptions -/
def Passes (CX : CXT) (X : Cx) (E : XK) : Prop := ∀ (pins : List (Addr × Obj)) (σ : St) (H : Hp) (s : Shared) (e : Value) (s' : Shared), Inv X pins σ H s → CX X.stack H s E e s' → X.xe e s'

section
variable {X : Cx} {CX : CXT} {k : Nat} {f C : Addr} {fd : FuncData} {ps : List Str} {sp : Sp} {dvs : List V} {ds : List Value} {E : XK} {x m : Str} {p pos apos : Pos} {e o : Expr} {es : List Expr} {ta : TE} {t : TA}

/-- the callee runs -/
theorem run_fn {pins : List (Addr × Obj)} {σ : St} {H : Hp} {s : Shared} {Q : VK} {us : List Value} {vs : List V} (F : FnOk X.prog X.w X.K X.mg X.base CX k f fd ps sp) (hr : Room k X.A) (hb : Binds X.K fd ps ds) (hd : Vals dvs ds) (hx : Passes CX X E)
    (I : Inv X pins σ H s) (r : Vals vs us) (h : sp (vs ++ dvs) H Q E) : wpAny (model X.prog X.w) X.A (call (.ref f) us) (EP X pins σ Q) X.xe s := by
  have r2 : Vals (vs ++ dvs) (us ++ ds) := r.append hd
  have hl : (us ++ ds).length = ps.length := by rw [← r2.length]; exact F.len _ _ _ _ h
  refine wpAny_call (codeAny_mono (F.run X.A X.stack s H ⟨us, []⟩ (us ++ ds) (vs ++ dvs) Q E hr I.env0 (hb s us I.kIn hl) r2 h) fun r s' hq => ?_)
  cases r with
  | error e => exact hx pins σ H s e s' I hq
  | ok fl =>
    cases fl with
    | ret u => exact I.after hq
    | next => exact False.elim hq
    | brk => exact False.elim hq
    | cont => exact False.elim hq

theorem pe_call (F : FnOk X.prog X.w X.K X.mg X.base CX k f fd ps sp) (hr : Room k X.A) (hg : Gl X x) (hm : X.mg x = some (.ref f)) (hk : PySem.W.keepIn X.K (.ref f) = true) (hb : Binds X.K fd ps ds) (hd : Vals dvs ds) (hx : Passes CX X E)
    (ha : PA X (e :: es) t) (hdb : (x == ("__debug__" : Str)) = false := by decide) (he : starEach (e :: es) X.env = (false, eval e X.env) :: starEach es X.env := by rfl) (hpl : (backTo pos (starEach es X.env)).any (·.1) = false := by rfl) :
    PE X (.Call (.Name x p) (e :: es) [] pos) (tCall sp dvs E t) := by
  intro pins s σ H Q I h
  refine wpAny_Call_Name_kw (ld_glob I hg hm ?_ hdb)
  refine PySem.W.callWith_K (h₀ := X.base) I.ok.mod.kin hk (thn (ha pos pins s σ H _ I h) fun us s1 ⟨vs, H1, I1, r, q⟩ => ⟨I1.kIn, ?_⟩) he hpl
  exact run_fn F hr hb hd hx I1 r q
/-- what a class must have to be made -/
structure Mk (K : PySem.W.Frag) (C f : Addr) : Prop where
  makes : PySem.W.makesIn K C = true
  init : PySem.W.findIn K (.ref C) "__init__" = some (some (.ref f))
  fn : PySem.W.isFn K (.ref f) = true
  kp : PySem.W.keepIn K (.ref C) = true

theorem run_make {pins : List (Addr × Obj)} {σ : St} {H : Hp} {s : Shared} {Q : VK} {us : List Value} {vs : List V} (M : Mk X.K C f) (F : FnOk X.prog X.w X.K X.mg X.base CX k f fd ps sp) (hr : Room (k + 1) X.A) (hb : Binds X.K fd ps ds) (hd : Vals dvs ds)
    (hx : Passes CX X E) (I : Inv X pins σ H s) (r : Vals vs us)
    (h : ∀ x dx, H x = none → H dx = none → dx ≠ x → sp (.ref x :: (vs ++ dvs)) (upd (upd H dx (.own x)) x (.ins C dx [])) (fun v H2 => v = .non ∧ Q (.ref x) H2) E) :
    wpAny (model X.prog X.w) X.A (call (.ref C) us) (EP X pins σ Q) X.xe s := by
  have hq := h (s.heap.objs.size + 1) s.heap.objs.size (I.hok.fresh (Nat.le_succ _)) (I.hok.fresh (Nat.le_refl _)) (Nat.ne_of_lt (Nat.lt_succ_self _))
  have I2 := Inv.made (C := C) I
  have r2 : Vals (V.ref (s.heap.objs.size + 1) :: (vs ++ dvs)) (Value.ref (s.heap.objs.size + 1) :: (us ++ ds)) := .cons rfl (r.append hd)
  have hl : (Value.ref (s.heap.objs.size + 1) :: us ++ ds).length = ps.length := by
    have e := r2.length
    rw [F.len _ _ _ _ hq] at e
    exact e.symm
  refine wpAny_call (make_map (f := f) I.kIn M.makes M.init (beq_iff_eq.mp M.fn) (codeAny_mono (F.run _ X.stack _ _ ⟨Value.ref (s.heap.objs.size + 1) :: us, []⟩ (Value.ref (s.heap.objs.size + 1) :: (us ++ ds)) _ _ E (hr.make C us [])
    (I2.env0.make C us []) (hb _ (Value.ref (s.heap.objs.size + 1) :: us) I2.kIn hl) r2 hq) fun r s' hq' => ?_))
  cases r with
  | error e => exact hx pins σ _ _ e s' I2 hq'
  | ok fl =>
    cases fl with
    | ret u =>
      obtain ⟨v, H', I3, rv, ev, q3⟩ := I2.after hq'
      subst ev
      exact ⟨rv, ⟨V.ref (s.heap.objs.size + 1), H', I3, rfl, q3⟩⟩
    | next => exact False.elim hq'
    | brk => exact False.elim hq'
    | cont => exact False.elim hq'
theorem pe_make (M : Mk X.K C f) (F : FnOk X.prog X.w X.K X.mg X.base CX k f fd ps sp) (hr : Room (k + 1) X.A) (hg : Gl X x) (hm : X.mg x = some (.ref C)) (hb : Binds X.K fd ps ds) (hd : Vals dvs ds) (hx : Passes CX X E)
    (ha : PA X (e :: es) t) (hdb : (x == ("__debug__" : Str)) = false := by decide) (he : starEach (e :: es) X.env = (false, eval e X.env) :: starEach es X.env := by rfl) (hpl : (backTo pos (starEach es X.env)).any (·.1) = false := by rfl) :
    PE X (.Call (.Name x p) (e :: es) [] pos) (tMake C sp dvs E t) := by
  intro pins s σ H Q I h
  refine wpAny_Call_Name_kw (ld_glob I hg hm ?_ hdb)
  refine PySem.W.callWith_K (h₀ := X.base) I.ok.mod.kin M.kp (thn (ha pos pins s σ H _ I h) fun us s1 ⟨vs, H1, I1, r, q⟩ => ⟨I1.kIn, ?_⟩) he hpl
  exact run_make M F hr hb hd hx I1 r q
end

/-! ### keywords -/
/-- the values of the keywords, from the left -/
def PK (X : Cx) (kws : List Keyword) (t : TA) : Prop :=
  ∀ (pos : Pos) (pins : List (Addr × Obj)) (s : Shared) (σ : St) (H : Hp) (Q : List V → Hp → Prop), Inv X pins σ H s → t σ H Q → wpAny (model X.prog X.w) X.A (evalAll ((backToKw pos (keywordEach kws X.env)).map (·.2))) (AP X pins σ Q) X.xe s
section
variable {X : Cx} {CX : CXT} {k : Nat} {f C : Addr} {fd : FuncData} {ps ks : List Str} {sp : Sp} {E : XK} {x m : Str} {p pos apos kpos : Pos} {e o : Expr} {es : List Expr} {kws : List Keyword} {te ta : TE} {t tk : TA} {nm : Option Str}
/-- how a call with keywords binds: g puts the positional values us and the keywords' values ws (names ks) in the parameters' order, defaults among them -/
structure KBinds (K : PySem.W.Frag) (fd : FuncData) (ps ks : List Str) (g : List Value → List Value → List Value) (gV : List V → List V → List V) : Prop where
  to : ∀ (s : Shared) (us ws : List Value), K.In s.heap → (g us ws).length = ps.length → BindsTo s fd ⟨us, ks.zip ws⟩ (ps.zip (g us ws))
  rel : ∀ {vs : List V} {us : List Value} {zs : List V} {ws : List Value}, Vals vs us → Vals zs ws → Vals (gV vs zs) (g us ws)
def tCallK (sp : Sp) (gV : List V → List V → List V) (E : XK) (t tk : TA) : TE := fun σ H Q => t σ H fun vs H1 => tk σ H1 fun zs H2 => sp (gV vs zs) H2 Q E
variable {g : List Value → List Value → List Value} {gV : List V → List V → List V}
end

/-! ### a def's body keeps its promise -/
/-- names: the parameters first -/
structure FnScope (N P : List Str) (sc : Scope) : Prop where
  kind : sc.kind = .function
  co : sc.isCoroutine = false
  gen : sc.isGenerator = false
  nd : N.Nodup
  pre : N.take P.length = P
  par : ∀ x ∈ P, sc.names.lookup x = some .local ∨ sc.names.lookup x = some .cell
  nofree : ∀ y ∈ sc.names, y.2 ≠ .free

theorem bindL_out {kindOf : Str → Option NameKind} {x : Str} : ∀ {binds : List (Str × Value)} {m : Str → Option Value}, (∀ v, (x, v) ∉ binds) → bindL kindOf binds m x = m x
  | [], _, _ => rfl
  | (n, v) :: r, m, h => by
    unfold bindL
    rw [bindL_out fun w hw => h w (List.mem_cons_of_mem _ hw)]
    split
    · have : x ≠ n := by rintro rfl; exact h v List.mem_cons_self
      simp [this]
    · rfl
theorem bindC_out {kindOf : Str → Option NameKind} {x : Str} : ∀ {binds : List (Str × Value)} {m : Str → Option Value}, (∀ v, (x, v) ∉ binds) → bindC kindOf binds m x = m x
  | [], _, _ => rfl
  | (n, v) :: r, m, h => by
    unfold bindC
    rw [bindC_out fun w hw => h w (List.mem_cons_of_mem _ hw)]
    split
    · rfl
    · have : x ≠ n := by rintro rfl; exact h v List.mem_cons_self
      simp [this]
theorem bindL_get {kindOf : Str → Option NameKind} {x : Str} {v : Value} : ∀ {P : List Str} {vs : List Value} {i : Nat} {m : Str → Option Value}, P.Nodup → P[i]? = some x → vs[i]? = some v → kindOf x = some .local →
    bindL kindOf (P.zip vs) m x = some v
  | [], _, _, _, _, h, _, _ => by simp at h
  | _ :: _, [], _, _, _, _, h, _ => by simp at h
  | p :: P, w :: vs, 0, m, nd, h1, h2, hk => by
    simp at h1 h2; subst h1; subst h2
    show bindL kindOf ((p, w) :: P.zip vs) m p = _
    unfold bindL
    rw [bindL_out fun v hv => (List.nodup_cons.mp nd).1 (List.of_mem_zip hv).1, if_pos hk]
    simp
  | p :: P, w :: vs, i + 1, m, nd, h1, h2, hk => by
    show bindL kindOf ((p, w) :: P.zip vs) m x = _
    unfold bindL
    exact bindL_get (i := i) (List.nodup_cons.mp nd).2 (by simpa using h1) (by simpa using h2) hk
theorem bindC_get {kindOf : Str → Option NameKind} {x : Str} {v : Value} : ∀ {P : List Str} {vs : List Value} {i : Nat} {m : Str → Option Value}, P.Nodup → P[i]? = some x → vs[i]? = some v → kindOf x ≠ some .local →
    bindC kindOf (P.zip vs) m x = some v
  | [], _, _, _, _, h, _, _ => by simp at h
  | _ :: _, [], _, _, _, _, h, _ => by simp at h
  | p :: P, w :: vs, 0, m, nd, h1, h2, hk => by
    simp at h1 h2; subst h1; subst h2
    show bindC kindOf ((p, w) :: P.zip vs) m p = _
    unfold bindC
    rw [bindC_out fun v hv => (List.nodup_cons.mp nd).1 (List.of_mem_zip hv).1, if_neg hk]
    simp
  | p :: P, w :: vs, i + 1, m, nd, h1, h2, hk => by
    show bindC kindOf ((p, w) :: P.zip vs) m x = _
    unfold bindC
    exact bindC_get (i := i) (List.nodup_cons.mp nd).2 (by simpa using h1) (by simpa using h2) hk

/-- the names' values at the entry -/
def start (N : List Str) (vs : List V) : St := vs.map some ++ List.replicate (N.length - vs.length) none

/-- the context of a def's body, at its entry; an exception leaves the frame, then lies as CX says -/
def cxOf (CX : CXT) (P : Program) (w : World) (K : PySem.W.Frag) (mg : Str → Option Value) (base : Heap) (N : List Str) (qual : Str) (scope : Scope) (f : Addr) (cd : Value) (A : Around) (outer : List Env) (s : Shared) (H : Hp) (E : XK) : Cx where
  prog := P
  w := w
  K := K
  mg := mg
  base := base
  A := A.deeper (envOfC qual scope s.heap.objs.size f cd)
  N := N
  s₀ := s
  H₀ := H
  env := envOfC qual scope s.heap.objs.size f cd
  outer := outer
  stack := envOfC qual scope s.heap.objs.size f cd :: outer
  ex := []
  calm := true
  fn := fun _ => true
  pn := []
  xe := fun e s' => wpAny (model P w) (A.deeper (envOfC qual scope s.heap.objs.size f cd)) (leaving (envOfC qual scope s.heap.objs.size f cd) e) (fun _ s'' => CX outer H s E e s'') (fun e' s'' => CX outer H s E e' s'') s'

theorem cell_has {sc : Scope} {n : Nat} {x : Str} (h : sc.names.lookup x = some .cell) : ∃ c, (cellsFrom n sc.names []).lookup x = some c := by
  have q := PySem.W.cellsFrom_some sc.names n [] (.inl h)
  exact Option.isSome_iff_exists.mp q

theorem inv_start {CX : CXT} {P : Program} {w : World} {K : PySem.W.Frag} {mg : Str → Option Value} {base : Heap} {N ps : List Str} {qual : Str} {scope : Scope} {f : Addr} {cd : Value} {A : Around} {outer : List Env} {s s1 : Shared} {H : Hp} {E : XK} {us : List Value} {vs : List V}
    (S : FnScope N ps scope) (hd : A.handled = none) (e0 : Env0 P w K mg base A outer s H) (hl : vs.length = ps.length) (r : Vals vs us)
    (x : InCallC s s.heap.objs.size (bindL (envOfC qual scope s.heap.objs.size f cd).kindOf (ps.zip us) fun _ => none) (cellsFrom (s.heap.objs.size + 1) scope.names []) (bindC (envOfC qual scope s.heap.objs.size f cd).kindOf (ps.zip us) fun _ => none) s1) :
    Inv (cxOf CX P w K mg base N qual scope f cd A outer s H E) [] (start N vs) H s1 := by
  have hpl : ps.length ≤ N.length := by have := congrArg List.length S.pre; rw [List.length_take] at this; omega
  obtain ⟨h1, tk, rfl, hk⟩ := x.done
  have noA : ∀ b : Addr, b ∉ (cxOf CX P w K mg base N qual scope f cd A outer s H E).ex := fun b z => absurd (show b ∈ ([] : List Addr) from z) (by simp)
  refine ⟨⟨e0.mod, S.kind, rfl, rfl, Nat.le_refl _, fun y z c h1 h2 => ?_, fun y hy => ?_, fun y c _ h => ?_, fun _ => hd, Around.frames_deeper e0.frames, .inr ⟨rfl, rfl⟩, fun b z => absurd z (noA b), e0.bs, e0.bsz, fun b _ _ => noA b, fun b z => absurd z (noA b), e0.funs, e0.frf⟩,
    rfl, e0.bare, Un.kept hk, ⟨_, x.toInCall.ns, fun i y v h1 h2 h3 => ?_⟩, fun y c h => ⟨_, x.cell y c h⟩, e0.hok.fresh (Nat.le_refl _), fun y c h => ?_, fun p hp => absurd (show p ∈ ([] : List (Addr × Obj)) from hp) (by simp), e0.hok.kept hk, ?_⟩
  · exact name_of_addr x.apart (PySem.mem_of_lookup h1) (PySem.mem_of_lookup h2)
  · have hy : scope.names.lookup y = some .cell ∨ scope.names.lookup y = some .free := hy
    rcases hy with hy | hy
    · exact cell_has hy
    · exact absurd rfl (S.nofree _ (PySem.mem_of_lookup hy))
  · exact Nat.le_of_lt (x.above y c (PySem.mem_of_lookup h))
  · have hi : i < vs.length := by
      unfold start at h2
      by_cases hi : i < vs.length
      · exact hi
      · rw [List.getElem?_append_right (by simpa using hi)] at h2
        rw [List.getElem?_replicate] at h2
        split at h2 <;> cases h2
    have ha : vs[i]? = some v := by
      unfold start at h2
      rw [List.getElem?_append_left (by simpa using hi), List.getElem?_map] at h2
      cases e : vs[i]? with
      | none => rw [e] at h2; cases h2
      | some a => rw [e] at h2; cases h2; rfl
    obtain ⟨u, hu, rv⟩ := r.get ha
    have hp : ps[i]? = some y := by
      rw [← S.pre, List.getElem?_take_of_lt (by omega)]; exact h1
    have ndP : ps.Nodup := by rw [← S.pre]; exact S.nd.sublist (List.take_sublist _ _)
    refine ⟨u, rv, ?_⟩
    rcases S.par y (List.mem_of_getElem? hp) with k | k
    · exact .inl ⟨k, bindL_get ndP hp hu k⟩
    · obtain ⟨c, e⟩ := cell_has (n := s.heap.objs.size + 1) k
      refine .inr ⟨.inl k, c, e, ?_⟩
      have q := x.cell y c e
      rw [bindC_get ndP hp hu (by show scope.names.lookup y ≠ _; rw [k]; decide)] at q
      exact q
  · exact e0.hok.fresh (Nat.le_of_lt (x.above y c (PySem.mem_of_lookup h)))
  · unfold start
    show _ = N.length
    rw [List.length_append, List.length_map, List.length_replicate]
    omega

/-- THE RULE: a def (or a method) of the text, by its body. The body's reading t is chosen for each entry; it is run at the parameters' values -/
theorem fn_of {CX : CXT} {P : Program} {w : World} {K : PySem.W.Frag} {mg : Str → Option Value} {base : Heap} {k : Nat} {f : Addr} {name qual : Str} {params : Arguments} {body : List Stmt} {scope : Scope} {dV kV doc pm cdv ct oc : Value} {an od : Option Addr}
    {osl : Array (Option Value)} {N ps : List Str} {sp : Sp} (lk : K.lookup f = some ⟨oc, od, .func (PySem.W.fnOf name qual params body scope dV kV doc pm an cdv ct), osl⟩) (hcd : PySem.W.codeIn K cdv qual = true) (S : FnScope N ps scope)
    (len : ∀ vs H Q E, sp vs H Q E → vs.length = ps.length)
    (hbody : ∀ (A : Around) (outer : List Env) (s : Shared) (H : Hp) (vs : List V) (Q : VK) (E : XK), Room k (A.deeper (envOfC qual scope s.heap.objs.size f cdv)) → sp vs H Q E →
      ∃ t, PSs (cxOf CX P w K mg base N qual scope f cdv A outer s H E) body t ∧ t { nx := fun _ H' => Q .non H', rt := Q } (start N vs) H) :
    FnOk P w K mg base CX (k + 1) f (PySem.W.fnOf name qual params body scope dV kV doc pm an cdv ct) ps sp := by
  refine ⟨len, fun A outer s H args us vs Q E hr e0 hb r hsp => ?_⟩
  have hl := len _ _ _ _ hsp
  have KX : K.In s.heap := e0.mod.kin.keeps fun b o e => (e0.bs b o e).1
  have lim : s.heap.NoLimit := e0.mod.nolimit.keeps fun b o e => (e0.bs b o e).1
  have hkind : ∀ y ∈ ps.zip us, scope.names.lookup y.1 = some .local ∨ (scope.names.lookup y.1 = some .cell ∧ ((cellsFrom (s.heap.objs.size + 1) scope.names []).lookup y.1).isSome = true) := fun ⟨n, v⟩ hy => by
    rcases S.par n (List.of_mem_zip hy).1 with q | q
    · exact .inl q
    · exact .inr ⟨q, PySem.W.cellsFrom_some _ _ _ (.inl q)⟩
  refine codeAny_call_function hr.depth (KX _ _ lk) rfl S.co S.gen rfl (PySem.W.codeRec_of KX hcd) (hb _ _ _ _ ?_)
  refine wpAny_newFunctionEnv_cells S.kind hkind fun env he s1 x => ?_
  subst he
  refine ⟨lim.keeps x.toInCall.keep, codeAny_func ?_⟩
  obtain ⟨t, ht, hq⟩ := hbody A outer s H vs Q E (hr.deeper _) hsp
  have I : Inv (cxOf CX P w K mg base N qual scope f cdv A outer s H E) [] (start N vs) H s1 := inv_start S hr.hd e0 hl r x
  refine wpAny_mono (ht [] s1 (start N vs) H _ I hq) (fun fl s' hs => ?_) fun e s' hs => hs
  have fin : ∀ {σ' : St} {H' : Hp} {v : V} {u : Value}, Inv (cxOf CX P w K mg base N qual scope f cdv A outer s H E) [] σ' H' s' → RelV v u → Q v H' → CE outer P w H s Q u s' :=
    fun {σ' H' v u} J rv q => ⟨v, H', J.os, J.bare, J.base, J.hok, rv, q⟩
  cases fl with
  | ret u =>
    obtain ⟨v, σ', H', J, rv, q⟩ := hs
    exact fin J rv q
  | next =>
    obtain ⟨σ', H', J, q⟩ := hs
    exact fin (v := V.non) (u := Value.none) J rfl q
  | brk =>
    obtain ⟨_, _, _, q⟩ := hs
    exact False.elim q
  | cont =>
    obtain ⟨_, _, _, q⟩ := hs
    exact False.elim q
end L2

namespace L2
open PySem PySem.Spec PyProof.Rows
section
variable {X : Cx} {x : Str} {p pos : Pos} {e : Expr} {es : List Expr} {t : TA} {id T : String} {r : List V → Hp → VK → Prop}

def tCB (r : List V → Hp → VK → Prop) (t : TA) : TE := fun σ H Q => t σ H fun vs H1 => r vs H1 Q
/-- f(e, ..), f a built-in function -/
theorem pe_callB (hc : CallR X (.builtin id) r) (hg : Gl X x) (hm : X.mg x = none) (hv : bootBuiltins x = some (.builtin id)) (ha : PA X (e :: es) t) (hn : x ≠ "__name__" := by decide) (hdb : (x == ("__debug__" : Str)) = false := by decide)
    (he : starEach (e :: es) X.env = (false, eval e X.env) :: starEach es X.env := by rfl) (hpl : (backTo pos (starEach es X.env)).any (·.1) = false := by rfl) : PE X (.Call (.Name x p) (e :: es) [] pos) (tCB r t) := by
  intro pins s σ H Q I h
  refine wpAny_Call_Name_kw (ld_blt I hg hm hv ?_ hn hdb)
  exact PyProof.Rows.callWith_builtin1 (thn (ha pos pins s σ H _ I h) fun us s1 ⟨vs, H1, I1, r1, q1⟩ => hc pins s1 σ H1 vs us Q I1 r1 q1) he hpl
/-- T(e, ..), T a built-in type -/
theorem pe_callTy (hc : CallR X (.type T) r) (hg : Gl X x) (hm : X.mg x = none) (hv : bootBuiltins x = some (.type T)) (ha : PA X (e :: es) t) (hn : x ≠ "__name__" := by decide) (hdb : (x == ("__debug__" : Str)) = false := by decide)
    (he : starEach (e :: es) X.env = (false, eval e X.env) :: starEach es X.env := by rfl) (hpl : (backTo pos (starEach es X.env)).any (·.1) = false := by rfl) : PE X (.Call (.Name x p) (e :: es) [] pos) (tCB r t) := by
  intro pins s σ H Q I h
  refine wpAny_Call_Name_kw (ld_blt I hg hm hv ?_ hn hdb)
  exact PyProof.Rows.callWith_type1 (thn (ha pos pins s σ H _ I h) fun us s1 ⟨vs, H1, I1, r1, q1⟩ => hc pins s1 σ H1 vs us Q I1 r1 q1) he hpl
end
end L2

namespace HT
open PySem PyProof.Rows

/-- t < u of tuples of ints -/
def lexLt : List Int → List Int → Bool
  | [], [] => false
  | [], _ :: _ => true
  | _ :: _, [] => false
  | x :: xs, y :: ys => if x = y then lexLt xs ys else decide (x < y)
section
open PySem.SeqAt
open PySem.AutoSeq1 (wpAny_loadPart')
open PySem.MeetsSeq PySem.MeetsSeq2 PySem.MeetsSeq3

end

section
variable {prog : Program} {w : World} {A : Around} {E : Value → Shared → Prop} {s : Shared}

/-! ### t[a:b], not the whole -/
/-- a slice's bound as a place among n (d where it is left out) -/
def sIx (n d : Nat) : Option Int → Nat
  | none => d
  | some v => if v < 0 then (v + (n : Int)).toNat else min v.toNat n
theorem sIx_le (n d : Nat) (hd : d ≤ n) (o : Option Int) : sIx n d o ≤ n := by
  cases o with
  | none => exact hd
  | some v =>
    show (if v < 0 then (v + (n : Int)).toNat else min v.toNat n) ≤ n
    by_cases hv : v < 0
    · rw [if_pos hv]; omega
    · rw [if_neg hv]; exact Nat.min_le_right _ _
theorem clip_eq (v : Int) (n d : Nat) : (if v < 0 then max (v + (n : Int)) 0 else min v (n : Int)) = ((sIx n d (some v) : Nat) : Int) := by
  show (if v < 0 then max (v + (n : Int)) 0 else min v (n : Int)) = (((if v < 0 then (v + (n : Int)).toNat else min v.toNat n) : Nat) : Int)
  by_cases hv : v < 0
  · simp only [if_pos hv]; omega
  · simp only [if_neg hv]; omega
theorem adjust_gen (lo hi : Option Int) (n : Nat) : Builtin.Slice.sliceAdjust lo hi 1 (n : Int) = (((sIx n 0 lo : Nat) : Int), ((sIx n n hi : Nat) : Int)) := by
  have h1 : ¬ ((1 : Int) < 0) := by omega
  unfold Builtin.Slice.sliceAdjust
  simp only [h1, if_false]
  refine Prod.ext ?_ ?_
  · cases lo with
    | none => rfl
    | some v => exact clip_eq v n 0
  · cases hi with
    | none => rfl
    | some v => exact clip_eq v n n
theorem places_gen (i j : Nat) : Builtin.Slice.slicePlaces (i : Int) (j : Int) 1 = j - i := by
  unfold Builtin.Slice.slicePlaces
  have h1 : (1 : Int) > 0 := by omega
  simp only [h1, if_true, Int.ediv_one]
  split <;> omega
theorem slicePart_ {v : Value} {o : Option Int} {Q : Option Int → Shared → Prop} (p : IsPart v o) (h : Q o s) : wpAny (model prog w) A (Builtin.Slice.slicePartIndex v) Q E s := by
  cases p with
  | none => exact slicePart_none h
  | int i t => exact slicePart_int h
theorem sliceApplied_gen {sl : Addr} {vl vu : Value} {lo hi : Option Int} {n : Nat} {Q : Int × Int × Nat → Shared → Prop} (hs : s.heap.IsSliceOf sl vl vu .none) (pl : IsPart vl lo) (pu : IsPart vu hi)
    (h : Q (((sIx n 0 lo : Nat) : Int), 1, sIx n n hi - sIx n 0 lo) s) : wpAny (model prog w) A (Builtin.Slice.sliceApplied (.ref sl) (pure (n : Int))) Q E s := by
  obtain ⟨os, hos, hcs, hds⟩ := id hs
  unfold Builtin.Slice.sliceApplied Builtin.Slice.sliceFields
  refine wpAny_bind (wpAny_bind (wpAny_field hos hds (x := vl) rfl (wpAny_bind (wpAny_field hos hds (x := vu) rfl (wpAny_bind (wpAny_field hos hds (x := .none) rfl (wpAny_pure ?_)))))))
  refine wpAny_bind (slicePart_none ?_)
  show wpAny _ _ (if ((1 : Int) == 0) = true then _ else _) _ _ s
  rw [if_neg (by decide)]
  refine wpAny_bind (slicePart_ pl (wpAny_bind (slicePart_ pu (wpAny_bind (wpAny_pure ?_)))))
  show wpAny _ _ (match Builtin.Slice.sliceAdjust lo hi 1 (n : Int) with | (lo, hi) => pure (lo, (1 : Int), Builtin.Slice.slicePlaces lo hi 1)) _ _ s
  rw [adjust_gen lo hi n]
  show wpAny _ _ (pure (((sIx n 0 lo : Nat) : Int), (1 : Int), Builtin.Slice.slicePlaces ((sIx n 0 lo : Nat) : Int) ((sIx n n hi : Nat) : Int) 1)) _ _ s
  rw [places_gen]
  exact wpAny_pure h
theorem pick_gen (xs : Array Value) (i k : Nat) : ((List.range k).filterMap fun (m : Nat) => xs[((i : Int) + (m : Int) * 1).toNat]?).toArray = ((xs.toList.drop i).take k).toArray := by
  have e : (fun (m : Nat) => xs[((i : Int) + (m : Int) * 1).toNat]?) = fun m => xs[i + m]? := by
    funext m
    have : ((i : Int) + (m : Int) * 1).toNat = i + m := by omega
    rw [this]
  rw [e]
  have := pick_run xs i k
  rw [List.filterMap_map] at this
  have e2 : ((fun x => xs[x]?) ∘ fun x => i + x) = fun m => xs[i + m]? := rfl
  rw [e2] at this
  rw [this]

theorem getItem_tuple_cut {t sl : Addr} {items : Array Value} {vl vu : Value} {lo hi : Option Int} {Q : Value → Shared → Prop} (ht : IsTup s.heap t items) (hs : s.heap.IsSliceOf sl vl vu .none) (pl : IsPart vl lo) (pu : IsPart vu hi)
    (hw : ¬ (sIx items.size 0 lo = 0 ∧ sIx items.size items.size hi = items.size))
    (h : Q (.ref s.heap.objs.size) { s with heap := s.heap.push { cls := .type "tuple", data := .seq ((items.toList.drop (sIx items.size 0 lo)).take (sIx items.size items.size hi - sIx items.size 0 lo)).toArray } })
    (hsz : items.size ≤ sizeLine) : wpAny (model prog w) A (getItem (.ref t) (.ref sl)) Q E s := by
  have htake : sizeOk (.seq ((items.toList.drop (sIx items.size 0 lo)).take (sIx items.size items.size hi - sIx items.size 0 lo)).toArray) := by
    show ((items.toList.drop (sIx items.size 0 lo)).take (sIx items.size items.size hi - sIx items.size 0 lo)).toArray.size ≤ sizeLine
    rw [List.size_toArray, List.length_take, List.length_drop, Array.length_toList]
    omega
  have hj : sIx items.size items.size hi ≤ items.size := sIx_le _ _ (Nat.le_refl _) hi
  obtain ⟨os, hos, hcs, hds⟩ := id hs
  have hTs : s.TypeIs (.ref sl) "slice" := ⟨os, hos, hcs⟩
  unfold getItem
  try with_reducible refine wpAny_holding ?_
  first | refine wpAny_bind (wpAny_pure ?_) | skip
  refine wpAny_bind (wpAny_sequenceKey ht.typeIs (by decide) ?_)
  refine wpAny_bind (wpAny_callSpecial?_slot (name := Str.ofString "__getitem__") ht.typeIs PyProof.Rows.slot_tuple_getitem
    (wpAny_call_entry PyProof.Rows.slot_tuple_getitem ht.typeIs entry_tuple_getitem ?_ (args_tuple_getitem _ _)))
  show wpAny _ _ (Builtin.Tuple.tupleItemsOf (.ref t) >>= _) _ _ s
  refine wpAny_bind (tupleItemsOf_ ht ?_)
  refine wpAny_bind (wpAny_typeOf hTs ?_)
  rw [if_pos (by decide)]
  refine wpAny_bind (sliceApplied_gen hs pl pu ?_)
  have hno : ¬ ((((sIx items.size 0 lo : Nat) : Int) == 0 && (1 : Int) == 1 && (sIx items.size items.size hi - sIx items.size 0 lo) == items.size) = true) := by
    intro q
    rw [Bool.and_eq_true, Bool.and_eq_true] at q
    have q1 : ((sIx items.size 0 lo : Nat) : Int) = 0 := eq_of_beq q.1.1
    have q2 : sIx items.size items.size hi - sIx items.size 0 lo = items.size := eq_of_beq q.2
    exact hw ⟨by omega, by omega⟩
  show wpAny _ _ (if (((sIx items.size 0 lo : Nat) : Int) == 0 && (1 : Int) == 1 && (sIx items.size items.size hi - sIx items.size 0 lo) == items.size) = true then _ else _) _ _ s
  rw [if_neg hno, pick_gen]
  first
    | exact wpAny_bind (m := Builtin.Tuple.tupleExact _) (wpAny_newObj_type (wpAny_pure ⟨_, rfl, wpAny_pure h⟩) htake)
    | exact wpAny_bind (m := Builtin.Tuple.tupleExact _) (wpAny_newObj_type (wpAny_bind (wpAny_pure (wpAny_pure ⟨_, rfl, wpAny_pure h⟩))) htake)
    | exact wpAny_bind (wpAny_bind (m := Builtin.Tuple.tupleExact _) (wpAny_newObj_type (wpAny_pure (wpAny_pure ⟨_, rfl, wpAny_pure h⟩)) htake))
    | exact wpAny_bind (wpAny_bind (m := Builtin.Tuple.tupleExact _) (wpAny_newObj_type (wpAny_pure ⟨_, rfl, wpAny_pure h⟩) htake))
end
end HT

namespace L2
open PySem PySem.Spec PyProof.Rows

/-! ### the parts of a slice -/
abbrev TO := St → Hp → (Option Int → Hp → Prop) → Prop
/-- a slice's part (left out, or an int) -/
def PO (X : Cx) (e : Option Expr) (t : TO) : Prop :=
  ∀ (pins : List (Addr × Obj)) (s : Shared) (σ : St) (H : Hp) (Q : Option Int → Hp → Prop), Inv X pins σ H s → t σ H Q →
    wpAny (model X.prog X.w) X.A (evalPart e X.env) (fun u s' => ∃ o H', Inv X pins σ H' s' ∧ IsPart u o ∧ Q o H') X.xe s
def tNoPart : TO := fun _ H Q => Q none H
def tPart (t : TE) : TO := fun σ H Q => t σ H fun x H1 => ∃ i, x = .int i ∧ Q (some i) H1

section
variable {X : Cx} {e : Expr} {te : TE} {lo hi : Option Expr} {tl th : TO} {pos p2 : Pos}

theorem po_none : PO X none tNoPart := by
  intro pins s σ H Q I h
  rw [evalPart_none]
  exact wpAny_pure ⟨none, H, I, .none, h⟩
theorem po_some (h : PE X e te) : PO X (some e) (tPart te) := by
  intro pins s σ H Q I hw
  rw [evalPart_some]
  refine thn (h pins s σ H _ I hw) fun u s1 ⟨x, H1, I1, r1, q1⟩ => ?_
  obtain ⟨i, rfl, q⟩ := q1
  obtain ⟨t, rfl⟩ := r1
  exact ⟨some i, H1, I1, .int i t, q⟩

/-- what a slice of a value is, by values: the slice object stands at sl -/
def SlR (X : Cx) (r : V → Option Int → Option Int → Hp → VK → Prop) : Prop :=
  ∀ (pins : List (Addr × Obj)) (s : Shared) (σ : St) (H : Hp) (x : V) (v vl vu : Value) (lo hi : Option Int) (sl : Addr) (Q : VK), Inv X pins σ H s → RelV x v → s.heap.IsSliceOf sl vl vu .none → IsPart vl lo → IsPart vu hi → r x lo hi H Q →
    ∃ T id, typeLookup (.type T) "__getitem__" = pure (some (.builtin id)) ∧ s.TypeIs v T ∧ wpAny (model X.prog X.w) X.A (getItem v (.ref sl)) (EP X pins σ Q) X.xe s
theorem SlR.or {r r' : V → Option Int → Option Int → Hp → VK → Prop} (h : SlR X r) (h' : SlR X r') : SlR X (fun x lo hi H Q => r x lo hi H Q ∨ r' x lo hi H Q) := by
  intro pins s σ H x v vl vu lo hi sl Q I rx hs pl pu q
  rcases q with q | q
  · exact h pins s σ H x v vl vu lo hi sl Q I rx hs pl pu q
  · exact h' pins s σ H x v vl vu lo hi sl Q I rx hs pl pu q
def tSl (r : V → Option Int → Option Int → Hp → VK → Prop) (te : TE) (tl th : TO) : TE := fun σ H Q => te σ H fun x H1 => tl σ H1 fun l H2 => th σ H2 fun u H3 => r x l u H3 Q
/-- a[lo:hi], any a -/
theorem pe_slice {r : V → Option Int → Option Int → Hp → VK → Prop} (hr : SlR X r) (he : PE X e te) (hl : PO X lo tl) (hu : PO X hi th) : PE X (.Subscript e (.Slice lo hi none p2) pos) (tSl r te tl th) := by
  intro pins s σ H Q I h
  refine Subscript_ (thn (he pins s σ H _ I h) fun v s1 ⟨x, H1, I1, r1, q1⟩ => ?_)
  refine wpAny_Slice (thn (hl pins s1 σ H1 _ I1 q1) fun vl s2 ⟨l, H2, I2, pl, q2⟩ => thn (hu pins s2 σ H2 _ I2 q2) fun vu s3 ⟨u, H3, I3, pu, q3⟩ => ?_)
  rw [evalPart_none]
  refine wpAny_pure ?_
  have I4 : Inv X pins σ H3 { s3 with heap := s3.heap.push { cls := .type "slice", data := .fields #[vl, vu, .none] } } := I3.kept (t' := s3.toks) fun b ob q => Heap.get?_push_of_some _ q
  obtain ⟨T, id, hT, ht, hg⟩ := hr pins { s3 with heap := s3.heap.push { cls := .type "slice", data := .fields #[vl, vu, .none] } } σ H3 x v vl vu l u s3.heap.objs.size Q I4 r1 (Heap.IsSliceOf.new ..) pl pu q3
  show wpAny (model X.prog X.w) X.A (subscriptTail e (.Slice lo hi none p2) v (.ref s3.heap.objs.size)) (EP X pins σ Q) X.xe { s3 with heap := s3.heap.push { cls := .type "slice", data := .fields #[vl, vu, .none] } }
  exact tail_any (ops := [.ref s3.heap.objs.size, v]) ht hT hg (by with_unfolding_all rfl)

/-- the items of xs[lo:hi] -/
def cutV (xs : List V) (lo hi : Option Int) : List V := (xs.drop (HT.sIx xs.length 0 lo)).take (HT.sIx xs.length xs.length hi - HT.sIx xs.length 0 lo)
theorem cutV_length (xs : List V) (lo hi : Option Int) : (cutV xs lo hi).length ≤ xs.length := by
  unfold cutV
  rw [List.length_take, List.length_drop]
  omega
/-- t[lo:hi], not the whole of it (the whole would be t itself) -/
def rSlT (K : PySem.W.Frag) : V → Option Int → Option Int → Hp → VK → Prop := fun x lo hi H Q => ∃ a xs, x = .ref a ∧ SqT K H a xs ∧
  ¬ (HT.sIx xs.length 0 lo = 0 ∧ HT.sIx xs.length xs.length hi = xs.length) ∧ ∀ p, H p = none → Q (.ref p) (upd H p (.tup (cutV xs lo hi)))
theorem sl_tup : SlR X (rSlT X.K) := by
  intro pins s σ H x v vl vu lo hi sl Q I rx hs pl pu h
  obtain ⟨a, xs, rfl, hx, hw, q⟩ := h
  cases rx
  obtain ⟨its, r, ht, hz⟩ := I.tuple hx
  have hlen : its.toArray.size = xs.length := by rw [List.size_toArray]; exact r.length.symm
  refine ⟨"tuple", _, PyProof.Rows.slot_tuple_getitem.lookup, ht.typeIs, ?_⟩
  refine HT.getItem_tuple_cut ht hs pl pu (by rw [hlen]; exact hw) ?_ (by rw [hlen]; exact hz)
  rw [hlen]
  refine ⟨.ref s.heap.objs.size, _, I.laid (t' := s.toks) (o := .tup (cutV xs lo hi)) (fun b ob q => Heap.get?_push_of_some _ q) (Nat.le_refl _) ?_, rfl, q _ (I.hok.fresh (Nat.le_refl _))⟩
  exact ⟨Nat.le_trans (cutV_length xs lo hi) hz, _, (r.drop (HT.sIx xs.length 0 lo)).take (HT.sIx xs.length xs.length hi - HT.sIx xs.length 0 lo), IsTup.new _ _⟩

/-! ### t < u, t + u -/
def rLtT (K : PySem.W.Frag) : R2 := fun x y H Q => ∃ a b ns ms, x = .ref a ∧ y = .ref b ∧ SqT K H a (ns.map V.int) ∧ SqT K H b (ms.map V.int) ∧ Q (.bl (HT.lexLt ns ms)) H
/-- t + u, t not empty: u empty gives t itself -/
def rCatT (K : PySem.W.Frag) : R2 := fun x y H Q => ∃ a b xs ys, x = .ref a ∧ y = .ref b ∧ SqT K H a xs ∧ SqT K H b ys ∧ xs ≠ [] ∧ xs.length + ys.length ≤ sizeLine ∧
  (ys = [] → Q (.ref a) H) ∧ (ys ≠ [] → ∀ p, H p = none → Q (.ref p) (upd H p (.tup (xs ++ ys))))
end
end L2

namespace L2
open PySem PySem.Spec PyProof.Rows

/-! ### places -/
/-- the place that an index of any sign means -/
def ixN (n : Nat) (i : Int) : Option Nat := if 0 ≤ i then (if i < n then some i.toNat else none) else if -(n : Int) ≤ i then some (i + n).toNat else none
def atI {α : Type} (xs : List α) (i : Int) : Option α := (ixN xs.length i).bind fun j => xs[j]?
theorem ixN_seq {n : Nat} {i : Int} {j : Nat} (h : ixN n i = some j) : seqIndex? i n = some j ∧ j < n ∧ -(n : Int) ≤ i ∧ i < n := by
  unfold ixN at h
  by_cases h0 : 0 ≤ i
  · rw [if_pos h0] at h
    by_cases h1 : i < n
    · rw [if_pos h1] at h
      have e : i.toNat = j := Option.some.inj h
      exact ⟨by rw [seqIndex_of h0 h1, e], by omega, by omega, h1⟩
    · rw [if_neg h1] at h; cases h
  · rw [if_neg h0] at h
    by_cases h1 : -(n : Int) ≤ i
    · rw [if_pos h1] at h
      have e : (i + n).toNat = j := Option.some.inj h
      exact ⟨by rw [seqIndex_neg (by omega) h1, e], by omega, h1, by omega⟩
    · rw [if_neg h1] at h; cases h
theorem atI_get {α : Type} {xs : List α} {i : Int} {v : α} (h : atI xs i = some v) : ∃ j, seqIndex? i xs.length = some j ∧ xs[j]? = some v ∧ j < xs.length ∧ -(xs.length : Int) ≤ i ∧ i < xs.length := by
  unfold atI at h
  cases e : ixN xs.length i with
  | none => rw [e] at h; cases h
  | some j =>
    rw [e] at h
    obtain ⟨h1, h2, h3, h4⟩ := ixN_seq e
    exact ⟨j, h1, h, h2, h3, h4⟩
theorem atI_nat {α : Type} {xs : List α} {j : Nat} {v : α} (h : xs[j]? = some v) : atI xs (j : Int) = some v := by
  have hj : j < xs.length := (List.getElem?_eq_some_iff.mp h).1
  have e : ixN xs.length (j : Int) = some j := by
    unfold ixN
    rw [if_pos (by omega), if_pos (by omega)]; simp
  unfold atI; rw [e]; exact h
/-! ### what may be subscripted -/
/-- what stands as an index of a plain subscript -/
def PlainIx (b : Expr) : Prop := ∀ o i, subscripted b false o i = operate [o, i] (getItem o i)
/-- a subscript by values -/
def IxR (X : Cx) (r : R2) : Prop :=
  ∀ (value slice : Expr) (pins : List (Addr × Obj)) (s : Shared) (σ : St) (H : Hp) (x y : V) (v u : Value) (Q : VK), Inv X pins σ H s → RelV x v → RelV y u → r x y H Q →
    subscripted slice false v u = operate [v, u] (getItem v u) → wpAny (model X.prog X.w) X.A (subscriptTail value slice v u) (EP X pins σ Q) X.xe s
/-- a call of a builtin's method by values: the receiver, the arguments -/
def MtR (X : Cx) (id : String) (r : V → List V → Hp → VK → Prop) : Prop :=
  ∀ (pins : List (Addr × Obj)) (s : Shared) (σ : St) (H : Hp) (x : V) (xs : List V) (v : Value) (us : List Value) (Q : VK), Inv X pins σ H s → RelV x v → Vals xs us → r x xs H Q →
    wpAny (model X.prog X.w) X.A (call (.builtin id) (v :: us)) (EP X pins σ Q) X.xe s
section
variable {X : Cx} {a b : Expr} {ta tb : TE} {pos : Pos}
theorem IxR.or {r r' : R2} (h : IxR X r) (h' : IxR X r') : IxR X (fun x y H Q => r x y H Q ∨ r' x y H Q) := by
  intro value slice pins s σ H x y v u Q I rx ry q hs
  rcases q with q | q
  · exact h value slice pins s σ H x y v u Q I rx ry q hs
  · exact h' value slice pins s σ H x y v u Q I rx ry q hs
/-- a[b] -/
theorem pe_ix {r : R2} (hr : IxR X r) (ha : PE X a ta) (hb : PE X b tb) (hs : PlainIx b) : PE X (.Subscript a b pos) (tOp r ta tb) := by
  intro pins s σ H Q I h
  exact Subscript_ (binT ha hb I h fun v u s2 x y H2 I2 rx ry q => hr a b pins s2 σ H2 x y v u Q I2 rx ry q (hs _ _))

def rIxL (K : PySem.W.Frag) : R2 := fun x y H Q => ∃ p xs i v, x = .ref p ∧ y = .int i ∧ SqL K H p xs ∧ atI xs i = some v ∧ Q v H
def rIxT (K : PySem.W.Frag) : R2 := fun x y H Q => ∃ p xs i v, x = .ref p ∧ y = .int i ∧ SqT K H p xs ∧ atI xs i = some v ∧ Q v H
def rIxS : R2 := fun x y H Q => ∃ z i c, x = .str z ∧ y = .int i ∧ z.length ≤ sizeLine ∧ atI z.cps.toList i = some c ∧ Q (.str ⟨#[c]⟩) H
theorem ix_list : IxR X (rIxL X.K) := by
  intro value slice pins s σ H x y v u Q I rx ry h hs
  obtain ⟨p, xs, i, z, rfl, rfl, hq, he, q⟩ := h
  cases rx
  obtain ⟨t, rfl⟩ := ry
  obtain ⟨its, r, pl, hz⟩ := I.list hq
  obtain ⟨j, h1, h2, h3, h4, h5⟩ := atI_get he
  obtain ⟨w, ew, rw'⟩ := r.get h2
  have hl := r.length
  have hn := line63
  have fin : EP X pins σ Q w s := ⟨z, H, I, rw', q⟩
  by_cases h0 : 0 ≤ i
  · have hj : i.toNat = j := by
      rw [seqIndex_of h0 h5] at h1
      exact Option.some.inj h1
    exact item_listR pl.isList h0 (by omega) (by rw [hj]; simpa using ew) fin hs
  · have hj : (i + (its.toArray.size : Int)).toNat = j := by
      rw [seqIndex_neg (by omega) h4] at h1
      rw [List.size_toArray, ← hl]
      exact Option.some.inj h1
    exact subscriptTail_builtinR (x := w) pl.isList.typeIs slot_list_getitem.lookup
      (wpAny_getItem_list_neg (Q := fun r s' => r = w ∧ EP X pins σ Q r s') pl.isList (by omega) (by rw [List.size_toArray] <;> omega) (by omega) (by rw [hj]; simpa using ew) ⟨rfl, fin⟩) hs
theorem ix_tup : IxR X (rIxT X.K) := by
  intro value slice pins s σ H x y v u Q I rx ry h hs
  obtain ⟨p, xs, i, z, rfl, rfl, hq, he, q⟩ := h
  cases rx
  obtain ⟨t, rfl⟩ := ry
  obtain ⟨its, r, pl, hz⟩ := I.tuple hq
  obtain ⟨j, h1, h2, h3, h4, h5⟩ := atI_get he
  obtain ⟨w, ew, rw'⟩ := r.get h2
  have hl := r.length
  have hn := line63
  have fin : EP X pins σ Q w s := ⟨z, H, I, rw', q⟩
  exact subscriptTail_builtinR (x := w) pl.typeIs slot_tuple_getitem.lookup
    (getItem_tuple (j := j) (Q := fun r s' => r = w ∧ EP X pins σ Q r s') pl (by omega) (by omega) (by rw [List.size_toArray, ← hl]; exact h1) (by simpa using ew) ⟨rfl, fin⟩) hs
theorem ix_str : IxR X rIxS := by
  intro value slice pins s σ H x y v u Q I rx ry h hs
  obtain ⟨z, i, c, rfl, rfl, hz, he, q⟩ := h
  obtain ⟨t, rfl⟩ := rx
  obtain ⟨t', rfl⟩ := ry
  obtain ⟨j, h1, h2, h3, h4, h5⟩ := atI_get he
  have hl : z.cps.toList.length = z.length := by simp [Str.length]
  rw [hl] at h1 h4 h5
  have hn := line63
  exact tail_any (typeIs_str s z t) slot_str_getitem.lookup (getItem_str (c := c) (by
    have e1 : decide (i < -(2 ^ 63 : Int)) = false := decide_eq_false (by omega)
    have e2 : decide (i ≥ 2 ^ 63) = false := decide_eq_false (by omega)
    rw [e1, e2, Bool.or_false]) (by rw [h1]; simpa using h2) ⟨.str ⟨#[c]⟩, H, I.tok _, ⟨_, rfl⟩, q⟩) hs
/-- list, tuple or str -/
def rIx (K : PySem.W.Frag) : R2 := fun x y H Q => rIxL K x y H Q ∨ rIxT K x y H Q ∨ rIxS x y H Q
/-! ### xs[i] = v, any sign -/
/-- the list's object behind a store -/
theorem mapSeq_set (its : List Value) (n j : Nat) (u : Value) : Obj.mapSeq (·.setIfInBounds j u) { cls := .type "list", data := .seq its.toArray n } = { cls := .type "list", data := .seq (its.set j u).toArray n } := by
  simp [Obj.mapSeq]
theorem Inv.lst {pins : List (Addr × Obj)} {σ : St} {H : Hp} {s : Shared} {p : Addr} {xs : List V} (I : Inv X pins σ H s) (h : H p = some (.lst xs)) :
    ∃ (its : List Value) (n : Nat), Vals xs its ∧ s.heap.get? p = some { cls := .type "list", data := .seq its.toArray n } ∧ xs.length ≤ sizeLine := by
  obtain ⟨z, its, n, r, e⟩ := I.hok p _ h
  exact ⟨its, n, r, e, z⟩
/-- the list at p is written by an update of its object -/
theorem Inv.lstUpd {pins : List (Addr × Obj)} {σ : St} {H : Hp} {s : Shared} {p : Addr} {xs ys : List V} {its its' : List Value} {n n' : Nat} {f : Obj → Obj} (I : Inv X pins σ H s) (h : H p = some (.lst xs))
    (ho : s.heap.get? p = some { cls := .type "list", data := .seq its.toArray n }) (hf : f { cls := .type "list", data := .seq its.toArray n } = { cls := .type "list", data := .seq its'.toArray n' }) (r : Vals ys its') (hz : ys.length ≤ sizeLine) (t : Nat) :
    Inv X pins σ (upd H p (.lst ys)) { s with heap := s.heap.update p f, toks := t } := by
  have e : (s.heap.update p f).get? p = some { cls := .type "list", data := .seq its'.toArray n' } := by
    rw [Heap.get?_update_self f ho (by rw [hf] <;> rfl), hf]
  refine I.write (x := p) (e := p) (by rw [h]; trivial) (.inl rfl) (fun b u hb q => (Heap.get?_update_other _ _ (Ne.symm hb)).trans q) ⟨_, e⟩ ?_
  exact ⟨hz, its', n', r, e⟩
def rSetL : V → V → V → Hp → (Hp → Prop) → Prop := fun o i v H Q => ∃ p xs k j, o = .ref p ∧ i = .int k ∧ H p = some (.lst xs) ∧ ixN xs.length k = some j ∧ Q (upd H p (.lst (xs.set j v)))
theorem set_list : PSet X rSetL := by
  intro pins s σ H o i v ov iv u Q I ro ri rv h
  obtain ⟨p, xs, k, j, rfl, rfl, hp, hj, q⟩ := h
  cases ro
  obtain ⟨t, rfl⟩ := ri
  obtain ⟨its, n, r, ho, hz⟩ := I.lst hp
  obtain ⟨h1, h2, h3, h4⟩ := ixN_seq hj
  have hl := r.length
  have hn := line63
  have I' : Inv X pins σ (upd H p (.lst (xs.set j v))) { s with heap := s.heap.update p (Obj.mapSeq (·.setIfInBounds j u)) } :=
    I.lstUpd hp ho (mapSeq_set its n j u) (r.set rv j) (by rw [List.length_set]; exact hz) s.toks
  by_cases h0 : 0 ≤ k
  · have hk : k.toNat = j := by
      rw [seqIndex_of h0 h4] at h1
      exact Option.some.inj h1
    exact PySem.W.ki_setAt ho h0 (by omega) (by rw [List.size_toArray, ← hl]; exact h4) (by rw [hk]; exact ⟨_, I', q⟩)
  · have hk : (k + (its.toArray.size : Int)).toNat = j := by
      rw [seqIndex_neg (by omega) h3] at h1
      rw [List.size_toArray, ← hl]
      exact Option.some.inj h1
    exact PySem.W.ki_setBack ho (by omega) (by rw [List.size_toArray, ← hl]; exact h3) (by omega) (by rw [hk]; exact ⟨_, I', q⟩)

/-! ### slices -/
theorem slice_bounds (lo hi : Option Int) (n : Nat) : (sliceBounds lo hi none n).1 = ((HT.sIx n 0 lo : Nat) : Int) ∧ (sliceBounds lo hi none n).2.1 = ((HT.sIx n n hi : Nat) : Int) ∧ (sliceBounds lo hi none n).2.2 = 1 := by
  refine ⟨?_, ?_, rfl⟩
  · cases lo with
    | none => simp [sliceBounds, HT.sIx]
    | some i =>
      simp only [sliceBounds, HT.sIx, Option.getD_none, show (1 : Int) > 0 by decide, if_true]
      by_cases h : i < 0
      · simp only [h, if_true] <;> omega
      · simp only [h, if_false] <;> omega
  · cases hi with
    | none => simp [sliceBounds, HT.sIx]
    | some i =>
      simp only [sliceBounds, HT.sIx, Option.getD_none, show (1 : Int) > 0 by decide, if_true]
      by_cases h : i < 0
      · simp only [h, if_true] <;> omega
      · simp only [h, if_false] <;> omega
theorem slicePick_cut (its : List Value) (lo hi : Option Int) : slicePick its.toArray lo hi none = ((its.drop (HT.sIx its.length 0 lo)).take (HT.sIx its.length its.length hi - HT.sIx its.length 0 lo)).toArray := by
  obtain ⟨h1, h2, h3⟩ := slice_bounds lo hi its.toArray.size
  unfold slicePick
  rw [h1, h2, h3]
  simp only [sliceRange_one, pick_run, List.size_toArray] <;> rfl
/-- xs[lo:hi] of a list: a new list -/
def rSlL (K : PySem.W.Frag) : V → Option Int → Option Int → Hp → VK → Prop := fun x lo hi H Q => ∃ a xs, x = .ref a ∧ SqL K H a xs ∧ ∀ p, H p = none → Q (.ref p) (upd H p (.lst (cutV xs lo hi)))
theorem sl_list : SlR X (rSlL X.K) := by
  intro pins s σ H x v vl vu lo hi sl Q I rx hs pl pu h
  obtain ⟨a, xs, rfl, hx, q⟩ := h
  cases rx
  obtain ⟨its, r, ht, hz⟩ := I.list hx
  have hlen := r.length
  refine ⟨"list", _, slot_list_getitem.lookup, ht.isList.typeIs, ?_⟩
  refine wpAny_getItem_list_slice ht.isList hs pl pu .none (by simp) ?_ (by rw [List.size_toArray] <;> omega)
  rw [slicePick_cut, ← hlen]
  refine ⟨.ref s.heap.objs.size, _, I.laid (t' := s.toks) (o := .lst (cutV xs lo hi)) (fun b ob q => Heap.get?_push_of_some _ q) (Nat.le_refl _) ?_, rfl, q _ (I.hok.fresh (Nat.le_refl _))⟩
  exact ⟨Nat.le_trans (cutV_length xs lo hi) hz, _, 0, (r.drop (HT.sIx xs.length 0 lo)).take (HT.sIx xs.length xs.length hi - HT.sIx xs.length 0 lo), Heap.get?_push_size _ rfl⟩

/-! ### in, not in: flat items -/
def flatV : V → Bool
  | .non => true
  | .bl _ => true
  | .int _ => true
  | .str _ => true
  | _ => false
/-- == of flat values -/
def eqV : V → V → Bool
  | .non, .non => true
  | .bl a, .bl b => a == b
  | .bl a, .int b => (if a then 1 else 0) == b
  | .int a, .bl b => a == (if b then 1 else 0)
  | .int a, .int b => a == b
  | .str a, .str b => a == b
  | _, _ => false
theorem eqAt_V {A : Around} {s : Shared} {y x : V} {u v : Value} (ry : RelV y u) (rx : RelV x v) (fy : flatV y = true) (fx : flatV x = true) : SeqAt.EqAt A s u v (eqV y x) := by
  cases y with
  | non =>
    cases ry
    cases x with
    | non => cases rx; exact SeqAt.EqAt.same _
    | bl b => cases rx; exact SeqAt.EqAt.none_bool b
    | int b => obtain ⟨t, rfl⟩ := rx; exact SeqAt.EqAt.none_int b t
    | str b => obtain ⟨t, rfl⟩ := rx; exact SeqAt.EqAt.none_str b t
    | _ => exact absurd (show false = true from fx) Bool.false_ne_true
  | bl a =>
    cases ry
    cases x with
    | non => cases rx; exact SeqAt.EqAt.bool_none a
    | bl b => cases rx; exact SeqAt.EqAt.bool_bool a b
    | int b => obtain ⟨t, rfl⟩ := rx; exact SeqAt.EqAt.bool_int a b t
    | str b => obtain ⟨t, rfl⟩ := rx; exact SeqAt.EqAt.bool_str a b t
    | _ => exact absurd (show false = true from fx) Bool.false_ne_true
  | int a =>
    obtain ⟨t', rfl⟩ := ry
    cases x with
    | non => cases rx; exact SeqAt.EqAt.int_none a t'
    | bl b => cases rx; exact SeqAt.EqAt.int_bool a t' b
    | int b => obtain ⟨t, rfl⟩ := rx; exact SeqAt.EqAt.int_int a t' b t
    | str b => obtain ⟨t, rfl⟩ := rx; exact SeqAt.EqAt.int_str a t' b t
    | _ => exact absurd (show false = true from fx) Bool.false_ne_true
  | str a =>
    obtain ⟨t', rfl⟩ := ry
    cases x with
    | non => cases rx; exact SeqAt.EqAt.str_none a t'
    | bl b => cases rx; exact SeqAt.EqAt.str_bool a t' b
    | int b => obtain ⟨t, rfl⟩ := rx; exact SeqAt.EqAt.str_int a t' b t
    | str b => obtain ⟨t, rfl⟩ := rx; exact SeqAt.EqAt.str_str a t' b t
    | _ => exact absurd (show false = true from fx) Bool.false_ne_true
  | _ => exact absurd (show false = true from fy) Bool.false_ne_true
/-- the items' answers, read off the values (a value's own answer does not lean on its token) -/
def eqU (x : V) (u : Value) : Bool := match u with
  | .none => eqV .non x
  | .bool b => eqV (.bl b) x
  | .int i _ => eqV (.int i) x
  | .str z _ => eqV (.str z) x
  | _ => false
theorem eqU_of {x y : V} {u : Value} (r : RelV y u) (f : flatV y = true) : eqU x u = eqV y x := by
  cases y with
  | non => cases r; rfl
  | bl b => cases r; rfl
  | int i => obtain ⟨t, rfl⟩ := r; rfl
  | str z => obtain ⟨t, rfl⟩ := r; rfl
  | _ => exact absurd (show false = true from f) Bool.false_ne_true
theorem any_eqU {x : V} : ∀ {xs : List V} {us : List Value}, Vals xs us → xs.all flatV = true → us.any (eqU x) = xs.any fun y => eqV y x
  | _, _, .nil, _ => rfl
  | y :: xs, u :: us, .cons r t, f => by
    rw [List.all_cons, Bool.and_eq_true] at f
    rw [List.any_cons, List.any_cons, eqU_of r f.1, any_eqU t f.2]
theorem mem_eqAt {A : Around} {s : Shared} {x : V} {v : Value} (rx : RelV x v) (fx : flatV x = true) : ∀ {xs : List V} {us : List Value}, Vals xs us → xs.all flatV = true → ∀ u ∈ us, SeqAt.EqAt A s u v (eqU x u)
  | _, _, .nil, _ => fun u hu => by cases hu
  | y :: xs, u :: us, .cons r t, f => fun u' hu => by
    rw [List.all_cons, Bool.and_eq_true] at f
    rcases List.mem_cons.mp hu with rfl | hu
    · rw [eqU_of r f.1]; exact eqAt_V r rx f.1 fx
    · exact mem_eqAt rx fx t f.2 u' hu
def inV (x : V) (xs : List V) : Bool := xs.any fun y => eqV y x
/-- x in a list or tuple of flat items -/
def rIn (K : PySem.W.Frag) (neg : Bool) : R2 := fun x y H Q => ∃ p xs, y = .ref p ∧ (SqL K H p xs ∨ SqT K H p xs) ∧ flatV x = true ∧ xs.all flatV = true ∧ Q (.bl (if neg then !inV x xs else inV x xs)) H
theorem op_in_seq : OpR X (compareOp .In) (rIn X.K false) := by
  intro pins s σ H x y v u Q I rx ry h
  obtain ⟨p, xs, rfl, hq, fx, fs, q⟩ := h
  cases ry
  rcases hq with hq | hq
  · obtain ⟨its, r, pl, hz⟩ := I.list hq
    refine SeqAt.in_listAt (eqU x) pl.isList (fun w hw => mem_eqAt rx fx r fs w (by simpa using hw)) ⟨.bl _, H, I, rfl, ?_⟩
    rw [show its.toArray.any (eqU x) = its.any (eqU x) by simp, any_eqU r fs]
    exact q
  · obtain ⟨its, r, pl, hz⟩ := I.tuple hq
    refine SeqAt.in_tupleAt (eqU x) pl (fun w hw => mem_eqAt rx fx r fs w (by simpa using hw)) ⟨.bl _, H, I, rfl, ?_⟩
    rw [show its.toArray.any (eqU x) = its.any (eqU x) by simp, any_eqU r fs]
    exact q
/-! ### len, list(x), tuple(x) of any list or tuple that is read -/
theorem call_len_seq : CallR X (.builtin "len") (fun xs H Q => ∃ p ys, xs = [.ref p] ∧ (SqL X.K H p ys ∨ SqT X.K H p ys) ∧ Q (.int ys.length) H) := by
  intro pins s σ H xs us Q I r h
  obtain ⟨p, ys, rfl, hq, q⟩ := h
  obtain ⟨u, rfl, rx⟩ := vals1 r
  cases rx
  have hn := line63
  rcases hq with hq | hq
  · obtain ⟨its, r', pl, hz⟩ := I.list hq
    have hlen := r'.length
    exact Calls.call_len_list pl.isList (by simp only [List.size_toArray] <;> omega) ⟨.int ys.length, H, I.tok _, ⟨s.toks + 1, by rw [List.size_toArray, hlen]⟩, q⟩
  · obtain ⟨its, r', pl, hz⟩ := I.tuple hq
    have hlen := r'.length
    exact len_tuple pl (by simp only [List.size_toArray] <;> omega) ⟨.int ys.length, H, I.tok _, ⟨s.toks + 1, by rw [List.size_toArray, hlen]⟩, q⟩
theorem call_len_str : CallR X (.builtin "len") (fun xs H Q => ∃ z, xs = [.str z] ∧ z.length ≤ sizeLine ∧ Q (.int z.length) H) := by
  intro pins s σ H xs us Q I r h
  obtain ⟨z, rfl, hz, q⟩ := h
  obtain ⟨u, rfl, t, rfl⟩ := vals1 r
  have hn := line63
  exact len_str (by omega) ⟨.int z.length, H, I.tok _, ⟨_, rfl⟩, q⟩
theorem call_tuple_of : CallR X (.type "tuple") (fun xs H Q => ∃ p ys, xs = [.ref p] ∧ ((SqL X.K H p ys ∧ ∀ l, H l = none → Q (.ref l) (upd H l (.tup ys))) ∨ (SqT X.K H p ys ∧ Q (.ref p) H))) := by
  intro pins s σ H xs us Q I r h
  obtain ⟨p, ys, rfl, h⟩ := h
  obtain ⟨u, rfl, rx⟩ := vals1 r
  cases rx
  rcases h with ⟨hq, q⟩ | ⟨hq, q⟩
  · obtain ⟨its, r', pl, hz⟩ := I.list hq
    have hlen := r'.length
    refine call_tuple_list pl.isList (fun h' kp => ?_) (by simp only [List.size_toArray] <;> omega)
    have I1 : Inv X pins σ H { s with heap := h' } := I.kept (t' := s.toks) kp
    have I2 : Inv X pins σ (upd H h'.objs.size (.tup ys)) { s with heap := h'.push { cls := .type "tuple", data := .seq its.toArray } } :=
      I1.laid (t' := s.toks) (fun b o e => Heap.get?_push_of_some _ e) (Nat.le_refl _) (show ObjOk X.prog X.w _ _ _ (.tup ys) from ⟨hz, its, r', IsTup.new _ _⟩)
    exact ⟨.ref h'.objs.size, _, I2, rfl, q _ (I1.hok.fresh (Nat.le_refl _))⟩
  · obtain ⟨its, r', pl, hz⟩ := I.tuple hq
    exact call_tuple_same pl ⟨.ref p, H, I, rfl, q⟩

/-! ### the call of a builtin's method: o.m(..) -/
/-- the value is of that builtin type -/
def tyV (K : PySem.W.Frag) (T : String) (x : V) (H : Hp) : Prop := match x with
  | .str _ => T = "str"
  | .int _ => T = "int"
  | .ref p => (T = "list" ∧ ∃ xs, SqL K H p xs) ∨ (T = "tuple" ∧ ∃ o, K.lookup p = some o ∧ o.cls = .type "tuple" ∧ o.dict = none) ∨
      (T = "dict" ∧ ((∃ kvs, H p = some (.dK kvs)) ∨ ∃ kvs, H p = some (.dT kvs))) ∨ (T = "set" ∧ ∃ S n, H p = some (.set S n))
  | _ => False
theorem tyV_is {pins : List (Addr × Obj)} {σ : St} {H : Hp} {s : Shared} {T : String} {x : V} {v : Value} (I : Inv X pins σ H s) (r : RelV x v) (ty : tyV X.K T x H) :
    s.TypeIs v T ∧ ∀ a, v = .ref a → ∃ ob, s.heap.get? a = some ob ∧ ob.dict = none := by
  cases x with
  | str z =>
    obtain ⟨t, rfl⟩ := r
    cases (show T = "str" from ty)
    exact ⟨typeIs_str s z t, fun _ e => nomatch e⟩
  | int i =>
    obtain ⟨t, rfl⟩ := r
    cases (show T = "int" from ty)
    exact ⟨typeIs_int s i t, fun _ e => nomatch e⟩
  | ref p =>
    cases r
    rcases ty with ⟨rfl, xs, hq⟩ | ⟨rfl, o, hk, hc, hd⟩ | ⟨rfl, hk⟩ | ⟨rfl, S, n, hk⟩
    · obtain ⟨its, _, pl, _⟩ := I.list hq
      refine ⟨pl.isList.typeIs, fun a e => ?_⟩
      cases e
      obtain ⟨o, n, e, c, hd, _⟩ := pl
      exact ⟨o, e, hd⟩
    · refine ⟨⟨o, I.kIn p o hk, hc⟩, fun a e => ?_⟩
      cases e
      exact ⟨o, I.kIn _ o hk, hd⟩
    · have z : ∃ o, s.heap.get? p = some o ∧ o.ExactDict := by
        rcases hk with ⟨kvs, hk⟩ | ⟨kvs, hk⟩
        · obtain ⟨_, _, _, _, o, _, _, e, ex, _⟩ := I.hok p _ hk
          exact ⟨o, e, ex⟩
        · obtain ⟨_, _, _, _, o, _, _, e, ex, _⟩ := I.hok p _ hk
          exact ⟨o, e, ex⟩
      obtain ⟨o, e, ex⟩ := z
      refine ⟨⟨o, e, ex.1⟩, fun a e2 => ?_⟩
      cases e2
      exact ⟨o, e, ex.2.1⟩
    · obtain ⟨o, _, _, _, e, ex, _⟩ := I.hok p _ hk
      refine ⟨⟨o, e, ex.1⟩, fun a e2 => ?_⟩
      cases e2
      exact ⟨o, e, ex.2.1⟩
  | _ => exact False.elim ty
def tBM0 (K : PySem.W.Frag) (T : String) (r : V → List V → Hp → VK → Prop) (to : TE) : TE := fun σ H Q => to σ H fun x H1 => tyV K T x H1 ∧ r x [] H1 Q
def tBM (K : PySem.W.Frag) (T : String) (r : V → List V → Hp → VK → Prop) (to : TE) (t : TA) : TE := fun σ H Q => to σ H fun x H1 => tyV K T x H1 ∧ t σ H1 fun xs H2 => r x xs H2 Q
variable {o e : Expr} {es : List Expr} {to : TE} {t : TA} {name : Str} {apos cpos : Pos} {T id : String} {r : V → List V → Hp → VK → Prop}
theorem pe_bm (pa : PlainAttrs T) (slot : Slot T name id) (hty : typeOf (.builtin id) = pure (.type "method_descriptor")) (hm : MtR X id r) (ho : PE X o to) (ha : PA X (e :: es) t)
    (hbase : attributeBase o name X.env (eval o X.env) = eval o X.env := by rfl)
    (hfew : ((backTo cpos (starEach (e :: es) X.env)).all (fun x => !x.1) && (backToKw cpos (keywordEach [] X.env)).all (fun x => x.1.isSome)
      && decide ((e :: es).length + ([] : List Keyword).length + (if ([] : List Keyword).isEmpty then 0 else 1) < 30)) = true := by rfl)
    (hline : (apos.endLine == cpos.line) = true := by rfl) (hs : starEach (e :: es) X.env = (false, eval e X.env) :: starEach es X.env := by rfl) (hplain : (backTo cpos (starEach es X.env)).any (·.1) = false := by rfl) :
    PE X (.Call (.Attribute o name apos) (e :: es) [] cpos) (tBM X.K T r to t) := by
  intro pins s σ H Q I h
  refine wpAny_Call_method_late hbase hfew hline rfl (thn (ho pins s σ H _ I h) fun v s1 ⟨x, H1, I1, r1, ty, q1⟩ => ?_)
  obtain ⟨h1, h2⟩ := tyV_is I1 r1 ty
  refine ⟨T, id, pa, slot, hty, h1, h2, ?_⟩
  have hA := ha cpos pins s1 σ H1 _ I1 q1
  rw [hs] at hA ⊢
  refine Calls.callWith_builtin (by show (false || (backTo cpos (starEach es X.env)).any (·.1)) = false; rw [hplain] <;> rfl) (Calls.evalArgs_plain ?_)
  exact thn hA fun us s2 ⟨vs, H2, I2, r2, q2⟩ => hm pins s2 σ H2 x vs v us Q I2 r1 r2 q2
end
end L2

namespace L2
open PySem PySem.Spec PyProof.Rows

def MtM (X : Cx) (id : String) (r : V → List V → Hp → VK → Prop) : Prop :=
  ∀ (pins : List (Addr × Obj)) (s : Shared) (σ : St) (H : Hp) (x : V) (xs : List V) (v : Value) (us : List Value) (Q : VK), Inv X pins σ H s → RelV x v → Vals xs us → r x xs H Q →
    wpAny (model X.prog X.w) X.A (call (.builtin id) (v :: us)) (EP X pins σ Q) X.xe s

/-! ### lists of values -/
theorem Vals.one : ∀ {x : V} {us : List Value}, Vals [x] us → ∃ u, us = [u] ∧ RelV x u
  | _, _, .cons r .nil => ⟨_, rfl, r⟩
theorem Vals.zero : ∀ {us : List Value}, Vals [] us → us = []
  | _, .nil => rfl
theorem Vals.rep {xs : List V} {us : List Value} (h : Vals xs us) : ∀ k : Nat, Vals (List.replicate k xs).flatten (List.replicate k us).flatten
  | 0 => .nil
  | k + 1 => by
    rw [List.replicate_succ, List.replicate_succ, List.flatten_cons, List.flatten_cons]
    exact Vals.append h (Vals.rep h k)
theorem foldl_rep (its : List Value) : ∀ (k : Nat) (acc : List Value),
    List.foldl (fun x1 x2 => x1 ++ x2) acc.toArray (List.replicate k its.toArray) = (acc ++ (List.replicate k its).flatten).toArray
  | 0, acc => by simp
  | k + 1, acc => by
    have e : acc.toArray ++ its.toArray = (acc ++ its).toArray := by simp
    have e2 : (acc ++ its) ++ (List.replicate k its).flatten = acc ++ (List.replicate (k + 1) its).flatten := by
      rw [List.replicate_succ, List.flatten_cons, List.append_assoc]
    rw [← e2, ← foldl_rep its k (acc ++ its), ← e, List.replicate_succ, List.foldl_cons]

section
variable {X : Cx} {pins : List (Addr × Obj)} {σ : St} {H : Hp} {s : Shared} {l b : Addr} {xs ys zs : List V}

/-! ### the two steps: a tracked list is rewritten, a new list is laid -/
theorem Inv.lset {its its' : List Value} {n : Nat} {f : Array Value → Array Value} {t' : Nat} (I : Inv X pins σ H s) (hH : H l = some (.lst xs))
    (e : s.heap.get? l = some { cls := .type "list", data := .seq its.toArray n }) (hf : f its.toArray = its'.toArray) (hv : Vals ys its') (hz : ys.length ≤ sizeLine) :
    Inv X pins σ (upd H l (.lst ys)) { s with heap := s.heap.update l (Obj.mapSeq f), toks := t' } := by
  have q := PySem.IsL.update e f
  rw [hf] at q
  refine I.write (x := l) (e := l) (by rw [hH]; exact trivial) (.inl rfl) (fun b' u hb hu => (Heap.get?_update_other s.heap (Obj.mapSeq f) (Ne.symm hb)).trans hu) ⟨_, q⟩ ?_
  exact ⟨hz, its', _, hv, q⟩
theorem Inv.lnew {its : List Value} {t' : Nat} (I : Inv X pins σ H s) (hv : Vals ys its) (hz : ys.length ≤ sizeLine) :
    Inv X pins σ (upd H s.heap.objs.size (.lst ys)) { s with heap := s.heap.push { cls := .type "list", data := .seq its.toArray }, toks := t' } :=
  I.laid (fun _ _ q => Heap.get?_push_of_some _ q) (Nat.le_refl _) ⟨hz, its, 0, hv, Heap.get?_push_size _ rfl⟩
theorem Inv.fresh (I : Inv X pins σ H s) : H s.heap.objs.size = none := I.hok.fresh (Nat.le_refl _)
theorem Inv.lstM (I : Inv X pins σ H s) (hH : H l = some (.lst xs)) : xs.length ≤ sizeLine ∧ ∃ (its : List Value) (n : Nat), Vals xs its ∧ xs.length = its.length ∧ s.heap.get? l = some { cls := .type "list", data := .seq its.toArray n } := by
  obtain ⟨z, its, n, r, e⟩ := I.hok l _ hH
  exact ⟨z, its, n, r, r.length, e⟩

theorem notLongL {n : Nat} (h : n ≤ sizeLine) : Builtin.List.listTooLong n = false := by
  unfold Builtin.List.listTooLong
  exact decide_eq_false (by omega)
end

section
variable {X : Cx}

/-! ### methods -/
def rAppend : V → List V → Hp → VK → Prop := fun x vs H Q => ∃ l xs y, x = .ref l ∧ vs = [y] ∧ H l = some (.lst xs) ∧ xs.length < sizeLine ∧ Q .non (upd H l (.lst (xs ++ [y])))
theorem mt_append : MtM X "list.append" rAppend := by
  intro pins s σ H x vs v us Q I rx rv h
  obtain ⟨l, xs, y, rfl, rfl, hH, hz, q⟩ := h
  cases rx
  obtain ⟨u, rfl, ru⟩ := rv.one
  obtain ⟨z, its, n, r, hl, e⟩ := I.lstM hH
  refine call_meets F.slot_list_append ⟨_, e, rfl⟩ F.entry_list_append (F.args_list_append_2 _ _) (PySem.list_append l its.toArray n u (by rw [List.size_toArray]; omega)) ⟨e, ?_⟩
  refine ⟨.non, _, I.lset (its' := its ++ [u]) hH e (by simp) (r.append (.cons ru .nil)) ?_, rfl, q⟩
  rw [List.length_append, List.length_singleton]
  omega

def rExtend : V → List V → Hp → VK → Prop := fun x vs H Q => ∃ l b xs zs, x = .ref l ∧ vs = [.ref b] ∧ H l = some (.lst xs) ∧ H b = some (.lst zs) ∧ xs.length + zs.length ≤ sizeLine ∧ Q .non (upd H l (.lst (xs ++ zs)))
def rPop : V → List V → Hp → VK → Prop := fun x vs H Q => ∃ l xs y, x = .ref l ∧ vs = [] ∧ H l = some (.lst xs) ∧ xs[xs.length - 1]? = some y ∧ Q y (upd H l (.lst xs.dropLast))
def rPopAt : V → List V → Hp → VK → Prop := fun x vs H Q => ∃ l xs i k y, x = .ref l ∧ vs = [.int i] ∧ H l = some (.lst xs) ∧ -(2 ^ 63) ≤ i ∧ i < 2 ^ 63 ∧ seqIndex? i xs.length = some k ∧ xs[k]? = some y ∧ Q y (upd H l (.lst (xs.eraseIdx k)))
def rReverse : V → List V → Hp → VK → Prop := fun x vs H Q => ∃ l xs, x = .ref l ∧ vs = [] ∧ H l = some (.lst xs) ∧ Q .non (upd H l (.lst xs.reverse))
def rClear : V → List V → Hp → VK → Prop := fun x vs H Q => ∃ l xs, x = .ref l ∧ vs = [] ∧ H l = some (.lst xs) ∧ Q .non (upd H l (.lst []))
/-! ### list + list, list += list, list * int -/
def rCat : R2 := fun x y H Q => ∃ l b xs zs, x = .ref l ∧ y = .ref b ∧ H l = some (.lst xs) ∧ H b = some (.lst zs) ∧ xs.length + zs.length ≤ sizeLine ∧ ∀ p, H p = none → Q (.ref p) (upd H p (.lst (xs ++ zs)))
/-- a list times an int (a negative one is nothing) -/
def rRep : R2 := fun x y H Q => ∃ l k xs, x = .ref l ∧ y = .int k ∧ H l = some (.lst xs) ∧ -(2 ^ 63) ≤ k ∧ k < 2 ^ 63 ∧ xs.length * k.toNat ≤ sizeLine ∧
  ∀ p, H p = none → Q (.ref p) (upd H p (.lst (List.replicate k.toNat xs).flatten))
theorem len_rep {α : Type} (xs : List α) (k : Nat) : (List.replicate k xs).flatten.length = k * xs.length := by
  induction k with
  | zero => simp
  | succ k ih => rw [List.replicate_succ, List.flatten_cons, List.length_append, ih, Nat.succ_mul, Nat.add_comm]
/-! ### del xs[i] -/
end

/-! ### xs[a:b] = ys -/
section
variable {prog : Program} {w : World} {A : Around} {E : Value → Shared → Prop} {s : Shared}
set_option maxRecDepth 100000 in
end

section
variable {X : Cx}
end
end L2

namespace Att
open PySem PySem.W PySem.Calls PyProof.Rows

/-! ### the script -/
theorem ints_of_wellAll {P : Params} {h : Heap} : ∀ (ns : List Int) (vs : List Value), WellAll P h vs (ns.map WData.int) → IntsAre vs ns := by
  intro ns
  induction ns with
  | nil =>
    intro vs w
    rw [List.map_nil] at w
    cases w
    exact .nil
  | cons n ns ih =>
    intro vs w
    rw [List.map_cons] at w
    cases w with
    | cons a b =>
      cases a
      exact .cons _ _ (ih _ b)

theorem script_of {l : OpenLaw} {n : Nat} (hn : l.most = some n) {P : Params} {h : Heap} {args : List WData} {vals : List Value}
    (hpre : l.row.toRowW.claim.pre args = true) (hwl : WellAll P h vals args) :
    ∃ a vs ns, vals = [Value.ref a] ∧ args = [WData.list (ns.map WData.int)] ∧ h.get? a = some { cls := .type "list", data := .seq vs.toArray } ∧ IntsAre vs ns ∧ ns.length ≤ n := by
  have hsh : WShape.hasAll [] args [.list .int] = true := (pre_splitW hpre).1
  have hc : l.pre.holds [] { args := args } = true := (pre_splitW hpre).2
  obtain ⟨d, r, rfl, h1, h2⟩ := hasAllW_cons hsh
  obtain rfl := hasAllW_nil h2
  obtain ⟨xs, rfl, h3⟩ := hasW_list h1
  obtain ⟨ns, rfl⟩ := items_int h3
  have hlen : ns.length ≤ n := by
    unfold OpenLaw.pre at hc
    have h4 : (WTm.not (.lt (.lit (.int (n : Int))) (.len (.arg 0)))).holds [] { args := [.list (ns.map .int)] } = true := by
      have h4 := (holds_andW hc).1
      rw [hn] at h4
      exact h4
    have h5 := condW_of h4 (w_not (w_lt w_lit (w_len_list (w_arg rfl))))
    rw [List.length_map] at h5
    refine Nat.le_of_not_lt fun q => ?_
    have q' : (n : Int) < ((ns.length : Nat) : Int) := by omega
    first
      | (rw [decide_eq_true q'] at h5; exact absurd h5 (by decide))
      | (simp at h5; omega)
  cases hwl with
  | cons w1 w2 =>
    cases w2
    cases w1 with
    | list ho hall => exact ⟨_, _, ns, rfl, rfl, ho, ints_of_wellAll ns _ hall, hlen⟩

theorem post_true (l : OpenLaw) (args : List WData) : l.row.toRowW.claim.post args (.bool true) args = true :=
  postW_of (r := l.row.toRowW) (X := (true == true))
    (show WShape.has [] (.bool true) .bool = true by first | rfl | decide | simp [WShape.has, WShape.arms, WShape.armsAll])
    (show (WTm.eq .res (.lit (.bool true))).value [] { args := args, res := some (.bool true), after := args } = some (.bool (true == true)) from w_eq_bool (w_res rfl) w_lit) rfl

/-! ### the attachment: holds_open's last premise (the goal 'hc' behind k_head) from a wpAny of the law's body -/
/-- the same from a codeAny of the CALL (for a layer whose function contracts speak of calls) -/
theorem attach_call {l : OpenLaw} {n : Nat} {q : Program} {loose : List Str} {XP : (Str → Option Value) → Heap → Prop} {YP : World → Heap → Prop} {d : DefRec}
    (hn : l.most = some n) (hdf : d.params.defaults = [])
    (call : ∀ (w : World) (s₀ s₁ : Shared) (mg mb : Str → Option Value) (fa : Addr) (o : Obj) (pm cd doc : Value) (a : Addr) (vs : List Value) (ns : List Int),
      Ground q loose [] XP w s₀ mg mb s₁.heap → YP w s₁.heap →
      s₁.heap.get? fa = some o → o.data = .func (docDef d.name d.params d.body d.scope pm cd doc) → s₁.heap.CodeRec cd d.name → mg d.name = some (.ref fa) →
      s₁.heap.get? a = some { cls := .type "list", data := .seq vs.toArray } → IntsAre vs ns → ns.length ≤ n → s₁.gens = #[] →
      codeAny (model l.prog w) callerA (.call (.ref fa) ⟨[.ref a], []⟩) (fun r s' => r = .ok (.ret (.bool true)) ∧ OldK s₁.heap s'.heap ∧ s'.os = s₁.os ∧ AllBare s'.gens) s₁) :
    WalkO q loose XP YP l.row.toRowW d [] (fun f vs => PySem.call f vs) := by
  intro w s₀ s₁ mg mb G Y fa o pm cd doc dV kV ho hd hcd hD hmg hg args vals as hpre hlay hrd hwl hlo
  obtain rfl : dV = .none := Dflts.none hD hdf
  obtain rfl : kV = .none := Dflts.noKw hD
  obtain ⟨a, vs, ns, rfl, rfl, hobj, hints, hlen⟩ := script_of hn hpre hwl
  refine enter_call (codeAny_mono (call w s₀ s₁ mg mb fa o pm cd doc a vs ns G Y ho (fd_plain hd) hcd hmg hobj hints hlen hg) fun r s' hq => ?_)
  obtain ⟨rfl, h2, h3, h4⟩ := hq
  exact ⟨.inl ⟨.bool true, .bool true, [], rfl, fun _ => rfl, .bool true, post_true l _, fun _ => ⟨List.Pairwise.nil, fun _ hm => (nomatch hm)⟩⟩, h2, h3, h4⟩

/-! ### rules over ANY heap (no ledger) from facts about the written part K: the library's own take a ledger (News) for what they write -/
section
variable {prog : Program} {w : World} {A : Around} {E : Value → Shared → Prop} {s : Shared} {K : Frag}

/-! the whole heap as the ledger: makes every rule that writes through a ledger a rule over any heap -/
def noObjs (h : Heap) : Heap := { h with objs := #[] }
def ledger (h : Heap) (L d : Addr) : List (Addr × Obj) := (List.range h.objs.size).filterMap fun a => if a = L ∨ a = d then none else (h.get? a).map fun o => (a, o)
end
end Att

namespace L2
open PySem PySem.Spec PyProof.Rows

theorem vals_ints : ∀ {vs : List Value} {ns : List Int}, IntsAre vs ns → Vals (ns.map V.int) vs
  | _, _, .nil => .nil
  | _, _, .cons n t h => .cons ⟨t, rfl⟩ (vals_ints h)

/-- nothing is tracked but the script, known to the object (or it is an object of the module) -/
def Only (H : Hp) : Prop := ∀ b, H b = none ∨ ∃ o xs, H b = some (.frz o (.lst xs))

/-- THE HEAD: the law's promise, at the heap behind the top. F, the promise of the law's def, may use that base is part of the heap (so K.In base, base.Ns mainGlobals mg stand in Mod) -/
theorem law_call {P : Program} {w : World} {K : PySem.W.Frag} {mg mb : Str → Option Value} {CX : CXT} {k : Nat} {fa a : Addr} {fd : FuncData} {x : Str} {sp : Sp} {s₁ : Shared} {vs : List Value} {ns : List Int}
    (KX : K.In s₁.heap) (hns : s₁.heap.Ns mainGlobals mg) (hb : s₁.heap.Ns builtinsNs mb) (hbb : ∀ x : Str, x ≠ "__name__" → mb x = bootBuiltins x) (hlim : s₁.heap.NoLimit) (hg : s₁.gens = #[])
    (ha : s₁.heap.get? a = some { cls := .type "list", data := .seq vs.toArray }) (hi : IntsAre vs ns) (hl : ns.length ≤ sizeLine) (hr : Room k callerA)
    (F : ∀ base : Heap, K.In base → base.Ns mainGlobals mg → FnOk P w K mg base CX k fa fd [x] sp) (hbind : ∀ (s : Shared) (u : Value), BindsTo s fd ⟨[u], []⟩ [(x, u)])
    (hsp : ∀ H : Hp, Only H → SqL K H a (ns.map V.int) → sp [.ref a] H (fun v _ => v = .bl true) fun _ _ _ => False)
    (hCX : ∀ H e s', CX [] H s₁ (fun _ _ _ => False) e s' → False) :
    codeAny (model P w) callerA (.call (.ref fa) ⟨[.ref a], []⟩) (fun r s' => r = .ok (.ret (.bool true)) ∧ OldK s₁.heap s'.heap ∧ s'.os = s₁.os ∧ AllBare s'.gens) s₁ := by
  have rv := vals_ints hi
  have lenV := hi.length
  -- from an abstract heap in which nothing but the script may be tracked
  have core : ∀ H : Hp, Only H → SqL K H a (ns.map V.int) → HOk P w H s₁.heap → (∀ b, H b ≠ none → b = a) → (H a ≠ none → K.lookup a = none) →
      codeAny (model P w) callerA (.call (.ref fa) ⟨[.ref a], []⟩) (fun r s' => r = .ok (.ret (.bool true)) ∧ OldK s₁.heap s'.heap ∧ s'.os = s₁.os ∧ AllBare s'.gens) s₁ := by
    intro H hO hS hok hA hK
    have base_of : ∀ {b : Addr} {o : Obj}, s₁.heap.get? b = some o → H b = none → (hidT s₁.heap H).get? b = some o := fun e n => hidT_get e n
    have noA : ∀ {b : Addr} {o : Obj} {es : Array DictEntry} {ep : Nat}, s₁.heap.get? b = some o → o.data = .dict es ep → H b = none := fun {b o es ep} e d => by
      cases q : H b with
      | none => rfl
      | some u =>
        have e' : b = a := hA b (by rw [q]; simp)
        subst e'
        rw [ha] at e; cases e
        have d' : Data.seq vs.toArray _ = Data.dict es ep := d
        cases d'
    have nsK : ∀ {b : Addr} {m : Str → Option Value}, s₁.heap.Ns b m → (hidT s₁.heap H).Ns b m := fun {b m} ⟨o, es, ep, e, d, r⟩ => ⟨o, es, ep, base_of e (noA e d), d, r⟩
    have hKb : K.In (hidT s₁.heap H) := fun b o e => base_of (KX b o e) (by
      cases q : H b with
      | none => rfl
      | some u =>
        have e' : b = a := hA b (by rw [q]; simp)
        subst e'
        rw [hK (by rw [q]; simp)] at e; cases e)
    have hM : Mod K mg (hidT s₁.heap H) := ⟨hKb, nsK hns, ⟨mb, nsK hb, hbb⟩, let ⟨mc, h1, h2⟩ := hlim; ⟨mc, nsK h1, h2⟩⟩
    have e0 : Env0 P w K mg (hidT s₁.heap H) callerA [] s₁ H := ⟨rfl, hM, fun b o e => of_hidT e, Nat.le_of_eq (hidT_size _ _), trivial, fun b hb => absurd (show b ∈ ([] : List Addr) from hb) (by simp), hok, .of_eq hg⟩
    refine codeAny_mono ((F _ hKb (nsK hns)).run callerA [] s₁ H ⟨[.ref a], []⟩ [.ref a] [.ref a] _ _ hr e0 (hbind s₁ (.ref a)) (.cons rfl .nil) (hsp H hO hS)) fun r s' h => ?_
    cases r with
    | error e => exact (hCX H e s' h).elim
    | ok fl =>
      cases fl with
      | next => exact False.elim h
      | brk => exact False.elim h
      | cont => exact False.elim h
      | ret u =>
        obtain ⟨v, H', os, bare, un, hok', r', q⟩ := h
        have q' : v = .bl true := q
        subst q'
        obtain rfl : u = Value.bool true := r'
        refine ⟨rfl, OldK.of_keep fun b o e => ?_, os, bare⟩
        cases q : H b with
        | none => exact un.keep b o e q (by intro z; exact absurd (show b ∈ ([] : List Addr) from z) (by simp)) (by simp)
        | some u =>
          rcases hO b with z | ⟨ob, xs, z⟩
          · rw [q] at z; cases z
          · have z2 := un.frzs b ob _ z
            obtain ⟨e1, _⟩ := hok b _ z
            obtain ⟨e2, _⟩ := hok' b _ z2
            rw [e] at e1; cases e1
            exact e2
  cases hk : K.lookup a with
  | some o =>
    -- the script is one of the module's own objects
    have e := KX a o hk
    rw [ha] at e
    cases e
    refine core (fun _ => none) (fun _ => .inl rfl) (.inr ⟨_, vs.toArray, _, hk, rfl, rfl, rfl, by rw [List.size_toArray, lenV]; exact hl, by simpa using rv⟩) (fun b u z => by have z' : (none : Option HO) = some u := z; cases z') (fun b z => absurd rfl z) fun z => absurd rfl z
  | none =>
    refine core (fun b => if b = a then some (.frz { cls := .type "list", data := .seq vs.toArray } (.lst (ns.map V.int))) else none) (fun b => ?_) (.inl (.inr ⟨{ cls := .type "list", data := .seq vs.toArray }, if_pos rfl⟩)) (fun b u z => ?_) (fun b z => ?_) fun _ => hk
    · by_cases hb : b = a
      · exact .inr ⟨_, _, if_pos hb⟩
      · exact .inl (if_neg hb)
    · by_cases hb : b = a
      · have z' := (if_pos hb).symm.trans z
        cases z'
        subst hb
        exact ⟨ha, by rw [List.length_map]; exact hl, vs, _, rv, ha⟩
      · have z' := (if_neg hb).symm.trans z
        cases z'
    · by_cases hb : b = a
      · exact hb
      · exact absurd (if_neg hb) z
end L2

namespace L2
open PySem PySem.Spec PyProof.Rows

abbrev KOf {K : PySem.W.Frag} {h : Heap} (_ : K.In h) : PySem.W.Frag := K

/-- the goal that k_head leaves (case hc), from the law's promise. F gives the function object fd (K's own) once, then the promise over every base -/
theorem walk_of {l : PySem.W.OpenLaw} {n k : Nat} {q : Program} {loose : List Str} {XP : (Str → Option Value) → Heap → Prop} {YP : World → Heap → Prop} {d : DefRec} {K : Params → PySem.W.Frag} {CX : World → CXT} {sp : World → Sp} {x : Str}
    (hn : l.most = some n) (hn2 : n ≤ sizeLine) (hdf : d.params.defaults = []) (hr : Room k callerA)
    (hY : ∀ (w : World) (h : Heap), YP w h → (K w.params).In h)
    (F : ∀ (w : World) (mg : Str → Option Value) (fa : Addr) (h : Heap), (K w.params).In h → h.Ns mainGlobals mg → mg d.name = some (.ref fa) →
      ∃ fd : FuncData, (∀ (s : Shared) (u : Value), BindsTo s fd ⟨[u], []⟩ [(x, u)]) ∧
        ∀ base : Heap, (K w.params).In base → base.Ns mainGlobals mg → FnOk l.prog w (K w.params) mg base (CX w) k fa fd [x] (sp w))
    (hsp : ∀ (w : World) (H : Hp) (a : Addr) (ns : List Int), ns.length ≤ n → Only H → SqL (K w.params) H a (ns.map V.int) → sp w [.ref a] H (fun v _ => v = .bl true) fun _ _ _ => False)
    (hCX : ∀ (w : World) (H : Hp) (s : Shared) (e : Value) (s' : Shared), CX w [] H s (fun _ _ _ => False) e s' → False) :
    PySem.W.WalkO q loose XP YP l.row.toRowW d [] (fun f vs => PySem.call f vs) := by
  refine Att.attach_call hn hdf fun w s₀ s₁ mg mb fa o pm cd doc a vs ns G Y ho hd hcd hmg hobj hints hlen hg => ?_
  have KX := hY w _ Y
  obtain ⟨fd, hb, hF⟩ := F w mg fa _ KX G.T.g hmg
  exact law_call KX G.T.g G.T.b G.T.builtins G.T.nolimit hg hobj hints (Nat.le_trans hlen hn2) hr hF hb (fun H hO hS => hsp w H a ns hlen hO hS) fun H e s' => hCX w H s₁ e s'
end L2


/-! SHORT WORDS over the layer: a def of the text, its body, what a loop and a test want. -/
namespace L2
open PySem PySem.Spec PyProof.Rows

/-! ### the text by places -/
/-- the j-th statement of a class's body -/
def inClass (s : Stmt) (j : Nat) : Stmt := match s with
  | .ClassDef _ _ _ body _ _ _ _ _ _ _ => body.getD j (.Pass ⟨0, 0, 0, 0⟩)
  | _ => .Pass ⟨0, 0, 0, 0⟩
def defArgs (s : Stmt) : Arguments := match s with
  | .FunctionDef _ a _ _ _ _ _ _ _ _ => a
  | _ => { posonlyargs := [], args := [], vararg := none, kwonlyargs := [], kw_defaults := [], kwarg := none, defaults := [] }
def defBody (s : Stmt) : List Stmt := match s with
  | .FunctionDef _ _ b _ _ _ _ _ _ _ => b
  | _ => []
def defScope (s : Stmt) : Scope := match s with
  | .FunctionDef _ _ _ _ _ _ sc _ _ _ => sc
  | _ => { kind := .function, names := [], isGenerator := false, isCoroutine := false }

/-! ### no exception leaves a def -/
abbrev CX0 : CXT := fun _ _ _ _ _ _ => False
abbrev E0 : XK := fun _ _ _ => False
theorem pass0 {X : Cx} : Passes CX0 X E0 := fun _ _ _ _ _ _ _ h => h.elim

/-! ### a def (or method) of the text as it stands behind the top -/
structure Fun (K : PySem.W.Frag) (x qual : Str) (st : Stmt) (f : Addr) (fd : FuncData) : Prop where
  ex : ∃ (oc : Value) (od : Option Addr) (kV doc pm : Value) (an : Option Addr) (cdv ct : Value) (osl : Array (Option Value)),
    fd = PySem.W.fnOf x qual (defArgs st) (defBody st) (defScope st) .none kV doc pm an cdv ct ∧ K.lookup f = some ⟨oc, od, .func fd, osl⟩ ∧ PySem.W.codeIn K cdv qual = true
  kp : PySem.W.keepIn K (.ref f) = true
section
variable {P : Program} {w : World} {K : PySem.W.Frag} {mg : Str → Option Value} {base : Heap}
/-- how its arguments bind (no defaults): h is «fun _ _ _ _ _ _ us hl => match us, hl with | [_, _], _ => rfl», one _ a parameter -/
theorem Fun.binds {x qual : Str} {st : Stmt} {f : Addr} {fd : FuncData} {ps : List Str} (F : Fun K x qual st f fd)
    (h : ∀ (kV doc pm : Value) (an : Option Addr) (cdv ct : Value) (us : List Value), us.length = ps.length → bindArgs (PySem.W.fnOf x qual (defArgs st) (defBody st) (defScope st) .none kV doc pm an cdv ct) ⟨us, []⟩ = pure (ps.zip us)) : Binds K fd ps [] := by
  obtain ⟨oc, od, kV, doc, pm, an, cdv, ct, osl, rfl, lk, hcd⟩ := F.ex
  exact .all (h kV doc pm an cdv ct)
theorem fun_mk {x qual : Str} {st : Stmt} {f : Addr} {oc : Value} {od an : Option Addr} {osl : Array (Option Value)} {kV doc pm cdv ct : Value} (l : K.lookup f = some ⟨oc, od, .func (PySem.W.fnOf x qual (defArgs st) (defBody st) (defScope st) .none kV doc pm an cdv ct), osl⟩)
    (c : PySem.W.codeIn K cdv qual = true) (k : PySem.W.keepIn K (.ref f) = true) : Fun K x qual st f (PySem.W.fnOf x qual (defArgs st) (defBody st) (defScope st) .none kV doc pm an cdv ct) := ⟨⟨oc, od, kV, doc, pm, an, cdv, ct, osl, rfl, l, c⟩, k⟩
end
/-! ### expressions in short: the name that stands in the i-th slot -/
section
variable {X : Cx}
theorem pv (i : Nat) {x : Str} {pos : Pos} (hN : X.N[i]? = some x := by rfl) (hv : Vis X.env.scope x := by first | exact Or.inl rfl | exact Or.inr (Or.inl rfl) | exact Or.inr (Or.inr rfl)) (hd : (x == ("__debug__" : Str)) = false := by decide)
    (hcd : (x == ("__classdict__" : Str)) = false := by decide) : PE X (.Name x pos) (tVar i) := pe_var hN hv hd hcd
end

/-! ### tests -/
theorem iteF {A B : Prop} (h : B) : if false = true then A else B := by
  rw [if_neg Bool.false_ne_true]
  exact h
theorem iteT {A B : Prop} (h : A) : if true = true then A else B := by
  rw [if_pos rfl]
  exact h
/-! ### heaps -/
/-- all that was tracked is as it was -/
def Same (H H' : Hp) : Prop := ∀ b o, H b = some o → H' b = some o
theorem Same.refl (H : Hp) : Same H H := fun _ _ h => h
theorem Same.trans {H H1 H2 : Hp} (a : Same H H1) (b : Same H1 H2) : Same H H2 := fun c o h => b c o (a c o h)
theorem Same.free {H H' : Hp} (e : Same H H') {l : Addr} (h : H' l = Option.none) : H l = Option.none := by
  cases q : H l with
  | none => rfl
  | some o =>
    rw [e l o q] at h
    cases h
theorem Same.seq {K : PySem.W.Frag} {H H' : Hp} {a : Addr} {xs : List V} (e : Same H H') (h : SqL K H a xs) : SqL K H' a xs := by
  rcases h with (h | ⟨o, h⟩) | h
  · exact .inl (.inl (e _ _ h))
  · exact .inl (.inr ⟨o, e _ _ h⟩)
  · exact .inr h

end L2

namespace L2
open PySem Builtin Builtin.Str
/-! ### texts by their codes -/
abbrev tx (cs : List Nat) : Str := ⟨cs.toArray⟩
theorem tx_inj {a b : List Nat} : tx a = tx b ↔ a = b := by
  constructor
  · intro h
    have h2 : a.toArray = b.toArray := congrArg Str.cps h
    simpa using h2
  · rintro rfl; rfl
theorem tx_cps (cs : List Nat) : (tx cs).cps.toList = cs := by simp [tx]
theorem tx_len (cs : List Nat) : (tx cs).length = cs.length := by simp [tx, Str.length]
theorem tx_app (a b : List Nat) : tx a ++ tx b = tx (a ++ b) := by
  show Str.mk (a.toArray ++ b.toArray) = Str.mk (a ++ b).toArray
  simp
def sIx' (n d : Nat) : Option Int → Nat
  | none => d
  | some v => if v < 0 then (v + (n : Int)).toNat else min v.toNat n
def cutL {α : Type} (xs : List α) (lo hi : Option Int) : List α := (xs.drop (sIx' xs.length 0 lo)).take (sIx' xs.length xs.length hi - sIx' xs.length 0 lo)
theorem idx_eq (lo hi : Option Int) (n : Nat) : strSliceIndices lo hi 1 n = (List.range (sIx' n n hi - sIx' n 0 lo)).map fun k => sIx' n 0 lo + k := by
  have clip : ∀ v : Int, max 0 (min (if v < 0 then v + (n : Int) else v) (n : Int)) = (((if v < 0 then (v + (n : Int)).toNat else min v.toNat n) : Nat) : Int) := by
    intro v
    by_cases h : v < 0
    · rw [if_pos h, if_pos h]; omega
    · rw [if_neg h, if_neg h]; omega
  have key : ∀ (a b : Nat), sliceRange (a : Int) (b : Int) 1 = (List.range (b - a)).map fun k => a + k := by
    intro a b
    unfold sliceRange
    simp only [show (1 : Int) > 0 by decide, if_true]
    have e : (if (a : Int) < (b : Int) then ((b : Int) - (a : Int) + 1 - 1) / 1 else 0).toNat = b - a := by
      split
      · rw [Int.ediv_one]; omega
      · omega
    rw [e]
    refine List.map_congr_left fun k _ => ?_
    omega
  unfold strSliceIndices
  simp only [show (1 : Int) > 0 by decide, if_true]
  cases lo with
  | none =>
    cases hi with
    | none => exact key 0 n
    | some v =>
      have := key 0 (sIx' n n (some v))
      refine Eq.trans ?_ this
      show sliceRange 0 (max 0 (min (if v < 0 then v + (n : Int) else v) (n : Int))) 1 = _
      rw [clip v]
      rfl
  | some u =>
    cases hi with
    | none =>
      have := key (sIx' n 0 (some u)) n
      refine Eq.trans ?_ this
      show sliceRange (max 0 (min (if u < 0 then u + (n : Int) else u) (n : Int))) n 1 = _
      rw [clip u]
      rfl
    | some v =>
      have := key (sIx' n 0 (some u)) (sIx' n n (some v))
      refine Eq.trans ?_ this
      show sliceRange (max 0 (min (if u < 0 then u + (n : Int) else u) (n : Int))) (max 0 (min (if v < 0 then v + (n : Int) else v) (n : Int))) 1 = _
      rw [clip u, clip v]
      rfl
theorem pick_cut {α : Type} (xs : List α) (l : Nat) : ∀ k, l + k ≤ xs.length → ((List.range k).map fun j => l + j).filterMap (fun j => xs[j]?) = (xs.drop l).take k
  | 0, _ => by simp
  | k + 1, h => by
    rw [List.range_succ, List.map_append, List.filterMap_append, pick_cut xs l k (by omega)]
    have hx : xs[l + k]? = some (xs[l + k]'(by omega)) := List.getElem?_eq_getElem (by omega)
    rw [List.take_add_one, List.getElem?_drop, hx]
    simp [hx]
theorem sIx_bound (n : Nat) (o : Option Int) : sIx' n n o ≤ n := by
  cases o with
  | none => exact Nat.le_refl _
  | some v =>
    show (if v < 0 then (v + (n : Int)).toNat else min v.toNat n) ≤ n
    split <;> omega
theorem slice_tx (cs : List Nat) (lo hi : Option Int) : Txt.slice (tx cs) lo hi = tx (cutL cs lo hi) := by
  have hn : (tx cs).length = cs.length := tx_len cs
  have hb := sIx_bound cs.length hi
  have hp : ((strSliceIndices lo hi 1 cs.length).filterMap fun j => cs[j]?) = cutL cs lo hi := by
    rw [idx_eq]
    unfold cutL
    by_cases h : sIx' cs.length 0 lo ≤ sIx' cs.length cs.length hi
    · exact pick_cut cs _ _ (by omega)
    · have e : sIx' cs.length cs.length hi - sIx' cs.length 0 lo = 0 := by omega
      rw [e]
      simp
  unfold Txt.slice
  rw [hn]
  by_cases hc : ((1 : Int) == 1 && (strSliceIndices lo hi 1 cs.length).length == cs.length) = true
  · rw [if_pos hc]
    have hl : (strSliceIndices lo hi 1 cs.length).length = cs.length := by simpa using hc
    rw [idx_eq, List.length_map, List.length_range] at hl
    have e0 : sIx' cs.length 0 lo = 0 ∨ cs.length = 0 := by omega
    rw [tx_inj]
    unfold cutL
    rw [hl]
    rcases e0 with e0 | e0
    · rw [e0]; simp
    · have : cs = [] := List.eq_nil_of_length_eq_zero e0
      subst this
      simp
  · rw [if_neg hc]
    have : ((strSliceIndices lo hi 1 cs.length).filterMap fun j => (tx cs).cps[j]?) = cutL cs lo hi := by
      rw [← hp]
      simp [tx]
    rw [this]
theorem cut_from {α : Type} (xs : List α) (k : Nat) : cutL xs (some (k : Int)) none = xs.drop k := by
  unfold cutL sIx'
  simp only [show ¬ ((k : Int) < 0) by omega, if_false, Int.toNat_natCast]
  by_cases h : k ≤ xs.length
  · rw [Nat.min_eq_left h, List.take_of_length_le (by simp)]
  · rw [Nat.min_eq_right (by omega), List.drop_eq_nil_of_le (Nat.le_refl _), List.drop_eq_nil_of_le (by omega)]
    simp
theorem cut_to {α : Type} (xs : List α) (k : Nat) : cutL xs none (some (k : Int)) = xs.take k := by
  unfold cutL sIx'
  simp only [show ¬ ((k : Int) < 0) by omega, if_false, Int.toNat_natCast, List.drop_zero, Nat.sub_zero]
  by_cases h : k ≤ xs.length
  · rw [Nat.min_eq_left h]
  · rw [Nat.min_eq_right (by omega), List.take_of_length_le (Nat.le_refl _), List.take_of_length_le (by omega)]
end L2

namespace L2
open PySem Builtin Builtin.Str
/-- a number's figures -/
def figs (n : Nat) : List Nat := (Nat.toDigits 10 n).map Char.toNat
def figB (c : Nat) : Bool := decide (48 ≤ c) && decide (c ≤ 57)
def valL (cs : List Nat) : Nat := cs.foldl (fun acc c => acc * 10 + (c - 48)) 0

theorem at_one (cs : List Nat) (c i : Nat) : StrLaws.At (tx cs) (tx [c]) (tx cs).length i ↔ cs[i]? = some c := by
  have := StrLaws.subAt_one (tx cs) c i
  rw [tx_cps] at this
  exact this
/-! ### split -/
def splitL (c : Nat) : List Nat → List (List Nat)
  | [] => [[]]
  | x :: xs => if x = c then [] :: splitL c xs else match splitL c xs with
    | [] => [[x]]
    | p :: ps => (x :: p) :: ps
/-! ### partition, find, rfind, count -/
/-- the first place, the last place of a sign -/
def findL (c : Nat) (cs : List Nat) : Int := match cs.findIdx? (· == c) with
  | some i => (i : Int)
  | none => -1
def rfindL (c : Nat) : List Nat → Int
  | [] => -1
  | x :: xs => if 0 ≤ rfindL c xs then rfindL c xs + 1 else if x = c then 0 else -1
theorem find_tx (cs : List Nat) (c : Nat) : Txt.find (tx cs) (tx [c]) = findL c cs := by
  unfold findL
  rcases PyProof.Rows.find_whole (tx cs) (tx [c]) with ⟨e, h⟩ | ⟨i, e, h, hk⟩
  · rw [e]
    have hn : cs.findIdx? (· == c) = none := by
      rw [List.findIdx?_eq_none_iff]
      intro x hx
      simp only [beq_eq_false_iff_ne]
      rintro rfl
      obtain ⟨j, hj⟩ := List.getElem?_of_mem hx
      exact h j ((at_one cs x j).mpr hj)
    rw [hn]
  · rw [e]
    have hi := (at_one cs c i).mp h
    have hs : cs.findIdx? (· == c) = some i := by
      rw [List.findIdx?_eq_some_iff_getElem]
      have hl : i < cs.length := (List.getElem?_eq_some_iff.mp hi).1
      refine ⟨hl, by simpa using (List.getElem?_eq_some_iff.mp hi).2, fun j hj => ?_⟩
      have hjl : j < cs.length := by omega
      have := hk j hj
      rw [at_one, List.getElem?_eq_getElem hjl] at this
      simpa using this
    rw [hs]
/-! ### join -/
def joinL (sep : List Nat) : List (List Nat) → List Nat
  | [] => []
  | [x] => x
  | x :: y :: r => x ++ sep ++ joinL sep (y :: r)
theorem join_tx (sep : List Nat) : ∀ l : List (List Nat), Str.join (tx sep) (l.map tx) = tx (joinL sep l)
  | [] => rfl
  | [x] => rfl
  | x :: y :: r => by
    show tx x ++ tx sep ++ Str.join (tx sep) ((y :: r).map tx) = _
    rw [join_tx sep (y :: r), tx_app, tx_app]
    rfl
theorem joinL_nil : ∀ l : List (List Nat), joinL [] l = l.flatten
  | [] => rfl
  | [x] => by simp [joinL]
  | x :: y :: r => by
    show x ++ [] ++ joinL [] (y :: r) = _
    rw [joinL_nil (y :: r)]
    simp
end L2


namespace L2
open PySem PySem.Spec PyProof.Rows

/-! ### list comprehensions -/
section
variable {prog : Program} {w : World} {A : Around} {R : Result → Shared → Prop} {s : Shared}
theorem compLoop_any {elt target iter : Expr} {ifs : List Expr} {scope : Scope} {pos : Pos} {it acc : Value} {env : Env} (I : Nat → Shared → Prop)
    (turn : ∀ n s, I n s → wpAny (model prog w) A (pyNext it) (fun r s₁ => match r with
      | none => R (.ok .next) s₁
      | some v => wpAny (model prog w) A (letOwnedTupleGo target it v) (fun _ s₀ => wpAny (model prog w) A (assign target env v) (fun _ s₂ =>
          wpAny (model prog w) A (forIn ifs true fun c r => if r = true then do let ok ← isTrue c env (eval c env); pure (ForInStep.yield ok) else pure (ForInStep.yield r)) (fun ok s₃ =>
            if ok = true then wpAny (model prog w) A (eval elt env) (fun x s₄ =>
              wpAny (model prog w) A (call (.builtin "list.append") [acc, x]) (fun _ s₅ => ∃ m, m < n ∧ I m s₅) (notedBy (model prog w) A env fun e s' => R (.error e) s') s₄) (notedBy (model prog w) A env fun e s' => R (.error e) s') s₃
            else ∃ m, m < n ∧ I m s₃) (notedBy (model prog w) A env fun e s' => R (.error e) s') s₂) (notedBy (model prog w) A env fun e s' => R (.error e) s') s₀) (notedBy (model prog w) A env fun e s' => R (.error e) s') s₁) (notedBy (model prog w) A env fun e s' => R (.error e) s') s)
    (n : Nat) (h : I n s) :
    codeAny (model prog w) A (.compLoop (.ListComp elt [⟨target, iter, ifs, 0⟩] scope pos) 0 it acc env) R s := by
  refine codeAny_loop rfl I (fun n s hI => ?_) n h
  show wpAny _ A ((compTurn (.ListComp elt [⟨target, iter, ifs, 0⟩] scope pos) 0 it acc env).onRaise (fun x => do noteFrame x env; theTreesLotGoes x)) _ _ s
  refine wpAny_noted ?_
  rw [compTurn_list]
  refine wpAny_bind (wpAny_standAt (wpAny_bind (wpAny_mono (turn n s hI) (fun r s₁ h₁ => ?_) fun _ _ h' => h')))
  cases r with
  | none => exact wpAny_pure h₁
  | some v =>
    refine wpAny_bind (wpAny_mono h₁ (fun _ s₀ h₀ => ?_) fun _ _ h' => h')
    refine wpAny_bind (wpAny_mono h₀ (fun _ s₂ h₂ => wpAny_bind (wpAny_mono h₂ (fun ok s₃ h₃ => ?_) fun _ _ h' => h')) fun _ _ h' => h')
    cases ok with
    | false => exact wpAny_pure ⟨rfl, h₃⟩
    | true =>
      exact wpAny_bind (wpAny_bind (wpAny_mono h₃ (fun x s₄ h₄ => wpAny_bind (wpAny_mono h₄ (fun _ s₅ h₅ => wpAny_pure (wpAny_pure ⟨rfl, h₅⟩)) fun _ _ h' => h')) fun _ _ h' => h'))
end

/-- the cells that a block takes along -/
def closL (cells : List (Str × Addr)) : List (Str × NameKind) → List (Str × Addr) → List (Str × Addr)
  | [], acc => acc
  | (n, k) :: r, acc => closL cells r (if (k == .free) = true then (n, (cells.lookup n).getD 0) :: acc else acc)
theorem closureFor_go {env : Env} : ∀ (names : List (Str × NameKind)) (acc : List (Str × Addr)), (∀ x ∈ names, x.2 = .free → ∃ c, env.cells.lookup x.1 = some c) →
    (forIn names acc fun (x : Str × NameKind) (r : List (Str × Addr)) => match x with
      | (name, kind) => if (kind == .free) = true then (do let c ← cellOf env name; pure (ForInStep.yield ((name, c) :: r))) else pure (ForInStep.yield r)) = (pure (closL env.cells names acc) : Sem _)
  | [], acc, _ => rfl
  | (n, k) :: r, acc, h => by
    rw [List.forIn_cons]
    show ((if (k == .free) = true then (do let c ← cellOf env n; pure (ForInStep.yield ((n, c) :: acc))) else pure (ForInStep.yield acc)) >>= _) = _
    by_cases hk : (k == .free) = true
    · obtain ⟨c, hc⟩ := h (n, k) List.mem_cons_self (by simpa using hk)
      have e : cellOf env n = pure c := by
        unfold cellOf
        rw [hc]
      rw [if_pos hk, e]
      show (forIn r ((n, c) :: acc) _ : Sem _) = _
      rw [closureFor_go r _ fun x hx => h x (List.mem_cons_of_mem _ hx)]
      conv => rhs; unfold closL
      rw [if_pos hk, hc]
      rfl
    · rw [if_neg hk]
      show (forIn r acc _ : Sem _) = _
      rw [closureFor_go r _ fun x hx => h x (List.mem_cons_of_mem _ hx)]
      conv => rhs; unfold closL
      rw [if_neg hk]
theorem closureFor_eq {scope : Scope} {env : Env} (h : ∀ x ∈ scope.names, x.2 = .free → ∃ c, env.cells.lookup x.1 = some c) : closureFor scope env = pure (closL env.cells scope.names []) := by
  have e := closureFor_go (env := env) scope.names [] h
  unfold closureFor
  show ((forIn scope.names ([] : List (Str × Addr)) _ : Sem _) >>= fun cs => pure cs) = _
  have e2 : (forIn scope.names ([] : List (Str × Addr)) fun (x : Str × NameKind) (r : List (Str × Addr)) => match x with
      | (name, kind) => if (kind == .free) = true then (do let c ← cellOf env name; pure (ForInStep.yield ((name, c) :: r))) else pure (ForInStep.yield r)) = (pure (closL env.cells scope.names []) : Sem _) := e
  rw [e2]
  rfl
theorem closL_sub {cells : List (Str × Addr)} {x : Str} {c : Addr} : ∀ (names : List (Str × NameKind)) (acc : List (Str × Addr)), (∀ y ∈ names, y.2 = .free → ∃ c, cells.lookup y.1 = some c) →
    (∀ c, acc.lookup x = some c → cells.lookup x = some c) → (closL cells names acc).lookup x = some c → cells.lookup x = some c
  | [], acc, _, ha, h => ha c h
  | (n, k) :: r, acc, hf, ha, h => by
    unfold closL at h
    refine closL_sub r _ (fun y hy => hf y (List.mem_cons_of_mem _ hy)) (fun c' h' => ?_) h
    by_cases hk : (k == .free) = true
    · rw [if_pos hk] at h'
      obtain ⟨c0, hc0⟩ := hf (n, k) List.mem_cons_self (by simpa using hk)
      rw [List.lookup_cons] at h'
      cases hx : x == n with
      | true =>
        rw [hx] at h'
        have e : x = n := eq_of_beq hx
        subst e
        have h'' : (cells.lookup x).getD 0 = c' := Option.some.inj h'
        have hc0' : cells.lookup x = some c0 := hc0
        rw [hc0'] at h'' ⊢
        exact congrArg some h''
      | false =>
        rw [hx] at h'
        exact ha c' h'
    · rw [if_neg hk] at h'
      exact ha c' h'
theorem closL_has {cells : List (Str × Addr)} {x : Str} : ∀ (names : List (Str × NameKind)) (acc : List (Str × Addr)), ((x, NameKind.free) ∈ names ∨ ∃ c, acc.lookup x = some c) → ∃ c, (closL cells names acc).lookup x = some c
  | [], acc, h => by
    rcases h with h | h
    · cases h
    · exact h
  | (n, k) :: r, acc, h => by
    unfold closL
    refine closL_has r _ ?_
    rcases h with h | ⟨c, h⟩
    · rcases List.mem_cons.mp h with e | e
      · cases e
        refine .inr ⟨(cells.lookup x).getD 0, ?_⟩
        rw [if_pos (by rfl), List.lookup_cons]
        simp
      · exact .inl e
    · refine .inr ?_
      by_cases hk : (k == .free) = true
      · rw [if_pos hk, List.lookup_cons]
        cases hx : x == n with
        | true => exact ⟨_, rfl⟩
        | false => exact ⟨c, h⟩
      · rw [if_neg hk]
        exact ⟨c, h⟩

/-- a comprehension's names: its own (tn), those of the def that it reads (cn, at the places js) -/
structure CompSc (X : Cx) (scope : Scope) (tn cn : List Str) (js : List Nat) : Prop where
  kind : scope.kind = .function
  nocell : ∀ y ∈ scope.names, y.2 ≠ .cell
  names : ∀ y ∈ scope.names, y.2 = .local → scope.names.lookup y.1 = some .local
  free : ∀ y ∈ scope.names, y.2 = .free → X.env.kindOf y.1 = some .cell ∨ X.env.kindOf y.1 = some .free
  cap : ∀ (k : Nat) (x : Str), cn[k]? = some x → ∃ j, js[k]? = some j ∧ X.N[j]? = some x ∧ (X.env.kindOf x = some .cell ∨ X.env.kindOf x = some .free) ∧ scope.names.lookup x = some .free
  len : cn.length = js.length
def compScB (onames : List (Str × NameKind)) (oN : List Str) (names : List (Str × NameKind)) (cn : List Str) (js : List Nat) : Bool :=
  names.all (fun y => !(y.2 == .cell)) && names.all (fun y => !(y.2 == .local) || (names.lookup y.1 == some .local)) &&
  names.all (fun y => !(y.2 == .free) || (onames.lookup y.1 == some .cell || onames.lookup y.1 == some .free)) &&
  ((cn.zip js).all fun p => oN[p.2]? == some p.1 && (onames.lookup p.1 == some .cell || onames.lookup p.1 == some .free) && names.lookup p.1 == some .free) && (cn.length == js.length)
theorem CompSc.mk' {X : Cx} {scope : Scope} {tn cn : List Str} {js : List Nat} {osc : Scope} {oN : List Str} (hk : scope.kind = .function) (ho : X.env.scope = osc) (hN : X.N = oN) (h : compScB osc.names oN scope.names cn js = true) : CompSc X scope tn cn js := by
  unfold compScB at h
  simp only [Bool.and_eq_true] at h
  obtain ⟨⟨⟨⟨h1, h2⟩, h3⟩, h4⟩, h5⟩ := h
  rw [List.all_eq_true] at h1 h2 h3 h4
  have hlen : cn.length = js.length := by simpa using h5
  refine ⟨hk, fun y hy => ?_, fun y hy e => ?_, fun y hy e => ?_, fun k x e => ?_, hlen⟩
  · have := h1 y hy
    simpa using this
  · have := h2 y hy
    simpa [e] using this
  · have := h3 y hy
    unfold Env.kindOf
    rw [ho]
    simpa [e] using this
  · have hkl : k < cn.length := (List.getElem?_eq_some_iff.mp e).1
    have hkj : k < js.length := by omega
    refine ⟨js[k], by simp [hkj], ?_⟩
    have hz : (x, js[k]) ∈ cn.zip js := by
      have e2 : (cn.zip js)[k]? = some (x, js[k]) := by
        rw [List.getElem?_zip_eq_some]
        exact ⟨e, by simp [hkj]⟩
      exact List.mem_of_getElem? e2
    have := h4 _ hz
    unfold Env.kindOf
    rw [ho, hN]
    simp only [Bool.and_eq_true, Bool.or_eq_true, beq_iff_eq] at this
    exact ⟨this.1.1, this.1.2, this.2⟩

def pick (σ : St) (js : List Nat) : St := js.map fun j => (σ[j]?).getD none
/-- a block's values at a turn's start -/
def blk (n : Nat) (σ : St) (js : List Nat) : St := List.replicate n none ++ pick σ js
def compCx (X : Cx) (scope : Scope) (N' : List Str) (C : Addr) (s₂ : Shared) (H₂ : Hp) (fp : List Addr) (xe : Value → Shared → Prop) : Cx :=
  { X with N := N', s₀ := s₂, H₀ := H₂, env := compEnvC scope (closL X.env.cells scope.names []) C X.env, outer := X.stack, ex := fp, fn := fun _ => false, pn := [], xe := xe }

section
variable {X : Cx} {pins : List (Addr × Obj)} {σ : St} {H₂ : Hp} {s₂ : Shared} {scope : Scope} {tn cn : List Str} {js : List Nat}
theorem CompSc.clos (S : CompSc X scope tn cn js) (ok : X.Ok) : ∀ y ∈ scope.names, y.2 = .free → ∃ c, X.env.cells.lookup y.1 = some c := fun y hy e => ok.has y.1 (S.free y hy e)
theorem relabel_lookup {env : Env} : ∀ {names : List (Str × NameKind)} {x : Str} {k : NameKind}, (names.map fun (n, k) => if (k == NameKind.free && env.scope.kind == .function && env.kindOf n == some .cell) then (n, NameKind.cell) else (n, k)).lookup x = some k →
    (k = .cell ∨ k = .free) → (∀ y ∈ names, y.2 ≠ .cell) → (x, NameKind.free) ∈ names
  | [], _, _, h, _, _ => by simp at h
  | (n, k0) :: r, x, k, h, hk, hc => by
    have ih := @relabel_lookup env r x k
    have h : List.lookup x ((if (k0 == NameKind.free && env.scope.kind == .function && env.kindOf n == some .cell) = true then (n, NameKind.cell) else (n, k0)) :: _) = _ := h
    by_cases hb : (k0 == NameKind.free && env.scope.kind == .function && env.kindOf n == some .cell) = true
    · rw [if_pos hb, List.lookup_cons] at h
      have e0 : k0 = .free := by
        simp only [Bool.and_eq_true] at hb
        simpa using hb.1.1
      cases hx : x == n with
      | true =>
        have e : x = n := eq_of_beq hx
        subst e; subst e0
        exact List.mem_cons_self
      | false =>
        rw [hx] at h
        exact List.mem_cons_of_mem _ (ih h hk fun y hy => hc y (List.mem_cons_of_mem _ hy))
    · rw [if_neg hb, List.lookup_cons] at h
      cases hx : x == n with
      | true =>
        rw [hx] at h
        have e : x = n := eq_of_beq hx
        have e0 : k0 = k := Option.some.inj h
        subst e; subst e0
        rcases hk with hk | hk
        · exact absurd hk (hc (x, k0) List.mem_cons_self)
        · subst hk
          exact List.mem_cons_self
      | false =>
        rw [hx] at h
        exact List.mem_cons_of_mem _ (ih h hk fun y hy => hc y (List.mem_cons_of_mem _ hy))
theorem relabel_free {env : Env} : ∀ {names : List (Str × NameKind)} {x : Str}, names.lookup x = some .free →
    (names.map fun (n, k) => if (k == NameKind.free && env.scope.kind == .function && env.kindOf n == some .cell) then (n, NameKind.cell) else (n, k)).lookup x = some .cell ∨
    (names.map fun (n, k) => if (k == NameKind.free && env.scope.kind == .function && env.kindOf n == some .cell) then (n, NameKind.cell) else (n, k)).lookup x = some .free
  | [], _, h => by simp at h
  | (n, k0) :: r, x, h => by
    have ih := @relabel_free env r x
    show List.lookup x ((if (k0 == NameKind.free && env.scope.kind == .function && env.kindOf n == some .cell) = true then (n, NameKind.cell) else (n, k0)) :: _) = _ ∨
      List.lookup x ((if (k0 == NameKind.free && env.scope.kind == .function && env.kindOf n == some .cell) = true then (n, NameKind.cell) else (n, k0)) :: _) = _
    cases hx : x == n with
    | true =>
      simp only [List.lookup_cons, hx] at h
      cases h
      by_cases hb : (NameKind.free == NameKind.free && env.scope.kind == .function && env.kindOf n == some .cell) = true
      · rw [if_pos hb]; simp [List.lookup_cons, hx]
      · rw [if_neg hb]; simp [List.lookup_cons, hx]
    | false =>
      simp only [List.lookup_cons, hx] at h
      by_cases hb : (k0 == NameKind.free && env.scope.kind == .function && env.kindOf n == some .cell) = true
      · rw [if_pos hb]; simp only [List.lookup_cons, hx]; exact ih h
      · rw [if_neg hb]; simp only [List.lookup_cons, hx]; exact ih h
theorem comp_ok {C : Addr} {fp : List Addr} {xe : Value → Shared → Prop} (S : CompSc X scope tn cn js) (I : Inv X pins σ H₂ s₂) (hC : s₂.heap.objs.size ≤ C) (hf : ∀ b ∈ fp, FpOk X pins H₂ b) (ho : ∀ b ∈ fp, ∃ o, s₂.heap.get? b = some o ∧ ∀ v, o.data ≠ .cell v) :
    (compCx X scope (tn ++ cn) C s₂ H₂ fp xe).Ok where
  mod := I.ok.mod
  kind := S.kind
  glob := I.ok.glob
  blt := I.ok.blt
  above := hC
  inj := fun x y c h1 h2 => I.ok.inj x y c (closL_sub _ [] (S.clos I.ok) (fun _ z => by cases z) h1) (closL_sub _ [] (S.clos I.ok) (fun _ z => by cases z) h2)
  has := fun x hx => by
    refine closL_has _ _ (.inl ?_)
    rcases hx with hx | hx
    · exact relabel_lookup (env := X.env) (k := .cell) hx (Or.inl (Eq.refl NameKind.cell)) S.nocell
    · exact relabel_lookup (env := X.env) (k := .free) hx (Or.inr (Eq.refl NameKind.free)) S.nocell
  cab := fun x c h _ => by cases h
  hd := I.ok.hd
  frames := I.ok.frames
  stk := .inl rfl
  exf := fun b hb => by
    obtain ⟨o, e, _⟩ := ho b hb
    obtain ⟨_, _, _, _, f4, _⟩ := hf b hb
    exact ⟨Nat.ne_of_lt (Nat.lt_of_lt_of_le (Heap.lt_size e) hC), fun x c h => f4 x c (closL_sub _ [] (S.clos I.ok) (fun _ z => by cases z) h)⟩
  bs := I.bs
  bsz := Nat.le_trans I.ok.bsz I.sz
  noex := fun b o e hb => by
    obtain ⟨_, _, _, f3, _, _⟩ := hf b hb
    rcases f3 with z | z
    · exact I.ok.noex b o e z
    · exact absurd (Nat.lt_of_lt_of_le (Heap.lt_size (I.ok.bs b o e).1) z) (Nat.lt_irrefl _)
  exfs := fun b hb z => by
    obtain ⟨_, f1, f2, _, _, _⟩ := hf b hb
    exact (List.mem_cons.mp (I.stkSub b z)).elim f1 f2
  funs := I.stack
  frf := I.stkFree

/-- the names that a block reads, at whatever state of it -/
theorem comp_look {C : Addr} {fp : List Addr} {s : Shared} {H : Hp} {m : Str → Option Value} (S : CompSc X scope tn cn js) (I : Inv X pins σ H₂ s₂) (hf : ∀ b ∈ fp, FpOk X pins H₂ b)
    (u : Un (frs X.stack) fp H₂ H s₂.heap s.heap) :
    ∀ (i : Nat) (x : Str) (v : V), (tn ++ cn)[i]? = some x → (blk tn.length σ js)[i]? = some (some v) → ∃ z, RelV v z ∧ Look (compEnvC scope (closL X.env.cells scope.names []) C X.env) s.heap m x z := by
  intro i x v e1 e2
  unfold blk at e2
  by_cases hi : i < tn.length
  · rw [List.getElem?_append_left (by simpa using hi), List.getElem?_replicate, if_pos hi] at e2
    cases e2
  · have hi' : tn.length ≤ i := by omega
    rw [List.getElem?_append_right hi'] at e1
    rw [List.getElem?_append_right (by simpa using hi'), List.length_replicate] at e2
    obtain ⟨j, hj, hN, hk, hm⟩ := S.cap _ _ e1
    unfold pick at e2
    rw [List.getElem?_map, hj] at e2
    have e3 : (σ[j]?).getD none = some v := Option.some.inj e2
    have e4 : σ[j]? = some (some v) := by
      cases q : σ[j]? with
      | none => rw [q] at e3; cases e3
      | some z => rw [q] at e3; exact congrArg some e3
    obtain ⟨m0, _, hl⟩ := I.loc
    have hv : Vis X.env.scope x := by
      rcases hk with hk | hk
      · exact .inr (.inl hk)
      · exact .inr (.inr hk)
    obtain ⟨z, rz, l⟩ := hl j x v hN e4 hv
    refine ⟨z, rz, ?_⟩
    obtain ⟨c, hc, ob, ho, hd⟩ : ∃ c, X.env.cells.lookup x = some c ∧ s₂.heap.IsCell c (some z) := by
      rcases l with ⟨k, _⟩ | ⟨_, c, hc, q⟩
      · rcases hk with hk | hk
        · rw [hk] at k; cases k
        · rw [hk] at k; cases k
      · exact ⟨c, hc, q⟩
    obtain ⟨c', hc'⟩ := closL_has (cells := X.env.cells) (x := x) scope.names [] (.inl (PySem.mem_of_lookup hm))
    have ec : c' = c := by
      have := closL_sub _ [] (S.clos I.ok) (fun _ z => by cases z) hc'
      rw [hc] at this
      exact (Option.some.inj this).symm
    subst ec
    have nf : c' ∉ fp := fun hb => (hf c' hb).2.2.2.2.1 x c' hc rfl
    obtain ⟨sl, q⟩ := u.any ho (I.freeC x c' hc) nf
    exact .inr ⟨relabel_free hm, c', hc', ⟨_, q, hd⟩⟩

theorem blk_len (S : CompSc X scope tn cn js) : (blk tn.length σ js).length = (tn ++ cn).length := by
  unfold blk pick
  rw [List.length_append, List.length_append, List.length_replicate, List.length_map, S.len]
/-- a block's turn begins anew -/
theorem comp_again {C : Addr} {fp : List Addr} {xe : Value → Shared → Prop} {s : Shared} {H : Hp} {σ' : St} {pins' : List (Addr × Obj)} (S : CompSc X scope tn cn js) (I : Inv X pins σ H₂ s₂) (hf : ∀ b ∈ fp, FpOk X pins H₂ b)
    (I' : Inv (compCx X scope (tn ++ cn) C s₂ H₂ fp xe) pins' σ' H s) : Inv (compCx X scope (tn ++ cn) C s₂ H₂ fp xe) pins' (blk tn.length σ js) H s := by
  obtain ⟨m, hn, _⟩ := id I'.loc
  exact ⟨I'.ok, I'.os, I'.bare, I'.base, ⟨m, hn, fun i x v e1 e2 _ => comp_look S I hf I'.base i x v e1 e2⟩, I'.cell, I'.free, I'.freeC, I'.pin, I'.hok, blk_len S⟩
/-- a block begins -/
theorem comp_start {C D : Addr} {fp : List Addr} {xe : Value → Shared → Prop} {h : Heap} {tk : Nat} {ob : Obj} {m : Str → Option Value} (S : CompSc X scope tn cn js) (I : Inv X pins σ H₂ s₂) (hC : s₂.heap.objs.size ≤ C) (hD : s₂.heap.objs.size ≤ D) (hDC : D ≠ C)
    (hf : ∀ b ∈ fp, FpOk X pins H₂ b) (ho : ∀ b ∈ fp, ∃ o, s₂.heap.get? b = some o ∧ ∀ v, o.data ≠ .cell v) (k : ∀ b o, s₂.heap.get? b = some o → h.get? b = some o) (hn : h.Ns C m) (hob : h.get? D = some ob) (hcell : ∀ v, ob.data ≠ .cell v) :
    Inv (compCx X scope (tn ++ cn) C s₂ H₂ fp xe) [(D, ob)] (blk tn.length σ js) H₂ { s₂ with heap := h, toks := tk } := by
  have ok := comp_ok (xe := xe) S I hC hf ho
  have u : Un (frs X.stack) fp H₂ H₂ s₂.heap h := Un.kept k
  refine ⟨ok, rfl, I.bare, u, ⟨m, hn, fun i x v e1 e2 _ => comp_look (s := { s₂ with heap := h, toks := tk }) S I hf u i x v e1 e2⟩, fun x c e => ?_, I.hok.fresh hC, fun x c e => ?_, fun p hp => ?_, I.hok.kept k, blk_len S⟩
  · obtain ⟨v, o, q, d⟩ := I.cell x c (closL_sub _ [] (S.clos I.ok) (fun _ z => by cases z) e)
    exact ⟨v, o, k c o q, d⟩
  · exact I.freeC x c (closL_sub _ [] (S.clos I.ok) (fun _ z => by cases z) e)
  · have e : p = (D, ob) := by
      have : p ∈ ([] : List (Addr × Obj)) ++ [(D, ob)] := hp
      simpa using this
    subst e
    refine ⟨hob, I.hok.fresh hD, hDC, fun z => ?_, hcell⟩
    have z : D ∈ frs X.stack := z
    rcases List.mem_cons.mp (I.stkSub D z) with e | e
    · exact absurd (Nat.lt_of_lt_of_le I.lt (by rw [← e]; exact hD)) (Nat.lt_irrefl _)
    · exact I.nofs hD e
/-- behind a block: its list is the def's -/
theorem comp_end {C D : Addr} {fp : List Addr} {xe : Value → Shared → Prop} {s : Shared} {H : Hp} {σ' : St} {ys : List V} {its : List Value} {n : Nat} {h' : Heap} (S : CompSc X scope tn cn js) (I : Inv X pins σ H₂ s₂) (hC : s₂.heap.objs.size ≤ C) (hD : s₂.heap.objs.size ≤ D) (hDC : D ≠ C)
    (hf : ∀ b ∈ fp, FpOk X pins H₂ b) (I' : Inv (compCx X scope (tn ++ cn) C s₂ H₂ fp xe) [(D, { cls := .type "list", data := .seq its.toArray n })] σ' H s) (hv : Vals ys its) (hz : ys.length ≤ sizeLine) (hs : Heap.SameBut C s.heap h') :
    Inv X pins σ (upd H D (.lst ys)) { s with heap := h' } := by
  have pd := I'.pin (D, { cls := .type "list", data := .seq its.toArray n }) (List.mem_append_right _ List.mem_cons_self)
  have pd1 : s.heap.get? D = some { cls := .type "list", data := .seq its.toArray n } := pd.1
  have pd2 : H D = none := pd.2.1
  have hD' : h'.get? D = some { cls := .type "list", data := .seq its.toArray n } := (hs.2 D hDC).trans pd1
  have hCf : H C = none := I'.free
  have old : ∀ b o, s₂.heap.get? b = some o → b ≠ C ∧ b ≠ D := fun b o e => ⟨Nat.ne_of_lt (Nat.lt_of_lt_of_le (Heap.lt_size e) hC), Nat.ne_of_lt (Nat.lt_of_lt_of_le (Heap.lt_size e) hD)⟩
  have u := I'.base
  have u : Un (frs X.stack) fp H₂ H s₂.heap s.heap := u
  refine I.call' (s' := { s with heap := h' }) (ch := fp) (H' := upd H D (.lst ys)) I'.os ⟨fun b o e n hb hx => ?_, fun b o e n hb hx => ?_, fun b o e n hx => ?_, fun b o e hx => ?_, fun b xs e => ?_, fun b o xs e => ?_, fun b ps e => ?_⟩ (fun b o e => ?_) I'.bare (fun b hb => ?_)
  · exact (hs.2 b (old b o e).1).trans (u.keep b o e n hb hx)
  · obtain ⟨sl, q⟩ := u.slot b o e n hb hx
    exact ⟨sl, (hs.2 b (old b o e).1).trans q⟩
  · rw [upd_ne (old b o e).2]
    exact u.free b o e n hx
  · obtain ⟨o', q⟩ := u.there b o e hx
    exact ⟨o', (hs.2 b (old b o e).1).trans q⟩
  · have q := u.tups b xs e
    rw [upd_ne (ne_of_none q pd2)]
    exact q
  · have q := u.frzs b o xs e
    rw [upd_ne (ne_of_none q pd2)]
    exact q
  · obtain ⟨more, q⟩ := u.tbls b ps e
    exact ⟨more, by rw [upd_ne (ne_of_none q pd2)]; exact q⟩
  · by_cases hb : b = D
    · subst hb
      rw [upd_same] at e
      cases e
      exact ⟨hz, its, n, hv, hD'⟩
    · rw [upd_ne hb] at e
      refine (I'.hok b o e).stay (fun c v hc q => (hs.2 c ?_).trans q) (fun c q => by rw [upd_ne (ne_of_none q pd2)]; exact q) fun c xs q => by rw [upd_ne (ne_of_none q pd2)]; exact q
      rintro rfl
      rcases hc with rfl | hc
      · rw [hCf] at e; cases e
      · rw [hCf] at hc; cases hc
  · obtain ⟨f0, f1, f2, f3, f4, f5⟩ := hf b hb
    exact ⟨f3, f1, f4, f5⟩
end

def PTs (X : Cx) (ifs : List Expr) (t : TT) : Prop :=
  ∀ (pins : List (Addr × Obj)) (s : Shared) (σ : St) (H : Hp) (Q : Bool → Hp → Prop), Inv X pins σ H s → t σ H Q →
    wpAny (model X.prog X.w) X.A (forIn ifs true fun c r => if r = true then do let ok ← isTrue c X.env (eval c X.env); pure (ForInStep.yield ok) else pure (ForInStep.yield r)) (TP X pins σ Q) X.xe s
def tYes : TT := fun _ H Q => Q true H
theorem pts_nil {X : Cx} : PTs X [] tYes := fun _ _ _ H _ I h => wpAny_tests_nil ⟨H, I, h⟩
theorem pts_one {X : Cx} {c : Expr} {t : TT} (h : PT X c t) : PTs X [c] t := fun pins s σ H Q I q => wpAny_tests_one (h pins s σ H Q I q)

/-- [elt for tg in iter if tests]: W tells, by the turn, a measure, the items so far and the heap, what holds -/
def tComp (wi : TI) (g : TG) (tt : TT) (te : TE) (n : Nat) (js : List Nat) : TE := fun σ H Q => wi σ H fun J H1 =>
  ∃ W : Nat → Nat → List V → Hp → Prop, (∃ m, W 0 m [] H1) ∧ ∀ i m ys H, W i m ys H →
    (J.stop i H ∧ ∀ p, H p = none → Q (.ref p) (upd H p (.lst ys))) ∨
    (J.go i H ∧ ∀ x H', J.yld i H x H' → g x (blk n σ js) H' fun σ2 H2 => tt σ2 H2 fun b H3 =>
      if b = true then te σ2 H3 fun y H4 => ys.length < sizeLine ∧ ∃ m', m' < m ∧ W (i + 1) m' (ys ++ [y]) H4 else ∃ m', m' < m ∧ W (i + 1) m' ys H3)

section
variable {X : Cx} {tg iter elt : Expr} {ifs : List Expr} {scope : Scope} {pos : Pos} {wi : TI} {g : TG} {tt : TT} {te : TE} {tn cn : List Str} {js : List Nat}
/-- the context of a block from which no exception comes -/
abbrev compX (X : Cx) (scope : Scope) (N' : List Str) (C : Addr) (s₂ : Shared) (H₂ : Hp) (fp : List Addr) : Cx := compCx X scope N' C s₂ H₂ fp fun _ _ => False

theorem nofail {α : Type} {M : Model} {A : Around} {m : Sem α} {Q : α → Shared → Prop} {E : Value → Shared → Prop} {s : Shared} (h : wpAny M A m Q (fun _ _ => False) s) : wpAny M A m Q E s := wpAny_mono h (fun _ _ q => q) fun _ _ z => z.elim

theorem comp_block {pins : List (Addr × Obj)} {σ : St} {H₂ : Hp} {s₂ : Shared} {it : Addr} {fp : List Addr} {tnx : Nat → Heap → Prop} {J : It} {E : Value → Shared → Prop} {RR : Value → Addr → Result → Shared → Prop} {W : Nat → Nat → List V → Hp → Prop} {m0 : Nat}
    (hc : X.calm = true) (S : CompSc X scope tn cn js)
    (hg : ∀ C s₂ H₂ fp, PG (compX X scope (tn ++ cn) C s₂ H₂ fp) tg g) (ht : ∀ C s₂ H₂ fp, PTs (compX X scope (tn ++ cn) C s₂ H₂ fp) ifs tt) (he : ∀ C s₂ H₂ fp, PE (compX X scope (tn ++ cn) C s₂ H₂ fp) elt te)
    (I2 : Inv X pins σ H₂ s₂) (T : Turn X.prog X.w X.K tg J fp it tnx) (st2 : tnx 0 s₂.heap) (f2 : ∀ b ∈ fp, FpOk X pins H₂ b) (w0 : W 0 m0 [] H₂)
    (turn : ∀ i m ys H, W i m ys H → (J.stop i H ∧ ∀ C D s its n σ', s₂.heap.objs.size ≤ C → s₂.heap.objs.size ≤ D → D ≠ C → Vals ys its → ys.length ≤ sizeLine →
        Inv (compX X scope (tn ++ cn) C s₂ H₂ fp) [(D, { cls := .type "list", data := .seq its.toArray n })] σ' H s → RR (.ref D) C (.ok .next) s) ∨
      (J.go i H ∧ ∀ x H', J.yld i H x H' → g x (blk tn.length σ js) H' fun σ2 H2 => tt σ2 H2 fun b H3 =>
        if b = true then te σ2 H3 fun y H4 => ys.length < sizeLine ∧ ∃ m', m' < m ∧ W (i + 1) m' (ys ++ [y]) H4 else ∃ m', m' < m ∧ W (i + 1) m' ys H3)) :
    wpAny (model X.prog X.w) X.A (newList []) (fun acc s₃ => wpAny (model X.prog X.w) X.A (newFunctionEnv scope X.env.globals (closL X.env.cells scope.names []) [] X.env.qual none .none (some X.env)) (fun cenv s₄ =>
      codeAny (model X.prog X.w) X.A (.compStart (.ListComp elt [⟨tg, iter, ifs, 0⟩] scope pos) 0 (.ref it) acc { cenv with scope := relabel scope X.env }) (RR acc cenv.locals) s₄) E s₃) E s₂ := by
  refine wpAny_newObj_type (wpAny_newFunctionEnv S.nocell (by intro y hy; simp at hy) (fun h₁ hns₁ hsb₁ => ?_) S.kind)
  dsimp only at hns₁ hsb₁ ⊢
  generalize hH2 : s₂.heap.push { cls := .type "list", dict := none, data := .seq ([] : List Value).toArray } = HH at hns₁ hsb₁ ⊢
  have hCs : HH.objs.size = s₂.heap.objs.size + 1 := by rw [← hH2, Heap.size_push]
  have hDC : s₂.heap.objs.size ≠ HH.objs.size := by rw [hCs]; exact Nat.ne_of_lt (Nat.lt_succ_self _)
  have hC : s₂.heap.objs.size ≤ HH.objs.size := by rw [hCs]; exact Nat.le_succ _
  have hD : s₂.heap.objs.size ≤ s₂.heap.objs.size := Nat.le_refl _
  have old : ∀ b o, s₂.heap.get? b = some o → h₁.get? b = some o := fun b o e => hsb₁.extBut b o (by rw [hCs]; exact Nat.ne_of_lt (Nat.lt_succ_of_lt (Heap.lt_size e))) (Heap.get?_push_of_some _ (hH2 ▸ Heap.get?_push_of_some _ e))
  have hacc : h₁.get? s₂.heap.objs.size = some { cls := .type "list", dict := none, data := .seq ([] : List Value).toArray } := hsb₁.extBut _ _ hDC (Heap.get?_push_of_some _ (hH2 ▸ Heap.get?_push_size _ rfl))
  have hob := T.obj _ _ st2
  have I3 : Inv (compX X scope (tn ++ cn) HH.objs.size s₂ H₂ fp) [(s₂.heap.objs.size, { cls := .type "list", dict := none, data := .seq ([] : List Value).toArray })] (blk tn.length σ js) H₂ { s₂ with heap := h₁, toks := s₂.toks + ([] : List (Str × Value)).length } :=
    comp_start S I2 hC hD hDC f2 hob old hns₁ hacc (fun v z => by cases z)
  have st3 : tnx 0 h₁ := T.keep _ _ _ st2 fun b hb o e => old b o e
  generalize hX' : compX X scope (tn ++ cn) HH.objs.size s₂ H₂ fp = X' at I3
  generalize hs3 : ({ s₂ with heap := h₁, toks := s₂.toks + ([] : List (Str × Value)).length } : Shared) = s3 at I3 ⊢
  have st3' : tnx 0 s3.heap := by rw [← hs3]; exact st3
  -- what the block says of its iterator
  have stat : ∀ {pins' : List (Addr × Obj)} {H' : Hp}, (∀ b ∈ fp, H' b = none) → (∀ p ∈ pins', p.1 = s₂.heap.objs.size) → ∀ b ∈ fp, FpOk X' pins' H' b := fun {pins' H'} hn hp b hb => by
    subst hX'
    obtain ⟨o, e, _⟩ := hob b hb
    obtain ⟨f0, f1, f2', f3, f4, f5⟩ := f2 b hb
    refine ⟨hn b hb, Nat.ne_of_lt (Nat.lt_of_lt_of_le (Heap.lt_size e) hC), fun z => (List.mem_cons.mp (I2.stkSub b z)).elim f1 f2', .inl hb, fun x c h => f4 x c (closL_sub _ [] (S.clos I2.ok) (fun _ z => by cases z) h), fun p hpp => ?_⟩
    have : p ∈ pins' := by
      have q : p ∈ ([] : List (Addr × Obj)) ++ pins' := hpp
      simpa using q
    rw [hp p this]
    exact Nat.ne_of_gt (Heap.lt_size e)
  have loop : codeAny (model X.prog X.w) X.A (.compLoop (.ListComp elt [⟨tg, iter, ifs, 0⟩] scope pos) 0 (.ref it) (.ref s₂.heap.objs.size) X'.env) (RR (.ref s₂.heap.objs.size) HH.objs.size) s3 := by
    refine compLoop_any (fun k s' => ∃ i ys its n H', Inv X' [(s₂.heap.objs.size, { cls := .type "list", data := .seq its n })] (blk tn.length σ js) H' s' ∧ Vals ys its.toList ∧ ys.length ≤ sizeLine ∧ tnx i s'.heap ∧ (∀ b ∈ fp, H' b = none) ∧ W i k ys H') ?_ m0
      ⟨0, [], #[], 0, H₂, I3, .nil, Nat.zero_le _, st3', fun b hb => (f2 b hb).1, w0⟩
    rintro k s4 ⟨i, ys, its, n, H4, I4, hv4, hz4, st4, fr4, w4⟩
    have eP : X'.prog = X.prog := by rw [← hX']; rfl
    have eW : X'.w = X.w := by rw [← hX']; rfl
    have eK : X'.K = X.K := by rw [← hX']; rfl
    have eA : X'.A = X.A := by rw [← hX']; rfl
    have eC : X'.calm = true := by rw [← hX']; exact hc
    have eE : X'.xe = fun _ _ => False := by rw [← hX']; rfl
    rcases turn i k ys H4 w4 with ⟨stop, qn⟩ | ⟨go, step⟩
    · have z := T.done X' eP eW eK eC i _ s4 (blk tn.length σ js) H4 (fun _ _ => False) I4 (stat fr4 (fun p hp => by simp at hp; rw [hp])) st4 stop
      rw [eA] at z
      refine nofail (thn z fun r s5 ⟨hr, I5⟩ => ?_)
      subst hr
      subst hX'
      exact qn _ _ s5 its.toList n _ hC hD hDC hv4 hz4 (by simpa using I5)
    · have z := T.item X' eP eW eK eC i _ s4 (blk tn.length σ js) H4 (fun _ _ => False) I4 (stat fr4 (fun p hp => by simp at hp; rw [hp])) st4 go
      rw [eA] at z
      refine nofail (thn z fun r s5 ⟨u, hr, h5⟩ => ?_)
      subst hr
      refine nofail (thn h5 fun _ s6 ⟨x, H6, I6, r6, y6, st6, fr6⟩ => ?_)
      have I6' := I6.pinned (stat fr6 (fun p hp => by simp at hp; rw [hp])) (T.obj _ _ st6)
      have hg' : PG X' tg g := by rw [← hX']; exact hg _ _ _ _
      have ht' : PTs X' ifs tt := by rw [← hX']; exact ht _ _ _ _
      have he' : PE X' elt te := by rw [← hX']; exact he _ _ _ _
      have z7 := hg' _ s6 _ H6 x u _ I6' r6 (step x H6 y6)
      rw [eP, eW, eA, eE] at z7
      refine nofail (thn z7 fun _ s7 ⟨σ7, H7, I7, q7⟩ => ?_)
      have z8 := ht' _ s7 σ7 H7 _ I7 q7
      rw [eP, eW, eA, eE] at z8
      refine nofail (thn z8 fun ok s8 ⟨H8, I8, q8⟩ => ?_)
      have key : ∀ {σ9 : St} {H9 : Hp} {s9 : Shared} {its' : Array Value} {n' : Nat}, Inv X' ([(s₂.heap.objs.size, { cls := .type "list", data := .seq its' n' })] ++ pinsAt fp s6.heap) σ9 H9 s9 →
          Inv X' [(s₂.heap.objs.size, { cls := .type "list", data := .seq its' n' })] (blk tn.length σ js) H9 s9 ∧ tnx (i + 1) s9.heap ∧ ∀ b ∈ fp, H9 b = none := fun {σ9 H9 s9 its' n'} I9 => by
        refine ⟨?_, T.keep _ _ _ st6 fun b hb o e => (I9.pin (b, o) (List.mem_append_right _ (List.mem_append_right _ (mem_pinsAt hb e)))).1, fun b hb => ?_⟩
        · have I9' := I9.unpinned
          subst hX'
          exact comp_again S I2 f2 I9'
        · obtain ⟨o, e, d⟩ := T.obj _ _ st6 b hb
          exact (I9.pin (b, o) (List.mem_append_right _ (List.mem_append_right _ (mem_pinsAt hb e)))).2.1
      cases ok with
      | false =>
        rw [if_neg Bool.false_ne_true] at q8 ⊢
        obtain ⟨m', hm, w8⟩ := q8
        obtain ⟨I9, st9, fr9⟩ := key I8
        exact ⟨m', hm, i + 1, ys, its, n, H8, I9, hv4, hz4, st9, fr9, w8⟩
      | true =>
        rw [if_pos rfl] at q8 ⊢
        have z9 := he' _ s8 σ7 H8 _ I8 q8
        rw [eP, eW, eA, eE] at z9
        refine nofail (thn z9 fun v s9 ⟨y, H9, I9, r9, hl9, m', hm, w9⟩ => ?_)
        have pd := I9.pin (s₂.heap.objs.size, { cls := .type "list", data := .seq its n }) (List.mem_append_right _ (List.mem_append_left _ List.mem_cons_self))
        have hpl : s9.heap.PlainList s₂.heap.objs.size its := ⟨n, pd.1⟩
        have hlen : its.size = ys.length := by rw [hv4.length]; simp
        refine wpAny_list_append_plain (hsz := by omega) hpl fun h10 hl10 hs10 => ?_
        obtain ⟨n10, e10⟩ := hl10
        -- the list's pin goes, the list turns, its pin comes back
        have I10 : Inv X' (pinsAt fp s6.heap) σ7 H9 s9 := I9.pins_of fun p hp => I9.pin p (List.mem_append_right _ (List.mem_append_right _ hp))
        have nD : ∀ b ∈ fp, b ≠ s₂.heap.objs.size := fun b hb => by
          obtain ⟨o, e, _⟩ := hob b hb
          exact Nat.ne_of_lt (Heap.lt_size e)
        have I11 : Inv X' (pinsAt fp s6.heap) σ7 H9 { s9 with heap := h10 } := by
          refine I10.turned (t' := s9.toks) (it := s₂.heap.objs.size) (fun b o hb e => (hs10.2 b hb).trans e) pd.2.1 pd.2.2.1 ?_ ?_ ?_
          · subst hX'; exact .inr (Nat.le_refl _)
          · subst hX'
            intro x c h
            obtain ⟨v', o', q, _⟩ := I2.cell x c (closL_sub _ [] (S.clos I2.ok) (fun _ z => by cases z) h)
            exact Nat.ne_of_lt (Heap.lt_size q)
          · intro p hp
            have hp' : p ∈ pinsAt fp s6.heap := by
              subst hX'
              have q : p ∈ ([] : List (Addr × Obj)) ++ pinsAt fp s6.heap := hp
              simpa using q
            exact nD _ (of_pinsAt hp').1
        have I12 : Inv X' ([(s₂.heap.objs.size, { cls := .type "list", data := .seq (its.push v) n10 })] ++ pinsAt fp s6.heap) σ7 H9 { s9 with heap := h10 } := I11.pins_of fun p hp => by
          rcases List.mem_append.mp hp with q | q
          · have e : p = (s₂.heap.objs.size, { cls := .type "list", data := .seq (its.push v) n10 }) := by simpa using q
            subst e
            exact ⟨e10, pd.2.1, pd.2.2.1, pd.2.2.2.1, fun v z => by cases z⟩
          · exact I11.pin p (List.mem_append_right _ q)
        obtain ⟨J1, J2, J3⟩ := key I12
        refine ⟨m', hm, i + 1, ys ++ [y], its.push v, n10, H9, J1, ?_, ?_, J2, J3, w9⟩
        · have : (its.push v).toList = its.toList ++ [v] := by simp
          rw [this]
          exact hv4.append (.cons r9 .nil)
        · rw [List.length_append, List.length_singleton]
          omega
  have eEnv : ({ newEnv scope HH.objs.size X.env.globals (closL X.env.cells scope.names []) X.env.qual none .none (some X.env) builtinsNs with scope := relabel scope X.env } : Env) = X'.env := by rw [← hX']; rfl
  have loop2 := loop
  rw [← eEnv] at loop loop2
  exact codeAny_compStart_list loop (T.self X.A 0 s3 _ _ st3' loop2)

theorem pe_comp (hc : X.calm = true) (S : CompSc X scope tn cn js) (hi : PI X tg iter wi)
    (hg : ∀ C s₂ H₂ fp, PG (compX X scope (tn ++ cn) C s₂ H₂ fp) tg g) (ht : ∀ C s₂ H₂ fp, PTs (compX X scope (tn ++ cn) C s₂ H₂ fp) ifs tt) (he : ∀ C s₂ H₂ fp, PE (compX X scope (tn ++ cn) C s₂ H₂ fp) elt te)
    (hs : ∀ x, foldedSetIterable iter X.env x = pure x := by intro _; rfl) :
    PE X (.ListComp elt [⟨tg, iter, ifs, 0⟩] scope pos) (tComp wi g tt te tn.length js) := by
  intro pins s σ H Q I h
  rw [eval_ListComp]
  refine wpAny_comprehension_free (use := none) (cl := closL X.env.cells scope.names []) rfl hs (closureFor_eq (S.clos I.ok)) S.kind S.names (thn (hi pins s σ H _ I h) fun v s1 h1 => thn h1 fun itv s2 h2 => ?_)
  obtain ⟨it, fp, tnx, J, H2, e, I2, T, st2, f2, W, ⟨m0, w0⟩, turn⟩ := h2
  subst e
  refine comp_block (RR := fun acc C => compPost (model X.prog X.w) X.A X.xe none (EP X pins σ Q) acc C) (W := W) (m0 := m0) hc S hg ht he I2 T st2 f2 w0 fun i m ys H w => ?_
  rcases turn i m ys H w with ⟨stop, qn⟩ | r
  · refine .inl ⟨stop, fun C D s its n σ' hC hD hDC hv hz I' => ?_⟩
    obtain ⟨m', hn, _⟩ := id I'.loc
    refine ⟨m', hn, fun h' hs' => ?_⟩
    have pd := I'.pin (D, { cls := .type "list", data := .seq its.toArray n }) (List.mem_append_right _ List.mem_cons_self)
    exact ⟨.ref D, _, comp_end S I2 hC hD hDC f2 I' hv hz hs', rfl, qn D pd.2.1⟩
  · exact .inr r
end
end L2


namespace L2
open PySem PySem.Spec PyProof.Rows

abbrev S (cs : List Nat) : V := .str (tx cs)
theorem S_inj {a b : List Nat} : S a = S b ↔ a = b := by
  constructor
  · intro h
    exact tx_inj.mp (V.str.inj h)
  · rintro rfl; rfl
section
variable {X : Cx} {pos : Pos}

theorem pe_lit {x : Str} {j : Nat} (cs : List Nat) (h : x = tx cs) : PE X (.Constant (.str x) j pos) (tC (S cs)) := by
  subst h
  exact pe_str

/-! ### texts walked -/
def Its (cs : List Nat) : It := ⟨fun i _ => i < cs.length, fun i H v H' => H' = H ∧ ∃ c, cs[i]? = some c ∧ v = S [c], fun i _ => cs.length ≤ i⟩
theorem iter_ty (x : Str) : strIterType x = "str_ascii_iterator" ∨ strIterType x = "str_iterator" := by
  unfold strIterType
  split
  · exact .inl rfl
  · exact .inr rfl
theorem turn_str {P : Program} {w : World} {K : PySem.W.Frag} {tg : Expr} (it : Addr) (cs : List Nat) (t : Tok) : Turn P w K tg (Its cs) [it] it (fun i h => h.IsStrIter it (strIterType (tx cs)) (tx cs) t i) where
  mem := by simp
  obj := fun i h st b hb => by
    have e : b = it := by simpa using hb
    subst e
    obtain ⟨o, e, c, d⟩ := st
    exact ⟨o, e, fun v z => by rw [d] at z; cases z⟩
  keep := fun i h h' st k => by
    obtain ⟨o, e, r⟩ := st
    exact ⟨o, k it (by simp) o e, r⟩
  item := by
    intro X hP hw hK hc i pins s σ H E I hf st hg
    subst hP hw hK
    obtain ⟨f0, f1, f2, f3, f4, f5⟩ := hf it (by simp)
    have hg : i < cs.length := hg
    have hx : (tx cs).cps[i]? = some cs[i] := by simp [tx, hg]
    have fin : ∀ (h' : Heap), h'.IsStrIter it (strIterType (tx cs)) (tx cs) t (i + 1) → Heap.SameBut it s.heap h' →
        ∃ u, some (Value.str ⟨#[cs[i]]⟩ s.toks) = some u ∧ wpAny (model X.prog X.w) X.A (letOwnedTupleGo tg (.ref it) u) (fun _ s2 => ∃ x H', Inv X pins σ H' s2 ∧ RelV x u ∧ (Its cs).yld i H x H' ∧ s2.heap.IsStrIter it (strIterType (tx cs)) (tx cs) t (i + 1) ∧ ∀ b ∈ [it], H' b = none) E { s with heap := h', toks := s.toks + 1 } := fun h' st' sb => by
      have I1 : Inv X pins σ H { s with heap := h', toks := s.toks + 1 } := I.turned (fun b o hb e => (sb.2 b hb).trans e) f0 f1 f3 f4 f5
      obtain ⟨o, e, hc', d⟩ := id st'
      refine ⟨_, rfl, go_of (s := { s with heap := h', toks := s.toks + 1 }) e hc' d ?_ ⟨S [cs[i]], H, I1, ⟨s.toks, rfl⟩, ⟨rfl, cs[i], by simp [hg], rfl⟩, st', fun b hb => (hf b hb).1⟩⟩
      rcases iter_ty (tx cs) with z | z <;> rw [z] <;> decide
    rcases iter_ty (tx cs) with z | z
    · rw [z] at st
      refine wpAny_pyNext_ascii_item st hx fun h' st' sb => fin h' (by rw [z]; exact st') sb
    · rw [z] at st
      refine wpAny_pyNext_wide_item st hx fun h' st' sb => fin h' (by rw [z]; exact st') sb
  done := by
    intro X hP hw hK hc i pins s σ H E I hf st hg
    subst hP hw hK
    obtain ⟨f0, f1, f2, f3, f4, f5⟩ := hf it (by simp)
    have hg : cs.length ≤ i := hg
    have hx : (tx cs).cps[i]? = none := by simp [tx]; omega
    rcases iter_ty (tx cs) with z | z
    · rw [z] at st
      exact wpAny_pyNext_ascii_end (I.ok.hd hc) st hx fun h' eb => ⟨rfl, I.turned (t' := s.toks) (fun b o hb e => eb b o hb e) f0 f1 f3 f4 f5⟩
    · rw [z] at st
      exact wpAny_pyNext_wide_end (I.ok.hd hc) st hx fun h' eb => ⟨rfl, I.turned (t' := s.toks) (fun b o hb e => eb b o hb e) f0 f1 f3 f4 f5⟩
  self := fun _ i _ _ _ st h => by
    rcases iter_ty (tx cs) with z | z
    · rw [z] at st
      exact wpAny_pyIter_striter_ascii st h
    · rw [z] at st
      exact wpAny_pyIter_striter_wide st h

variable {tg : Expr}
def iStr (tl : TE) : TI := fun σ H R => tl σ H fun v H1 => ∃ cs, v = S cs ∧ R (Its cs) H1
/-- a list, a tuple or a text -/
def iAny (K : PySem.W.Frag) (tl : TE) : TI := fun σ H R => tl σ H fun x H1 => (∃ a xs, x = .ref a ∧ SqL K H1 a xs ∧ R (Itl K a) H1) ∨ (∃ a xs, x = .ref a ∧ SqT K H1 a xs ∧ R (Itt K a) H1) ∨ ∃ cs, x = S cs ∧ R (Its cs) H1
theorem pi_any {l : Expr} {tl : TE} (hl : PE X l tl) : PI X tg l (iAny X.K tl) := by
  intro pins s σ H R I h
  refine thn (hl pins s σ H _ I h) fun v s1 ⟨x, H1, I1, r1, q1⟩ => ?_
  rcases q1 with ⟨a, xs, e, hq, q⟩ | ⟨a, xs, e, hq, q⟩ | ⟨cs, e, q⟩
  · subst e
    cases r1
    obtain ⟨its, rv, p, hz⟩ := I1.list hq
    refine wpAny_pyIter_list p.isList ?_
    refine ⟨s1.heap.objs.size, [s1.heap.objs.size], _, _, H1, rfl, I1.kept (t' := s1.toks) fun b o e => Heap.get?_push_of_some _ e, turn_list a _, ⟨_, Heap.get?_push_size _ rfl, rfl, rfl⟩, fun b hb => ?_, q⟩
    have e : b = s1.heap.objs.size := by simpa using hb
    subst e
    exact I1.fpOk (Nat.le_refl _) (I1.hok.fresh (Nat.le_refl _))
  · have hpi := pi_tup (X := X) (tg := tg) (l := l) (tl := fun _ H Q => Q (.ref a) H)
    subst e
    cases r1
    obtain ⟨its, rv, p, hz⟩ := I1.tuple hq
    refine wpAny_pyIter_tuple (show s1.heap.IsTuple a its.toArray from p) ?_
    refine ⟨s1.heap.objs.size, [s1.heap.objs.size], _, _, H1, rfl, I1.kept (t' := s1.toks) fun b o e => Heap.get?_push_of_some _ e, turn_tuple a _, ⟨_, Heap.get?_push_size _ rfl, rfl, rfl⟩, fun b hb => ?_, q⟩
    have e : b = s1.heap.objs.size := by simpa using hb
    subst e
    exact I1.fpOk (Nat.le_refl _) (I1.hok.fresh (Nat.le_refl _))
  · subst e
    obtain ⟨t, rfl⟩ := r1
    refine wpAny_pyIter_strU ?_
    refine ⟨s1.heap.objs.size, [s1.heap.objs.size], _, _, H1, rfl, I1.kept (t' := s1.toks) fun b o e => Heap.get?_push_of_some _ e, turn_str _ cs t, ⟨_, Heap.get?_push_size _ rfl, rfl, rfl⟩, fun b hb => ?_, q⟩
    have e : b = s1.heap.objs.size := by simpa using hb
    subst e
    exact I1.fpOk (Nat.le_refl _) (I1.hok.fresh (Nat.le_refl _))

/-! ### operations on texts -/
def rAddS : R2 := fun x y H Q => ∃ a b, x = S a ∧ y = S b ∧ a.length + b.length ≤ sizeLine ∧ Q (S (a ++ b)) H
theorem op_addS : OpR X (binaryOp .Add) rAddS := by
  intro pins s σ H x y v u Q I rx ry h
  obtain ⟨a, b, rfl, rfl, hz, q⟩ := h
  refine op_add_str pins s σ H _ _ v u Q I rx ry ⟨tx a, tx b, rfl, rfl, by rw [tx_len, tx_len]; exact hz, ?_⟩
  rw [tx_app]
  exact q
def rAddX : R2 := fun x y H Q => rI0 (fun i j => .int (i + j)) x y H Q ∨ rAddS x y H Q ∨ rCat x y H Q
def rInS (neg : Bool) : R2 := fun x y H Q => ∃ c b, x = S [c] ∧ y = S b ∧ Q (.bl (neg != decide (c ∈ b))) H
theorem op_inS : OpR X (compareOp .In) (rInS false) := by
  intro pins s σ H x y v u Q I rx ry h
  obtain ⟨c, b, rfl, rfl, q⟩ := h
  refine op_in_str pins s σ H _ _ v u Q I rx ry ⟨tx [c], tx b, rfl, rfl, ?_⟩
  have e := StrLaws.found_one (tx b) c
  rw [tx_cps] at e
  rw [show tx [c] = (⟨#[c]⟩ : Str) from rfl, e]
  simpa using q
def rInX (K : PySem.W.Frag) (neg : Bool) : R2 := fun x y H Q => rInS neg x y H Q ∨ rIn K neg x y H Q
theorem op_inX : OpR X (compareOp .In) (rInX X.K false) := op_inS.or op_in_seq
/-- x is True, x is False -/
def rIxSt : R2 := fun x y H Q => ∃ a i c, x = S a ∧ y = .int i ∧ a.length ≤ sizeLine ∧ atI a i = some c ∧ Q (S [c]) H
theorem ix_S : IxR X rIxSt := by
  intro value slice pins s σ H x y v u Q I rx ry h hs
  obtain ⟨a, i, c, rfl, rfl, hz, he, q⟩ := h
  exact ix_str value slice pins s σ H _ _ v u Q I rx ry ⟨tx a, i, c, rfl, rfl, by rw [tx_len]; exact hz, by rw [tx_cps]; exact he, q⟩ hs
def rIxX (K : PySem.W.Frag) : R2 := fun x y H Q => rIxL K x y H Q ∨ rIxT K x y H Q ∨ rIxSt x y H Q
theorem ix_X : IxR X (rIxX X.K) := ix_list.or (ix_tup.or ix_S)
def rSlS : V → Option Int → Option Int → Hp → VK → Prop := fun x lo hi H Q => ∃ a, x = S a ∧ a.length ≤ sizeLine ∧ Q (S (cutL a lo hi)) H
theorem sl_S : SlR X rSlS := by
  intro pins s σ H x v vl vu lo hi sl Q I rx hs pl pu h
  obtain ⟨a, rfl, hz, q⟩ := h
  obtain ⟨t, rfl⟩ := rx
  refine ⟨"str", _, F.slot_str_getitem.lookup, typeIs_str _ _ _, ?_⟩
  have fin : ∀ t' k, EP X pins σ Q (.str (Txt.slice (tx a) lo hi) t') { s with toks := k } := fun t' k => ⟨S (cutL a lo hi), H, I.tok _, ⟨t', by rw [slice_tx]⟩, q⟩
  have hle : (Txt.slice (tx a) lo hi).length ≤ sizeLine := Nat.le_trans (Txt.slice_le _ _ _) (by rw [tx_len]; exact hz)
  cases pl with
  | none =>
    cases pu with
    | none => exact wpAny_getItem_str_slice (l := none) (u := none) (st := none) hs rfl (post_val_or_str ⟨hle, fin⟩)
    | int j uj => exact wpAny_getItem_str_slice (l := none) (u := some (j, uj)) (st := none) hs rfl (post_val_or_str ⟨hle, fin⟩)
  | int i ui =>
    cases pu with
    | none => exact wpAny_getItem_str_slice (l := some (i, ui)) (u := none) (st := none) hs rfl (post_val_or_str ⟨hle, fin⟩)
    | int j uj => exact wpAny_getItem_str_slice (l := some (i, ui)) (u := some (j, uj)) (st := none) hs rfl (post_val_or_str ⟨hle, fin⟩)
def rSlX (K : PySem.W.Frag) : V → Option Int → Option Int → Hp → VK → Prop := fun x lo hi H Q => rSlS x lo hi H Q ∨ rSlL K x lo hi H Q ∨ rSlT K x lo hi H Q
theorem sl_X : SlR X (rSlX X.K) := sl_S.or (sl_list.or sl_tup)

/-! ### calls -/
def rLenX (K : PySem.W.Frag) : List V → Hp → VK → Prop := fun xs H Q => (∃ a, xs = [S a] ∧ a.length ≤ sizeLine ∧ Q (.int a.length) H) ∨ ∃ p ys, xs = [.ref p] ∧ (SqL K H p ys ∨ SqT K H p ys) ∧ Q (.int ys.length) H
theorem call_lenX : CallR X (.builtin "len") (rLenX X.K) := by
  intro pins s σ H xs us Q I rs q
  rcases q with ⟨a, rfl, hz, q⟩ | q
  · exact call_len_str pins s σ H _ us Q I rs ⟨tx a, rfl, by rw [tx_len]; exact hz, by rw [tx_len]; exact q⟩
  · exact call_len_seq pins s σ H xs us Q I rs q
def rStrI : List V → Hp → VK → Prop := fun xs H Q => ∃ n : Nat, xs = [.int n] ∧ n < 10 ^ 10 ∧ Q (S (figs n)) H
def rIntX : List V → Hp → VK → Prop := fun xs H Q => (∃ a, xs = [S a] ∧ a.length ≤ 640 ∧ a ≠ [] ∧ a.all figB = true ∧ Q (.int (valL a : Nat)) H) ∨ (∃ k, xs = [.bl k] ∧ Q (.int (if k then 1 else 0)) H)
def rAllX (K : PySem.W.Frag) (f : List Bool → Bool) : List V → Hp → VK → Prop := fun xs H Q => ∃ p bs, xs = [.ref p] ∧ SqL K H p (bs.map V.bl) ∧ Q (.bl (f bs)) H
/-! ### methods of texts -/
end
/-! ### the forms one uses -/
/-! ### the same with the written part named -/
section
variable {X : Cx} {K : PySem.W.Frag} {pos : Pos} {tg : Expr}
theorem k_inX (hK : X.K = K := by rfl) : OpR X (compareOp .In) (rInX K false) := hK ▸ op_inX
theorem k_ix (hK : X.K = K := by rfl) : IxR X (rIxX K) := hK ▸ ix_X
theorem k_sl (hK : X.K = K := by rfl) : SlR X (rSlX K) := hK ▸ sl_X
theorem k_len (hK : X.K = K := by rfl) : CallR X (.builtin "len") (rLenX K) := hK ▸ call_lenX
def rIsi (K : PySem.W.Frag) : List V → Hp → VK → Prop := fun xs H Q => ∃ x c cv t b, xs = [x, c] ∧ (∀ v, RelV c v → v = cv) ∧ TyOf K H x t ∧ PySem.W.kitOne K t cv = some b ∧ Q (.bl b) H
theorem k_pi {l : Expr} {tl : TE} (hl : PE X l tl) (hK : X.K = K := by rfl) : PI X tg l (iAny K tl) := hK ▸ pi_any hl
theorem k_fld {e : Expr} {ta : TE} {f : Str} (he : PE X e ta) (hb : attributeBase e f X.env (eval e X.env) = eval e X.env := by rfl) (hK : X.K = K := by rfl) : PE X (.Attribute e f pos) (tFld K ta f) := hK ▸ pe_fld he hb
def rTupOf (K : PySem.W.Frag) : List V → Hp → VK → Prop := fun xs H Q => ∃ p ys, xs = [.ref p] ∧ ((SqL K H p ys ∧ ∀ l, H l = none → Q (.ref l) (upd H l (.tup ys))) ∨ (SqT K H p ys ∧ Q (.ref p) H))
def rLstOf (K : PySem.W.Frag) : List V → Hp → VK → Prop := fun xs H Q => ∃ p ys, xs = [.ref p] ∧ (SqL K H p ys ∨ SqT K H p ys) ∧ ∀ l, H l = none → Q (.ref l) (upd H l (.lst ys))
theorem k_tuple (hK : X.K = K := by rfl) : CallR X (.type "tuple") (rTupOf K) := hK ▸ call_tuple_of
theorem k_bm {o e : Expr} {es : List Expr} {to : TE} {t : TA} {name : Str} {apos cpos : Pos} {T id : String} {r : V → List V → Hp → VK → Prop} (pa : PlainAttrs T) (slot : Slot T name id) (hty : typeOf (.builtin id) = pure (.type "method_descriptor")) (hm : MtR X id r) (ho : PE X o to) (ha : PA X (e :: es) t)
    (hbase : attributeBase o name X.env (eval o X.env) = eval o X.env := by rfl)
    (hfew : ((backTo cpos (starEach (e :: es) X.env)).all (fun x => !x.1) && (backToKw cpos (keywordEach [] X.env)).all (fun x => x.1.isSome)
      && decide ((e :: es).length + ([] : List Keyword).length + (if ([] : List Keyword).isEmpty then 0 else 1) < 30)) = true := by rfl)
    (hline : (apos.endLine == cpos.line) = true := by rfl) (hs : starEach (e :: es) X.env = (false, eval e X.env) :: starEach es X.env := by rfl) (hplain : (backTo cpos (starEach es X.env)).any (·.1) = false := by rfl) (hK : X.K = K := by rfl) :
    PE X (.Call (.Attribute o name apos) (e :: es) [] cpos) (tBM K T r to t) := hK ▸ pe_bm pa slot hty hm ho ha hbase hfew hline hs hplain
theorem k_tup {es : List Expr} {k : Nat} {t : TGs} {n : Nat} (h : PGs X es t) (hc : X.calm = true := by rfl)
    (hn : (assignEach es X.env).length = n := by rfl) (hst : (assignEach es X.env).findIdx? (·.1) = none := by rfl) (hK : X.K = K := by rfl) : PG X (.Tuple es k pos) (gTup K n t) := hK ▸ pg_tup hc h hn hst
end
end L2

namespace L2
open PySem PySem.Spec PyProof.Rows
/-! ### reading, statement by statement -/
theorem same_new {H : Hp} {q : Addr} {o : HO} (h : H q = none) : Same H (upd H q o) := fun b u e => by
  rw [upd_ne (ne_of_none e h)]
  exact e
/-! ### comprehensions whose parts change nothing -/
structure Walk (J : It) (xs : List V) (H : Hp) : Prop where
  go : ∀ i, i < xs.length → J.go i H
  yld : ∀ (i : Nat) v H', i < xs.length → J.yld i H v H' → H' = H ∧ xs[i]? = some v
  stop : ∀ i, xs.length ≤ i → J.stop i H
end L2

namespace L2
open PySem PySem.Spec PyProof.Rows
/-! ### range(lo, hi, step) -/
def Itrc (lo c : Int) (n : Nat) : It := ⟨fun i _ => i < n, fun i H x H' => H' = H ∧ x = .int (lo + i * c), fun i _ => n ≤ i⟩
theorem turn_rangec {P : Program} {w : World} {K : PySem.W.Frag} {tg : Expr} (it : Addr) (lo c : Int) (n : Nat) : Turn P w K tg (Itrc lo c n) [it] it (fun i h => IsRangeIter h it (lo + (i : Nat) * c) ((n : Int) - (i : Nat)) c) where
  mem := by simp
  obj := fun i h st b hb => by
    have e : b = it := by simpa using hb
    subst e
    exact ⟨_, st, fun v z => by
      have z' : Data.fields _ = Data.cell v := z
      cases z'⟩
  keep := fun i h h' st k => k it (by simp) _ st
  item := by
    intro X hP hw hK hc i pins s σ H E I hf st hg
    subst hP hw hK
    obtain ⟨f0, f1, f2, f3, f4, f5⟩ := hf it (by simp)
    have W := Walks.range (prog := X.prog) (w := X.w) (I.ok.hd hc) it lo c n
    refine W.item i s _ _ hg st fun v h' tk hv st' kk => ?_
    obtain ⟨t, rfl⟩ := hv
    have I1 : Inv X pins σ H { s with heap := h', toks := tk } := I.turned (fun b o hb e => kk b o (by simpa using hb) e) f0 f1 f3 f4 f5
    exact ⟨_, rfl, go_of (s := { s with heap := h', toks := tk }) (n := "range_iterator") st' rfl rfl (by decide) ⟨.int (lo + i * c), H, I1, ⟨t, rfl⟩, ⟨rfl, rfl⟩, st', fun b hb => (hf b hb).1⟩⟩
  done := by
    intro X hP hw hK hc i pins s σ H E I hf st hg
    subst hP hw hK
    obtain ⟨f0, f1, f2, f3, f4, f5⟩ := hf it (by simp)
    exact wpAny_pyNext_range_end (I.ok.hd hc) st (by have : n ≤ i := hg; omega) fun h' eb => ⟨rfl, I.turned (t' := s.toks) (fun b o hb e => eb b o hb e) f0 f1 f3 f4 f5⟩
  self := fun _ _ _ _ _ st h => wpAny_pyIter_rangeiter st h
section
variable {X : Cx} {tg : Expr}
def iRng3 (ta : TA) : TI := fun σ H R => ta σ H fun vs H1 => ∃ i j c : Int, vs = [.int i, .int j, .int c] ∧ (c ≠ 0 ∧ c.natAbs < 1073741824 ∧ Builtin.Range.small i j c = true) ∧ R (Itrc i c (Builtin.Range.rangeSize i j c).toNat) H1
theorem size_nonneg (i j c : Int) (hc : c ≠ 0) : 0 ≤ Builtin.Range.rangeSize i j c := by
  unfold Builtin.Range.rangeSize
  split
  · split
    · have := Int.ediv_nonneg (a := j - i - 1) (b := c) (by omega) (by omega)
      omega
    · omega
  · split
    · have := Int.ediv_nonneg (a := i - j - 1) (b := -c) (by omega) (by omega)
      omega
    · omega
theorem pi_range3 {a b c : Expr} {ta : TA} {p pos : Pos} (hg : Gl X "range") (hm : X.mg "range" = none) (ha : PA X [a, b, c] ta) (hs : starEach [a, b, c] X.env = [(false, eval a X.env), (false, eval b X.env), (false, eval c X.env)] := by rfl) (hs2 : starEach [b, c] X.env = [(false, eval b X.env), (false, eval c X.env)] := by rfl) :
    PI X tg (.Call (.Name "range" p) [a, b, c] [] pos) (iRng3 ta) := by
  intro pins s σ H R I h
  refine Call_ (ld_blt I hg hm boot_range (PyProof.Rows.callWith_type1 (thn (ha pos pins s σ H _ I h) fun us s1 ⟨vs, H1, I1, r1, q1⟩ => ?_) (by rw [hs, hs2]) (by rw [hs2]; rfl)))
  obtain ⟨i, j, c, e, ⟨q1, q2, q3⟩, q⟩ := q1
  subst e
  cases r1 with
  | cons r rr =>
    cases rr with
    | cons r' rr =>
      cases rr with
      | cons r'' rr =>
        cases rr
        obtain ⟨t, rfl⟩ := r
        obtain ⟨t', rfl⟩ := r'
        obtain ⟨t'', rfl⟩ := r''
        refine call_range_3 q1 ?_ (.inl (PyProof.noPylong_small q2))
        refine wpAny_pyIter_range (IsRange.new ..) q3 ?_
        have I2 : Inv X pins σ H1 { s1 with heap := s1.heap.push { cls := .type "range", data := .fields #[.int i t, .int j t', .int c t''] }, toks := s1.toks } := I1.kept fun b o e => Heap.get?_push_of_some _ e
        refine ⟨(s1.heap.push { cls := .type "range", data := .fields #[.int i t, .int j t', .int c t''] }).objs.size, [(s1.heap.push { cls := .type "range", data := .fields #[.int i t, .int j t', .int c t''] }).objs.size], _, _, H1, rfl,
          I2.kept (t' := s1.toks) fun b o e => Heap.get?_push_of_some _ e, turn_rangec _ i c (Builtin.Range.rangeSize i j c).toNat, ?_, fun b hb => ?_, q⟩
        · have e1 : i + ((0 : Nat) : Int) * c = i := by simp
          have e2 : (((Builtin.Range.rangeSize i j c).toNat : Nat) : Int) - ((0 : Nat) : Int) = Builtin.Range.rangeSize i j c := by
            have := size_nonneg i j c q1
            omega
          show IsRangeIter _ _ (i + ((0 : Nat) : Int) * c) ((((Builtin.Range.rangeSize i j c).toNat : Nat) : Int) - ((0 : Nat) : Int)) c
          rw [e1, e2]
          exact Heap.get?_push_size _ rfl
        · have e : b = (s1.heap.push { cls := .type "range", data := .fields #[.int i t, .int j t', .int c t''] }).objs.size := by simpa using hb
          subst e
          exact I2.fpOk (Nat.le_refl _) (I2.hok.fresh (Nat.le_refl _))
end
end L2

namespace L2
open PySem PySem.Spec PyProof.Rows
/-! ### enumerate(text) -/
/-- the pairs of a number from n0 on and a sign -/
def Ites (n0 : Nat) (cs : List Nat) : It := ⟨fun i _ => i < cs.length, fun i H v H' => ∃ c p, cs[i]? = some c ∧ H p = none ∧ v = .ref p ∧ H' = upd H p (.tup [.int ((n0 + i : Nat) : Int), S [c]]), fun i _ => cs.length ≤ i⟩
section
variable {X : Cx} {elts : List Expr} {x1 : Nat} {tpos : Pos}
def iEnum (ta : TA) : TI := fun σ H R => ta σ H fun vs H1 => ∃ cs, vs = [S cs] ∧ R (Ites 0 cs) H1
end
end L2

namespace L2
open PySem PySem.Spec PyProof.Rows

/-! ### lists of pairs as tables -/
section
variable {κ : Type} [DecidableEq κ]
def valV (kvs : List (κ × V)) (k : κ) : Option V := (kvs.find? fun kv => decide (kv.1 = k)).map (·.2)
/-- in its place, or at the end -/
def putK (kvs : List (κ × V)) (k : κ) (v : V) : List (κ × V) :=
  if (kvs.any fun kv => decide (kv.1 = k)) = true then kvs.map (fun kv => if kv.1 = k then (kv.1, v) else kv) else kvs ++ [(k, v)]
def dropK (kvs : List (κ × V)) (k : κ) : List (κ × V) := kvs.filter fun kv => decide (kv.1 ≠ k)

theorem valV_pos {p : κ × V} {r : List (κ × V)} {k : κ} (e : p.1 = k) : valV (p :: r) k = some p.2 := by simp [valV, List.find?_cons, e]
theorem valV_neg {p : κ × V} {r : List (κ × V)} {k : κ} (e : ¬ p.1 = k) : valV (p :: r) k = valV r k := by simp [valV, List.find?_cons, e]
theorem valV_any (k : κ) : ∀ kvs : List (κ × V), (kvs.any fun kv => decide (kv.1 = k)) = (valV kvs k).isSome
  | [] => rfl
  | p :: r => by
    rw [List.any_cons]
    by_cases e : p.1 = k
    · simp only [valV_pos e, decide_eq_true e, Bool.true_or, Option.isSome_some]
    · rw [valV_neg e, decide_eq_false e, Bool.false_or]; exact valV_any k r
theorem length_putK (kvs : List (κ × V)) (k : κ) (v : V) : (putK kvs k v).length ≤ kvs.length + 1 := by
  unfold putK
  split
  · rw [List.length_map]; omega
  · rw [List.length_append, List.length_cons, List.length_nil]; omega
theorem RelO.isSome_eq {o : Option V} {u : Option Value} (r : RelO o u) : o.isSome = u.isSome := by
  cases o with
  | none => cases u with
    | none => rfl
    | some _ => exact (show False from r).elim
  | some _ => cases u with
    | none => exact (show False from r).elim
    | some _ => rfl
theorem RelO.getD {o : Option V} {u : Option Value} {d : V} {d' : Value} (r : RelO o u) (rd : RelV d d') : RelV (o.getD d) (u.getD d') := by
  cases o with
  | none => cases u with
    | none => exact rd
    | some _ => exact (show False from r).elim
  | some _ => cases u with
    | none => exact (show False from r).elim
    | some _ => exact r

/-- raw tables of the same keys -/
theorem KV.val {kvs : List (κ × V)} {vs : List (κ × Value)} (r : KV kvs vs) (k : κ) : RelO (valV kvs k) (valueAt vs k) := by
  unfold KV at r
  induction r with
  | nil => exact True.intro
  | @cons p q ps qs h t ih =>
    obtain ⟨h1, h2⟩ := h
    by_cases e : p.1 = k
    · have e' : q.1 = k := h1.symm.trans e
      have b : valueAt (q :: qs) k = some q.2 := by simp [valueAt, List.find?_cons, e']
      rw [valV_pos e, b]; exact h2
    · have e' : ¬ q.1 = k := fun z => e (h1.trans z)
      have b : valueAt (q :: qs) k = valueAt qs k := by simp [valueAt, List.find?_cons, e']
      rw [valV_neg e, b]; exact ih
theorem KV.any {kvs : List (κ × V)} {vs : List (κ × Value)} (r : KV kvs vs) (k : κ) : (kvs.any fun kv => decide (kv.1 = k)) = vs.any fun kv => decide (kv.1 = k) := by
  unfold KV at r
  induction r with
  | nil => rfl
  | cons h t ih => rw [List.any_cons, List.any_cons, ih, h.1]
theorem KV.repl {kvs : List (κ × V)} {vs : List (κ × Value)} (r : KV kvs vs) (k : κ) {y : V} {u : Value} (ry : RelV y u) :
    KV (kvs.map fun kv => if kv.1 = k then (kv.1, y) else kv) (vs.map fun kv => if kv.1 = k then (kv.1, u) else kv) := by
  unfold KV at r ⊢
  induction r with
  | nil => exact .nil
  | @cons p q ps qs h t ih =>
    rw [List.map_cons, List.map_cons]
    refine .cons ?_ ih
    obtain ⟨h1, h2⟩ := h
    by_cases e : p.1 = k
    · rw [if_pos e, if_pos (h1.symm.trans e)]; exact ⟨h1, ry⟩
    · rw [if_neg e, if_neg (fun z => e (h1.trans z))]; exact ⟨h1, h2⟩
theorem KV.put {kvs : List (κ × V)} {vs : List (κ × Value)} (r : KV kvs vs) (k : κ) {y : V} {u : Value} (ry : RelV y u) : KV (putK kvs k y) (stored vs k u) := by
  unfold putK stored
  rw [r.any k]
  by_cases e : (vs.any fun kv => decide (kv.1 = k)) = true
  · rw [if_pos e, if_pos e]; exact r.repl k ry
  · rw [if_neg e, if_neg e]; exact Paired.snoc r ⟨rfl, ry⟩
theorem KV.drop {kvs : List (κ × V)} {vs : List (κ × Value)} (r : KV kvs vs) (k : κ) : KV (dropK kvs k) (without vs k) := by
  unfold KV at r ⊢
  unfold dropK without
  induction r with
  | nil => exact .nil
  | @cons p q ps qs h t ih =>
    obtain ⟨h1, h2⟩ := h
    rw [List.filter_cons, List.filter_cons]
    by_cases e : p.1 = k
    · have a : ¬ decide (p.1 ≠ k) = true := by simp [e]
      have b : ¬ decide (q.1 ≠ k) = true := by simp [h1.symm.trans e]
      rw [if_neg a, if_neg b]; exact ih
    · have e' : ¬ q.1 = k := fun z => e (h1.trans z)
      have a : decide (p.1 ≠ k) = true := by simp [e]
      have b : decide (q.1 ≠ k) = true := by simp [e']
      rw [if_pos a, if_pos b]; exact .cons ⟨h1, h2⟩ ih
theorem KV.length {kvs : List (κ × V)} {vs : List (κ × Value)} (r : KV kvs vs) : kvs.length = vs.length := Paired.length r
end


/-! ### a tracked dict, its keys ints and texts or tuples of these -/
theorem kV_is {P : Program} {w : World} {k : Key} {u : Value} (r : RelV (kV k) u) : (mixKind P w).is k u = true := by
  cases k with
  | inl i => obtain ⟨t, e⟩ := (show ∃ t, u = Value.int i t from r); subst e; exact mixKind_int P w i t
  | inr x => obtain ⟨t, e⟩ := (show ∃ t, u = Value.str x t from r); subst e; exact mixKind_str P w x t
theorem items_are {P : Program} {w : World} : ∀ {ks : List Key} {us : List Value}, Vals (ks.map kV) us → ItemsAre (mixKind P w) ks us
  | [], _, r => by rw [List.map_nil] at r; cases r; exact .nil
  | k :: ks, _, r => by
    rw [List.map_cons] at r
    cases r with
    | cons h t => exact .cons (kV_is h) (items_are t)

/-- raw entries of a dict with tuple keys -/
abbrev KT (H : Hp) : List (List Key × V) → List (List Key × Addr × Value) → Prop := Paired fun p q => p.1 = q.1 ∧ H q.2.1 = some (.tup (p.1.map kV)) ∧ RelV p.2 q.2.2
theorem KT.val {H : Hp} {kvs : List (List Key × V)} {xs : List (List Key × Addr × Value)} (r : KT H kvs xs) (k : List Key) : RelO (valV kvs k) ((atKey xs k).map (·.2)) := by
  induction r with
  | nil => exact True.intro
  | @cons p q ps qs h t ih =>
    obtain ⟨h1, _, h2⟩ := h
    by_cases e : p.1 = k
    · have e' : q.1 = k := h1.symm.trans e
      have b : atKey (q :: qs) k = some q.2 := by simp [atKey, List.find?_cons, e']
      rw [valV_pos e, b]; exact h2
    · have e' : ¬ q.1 = k := fun z => e (h1.trans z)
      have b : atKey (q :: qs) k = atKey qs k := by simp [atKey, List.find?_cons, e']
      rw [valV_neg e, b]; exact ih
theorem KT.repl {H : Hp} {kvs : List (List Key × V)} {xs : List (List Key × Addr × Value)} (r : KT H kvs xs) (k : List Key) {y : V} {u : Value} (ry : RelV y u) :
    KT H (kvs.map fun kv => if kv.1 = k then (kv.1, y) else kv) (xs.map (putAt k u)) := by
  induction r with
  | nil => exact .nil
  | @cons p q ps qs h t ih =>
    rw [List.map_cons, List.map_cons]
    refine .cons ?_ ih
    obtain ⟨h1, h2, h3⟩ := h
    unfold putAt
    by_cases e : p.1 = k
    · rw [if_pos e, if_pos (h1.symm.trans e)]; exact ⟨h1, h2, ry⟩
    · rw [if_neg e, if_neg (fun z => e (h1.trans z))]; exact ⟨h1, h2, h3⟩
theorem KT.put {H : Hp} {kvs : List (List Key × V)} {xs : List (List Key × Addr × Value)} (r : KT H kvs xs) (k : List Key) {b : Addr} {y : V} {u : Value} (hb : H b = some (.tup (k.map kV))) (ry : RelV y u) :
    KT H (putK kvs k y) (storedH xs k b u) := by
  have e : (kvs.any fun kv => decide (kv.1 = k)) = (atKey xs k).isSome := by
    rw [valV_any, (r.val k).isSome_eq, Option.isSome_map]
  unfold putK storedH
  rw [e]
  by_cases q : (atKey xs k).isSome = true
  · rw [if_pos q, if_pos q]; exact r.repl k ry
  · rw [if_neg q, if_neg q]; exact Paired.snoc r ⟨rfl, hb, ry⟩
theorem KT.keeps {H H' : Hp} {kvs : List (List Key × V)} {xs : List (List Key × Addr × Value)} (r : KT H kvs xs) (ht : ∀ b ys, H b = some (.tup ys) → H' b = some (.tup ys)) : KT H' kvs xs :=
  Paired.mapP r fun _ _ z => ⟨z.1, ht _ _ z.2.1, z.2.2⟩

section
variable {P : Program} {w : World} {H : Hp} {h : Heap} {a : Addr}
theorem rd_of {u : HO} (ok : HOk P w H h) (e : Rd H a u) : ObjOk P w H h a u := e.ok ok
theorem dk_rd {kvs : List (Key × V)} (ok : HOk P w H h) (e : Rd H a (.dK kvs)) : kvs.length ≤ sizeLine ∧ (a == sysModules) = false ∧ ∃ vs, KV kvs vs ∧ h.DictOf (mixKind P w) a vs :=
  show ObjOk P w H h a (.dK kvs) from rd_of ok e
theorem dk_of {kvs : List (Key × V)} (ok : HOk P w H h) (e : H a = some (.dK kvs)) : kvs.length ≤ sizeLine ∧ (a == sysModules) = false ∧ ∃ vs, KV kvs vs ∧ h.DictOf (mixKind P w) a vs := dk_rd ok (.inl e)
/-- a tracked tuple of ints and texts is a key -/
theorem key_of {ks : List Key} (ok : HOk P w H h) (e : H a = some (.tup (ks.map kV))) : (tupleKind (mixKind P w)).is h ks a := by
  obtain ⟨_, its, r, o, h1, h2, n, h3⟩ := (show ObjOk P w H h a (.tup (ks.map kV)) from ok a _ e)
  exact ⟨o, its.toArray, n, h1, h2, h3, by simpa using items_are r⟩
theorem dt_rd {kvs : List (List Key × V)} (ok : HOk P w H h) (e : Rd H a (.dT kvs)) : kvs.length ≤ sizeLine ∧ (a == sysModules) = false ∧
    ∃ xs, KT H kvs xs ∧ h.DictOfH (tupleKind (mixKind P w)) a xs := by
  obtain ⟨z, y, xs, r, o, es, ep, h1, h2, h3, h4, h5⟩ := (show ObjOk P w H h a (.dT kvs) from rd_of ok e)
  refine ⟨z, y, xs, r, o, es, ep, h1, h2, h3, h4, fun x hx => ?_, h5⟩
  have all : ∀ {l : List (List Key × V)} {m : List (List Key × Addr × Value)}, KT H l m → ∀ x ∈ m, (tupleKind (mixKind P w)).is h x.1 x.2.1 := by
    intro l m q
    induction q with
    | nil => intro x hx; exact nomatch hx
    | @cons p q ps qs hq t ih =>
      intro x hx
      rcases List.mem_cons.mp hx with e | hx
      · subst e
        exact key_of ok (by rw [← hq.1]; exact hq.2.1)
      · exact ih x hx
  exact all r x hx
theorem dt_of {kvs : List (List Key × V)} (ok : HOk P w H h) (e : H a = some (.dT kvs)) : kvs.length ≤ sizeLine ∧ (a == sysModules) = false ∧
    ∃ xs, KT H kvs xs ∧ h.DictOfH (tupleKind (mixKind P w)) a xs := dt_rd ok (.inl e)
end

/-- what the dict at a holds at the key y -/
def DGet (H : Hp) (a : Addr) (y : V) (r : Option V) : Prop :=
  (∃ kvs k, Rd H a (.dK kvs) ∧ y = kV k ∧ r = valV kvs k) ∨ ∃ kvs k b, Rd H a (.dT kvs) ∧ y = .ref b ∧ H b = some (.tup (k.map kV)) ∧ r = valV kvs k
/-- the heap behind a[y] = v -/
def DPut (H : Hp) (a : Addr) (y v : V) (H' : Hp) : Prop :=
  (∃ kvs k, H a = some (.dK kvs) ∧ y = kV k ∧ kvs.length < sizeLine ∧ H' = upd H a (.dK (putK kvs k v))) ∨
  ∃ kvs k b, H a = some (.dT kvs) ∧ y = .ref b ∧ H b = some (.tup (k.map kV)) ∧ kvs.length < sizeLine ∧ H' = upd H a (.dT (putK kvs k v))
theorem DGet.k {H : Hp} {a : Addr} {kvs : List (Key × V)} {k : Key} (e : H a = some (.dK kvs)) : DGet H a (kV k) (valV kvs k) := .inl ⟨kvs, k, .inl e, rfl, rfl⟩
theorem DGet.t {H : Hp} {a b : Addr} {kvs : List (List Key × V)} {k : List Key} (e : H a = some (.dT kvs)) (eb : H b = some (.tup (k.map kV))) : DGet H a (.ref b) (valV kvs k) := .inr ⟨kvs, k, b, .inl e, rfl, eb, rfl⟩
theorem DPut.k {H : Hp} {a : Addr} {kvs : List (Key × V)} {k : Key} {v : V} (e : H a = some (.dK kvs)) (hl : kvs.length < sizeLine) : DPut H a (kV k) v (upd H a (.dK (putK kvs k v))) := .inl ⟨kvs, k, e, rfl, hl, rfl⟩
theorem DPut.t {H : Hp} {a b : Addr} {kvs : List (List Key × V)} {k : List Key} {v : V} (e : H a = some (.dT kvs)) (eb : H b = some (.tup (k.map kV))) (hl : kvs.length < sizeLine) :
    DPut H a (.ref b) v (upd H a (.dT (putK kvs k v))) := .inr ⟨kvs, k, b, e, rfl, eb, hl, rfl⟩


section
variable {X : Cx} {pins : List (Addr × Obj)} {σ : St} {H : Hp} {s : Shared} {a : Addr} {y v : V} {u r : Value} {o : Option V} {A : Around} {E : Value → Shared → Prop}

theorem Inv.big (I : Inv X pins σ H s) : sysModules < s.heap.objs.size := by
  have h : mainGlobals < s.heap.objs.size := (I.mod.glob.keeps I.bk).lt
  exact Nat.lt_trans (by decide) h

theorem d_notIn {Q : Value → Shared → Prop} (hu : A.units + 1 < cLine) (I : Inv X pins σ H s) (g : DGet H a y o) (ry : RelV y u) (h : ∀ s', Inv X pins σ H s' → Q (.bool (!o.isSome)) s') :
    wpAny (model X.prog X.w) A (compareOp .NotIn u (.ref a)) Q E s := by
  rcases g with ⟨kvs, k, e, ey, l⟩ | ⟨kvs, k, b, e, ey, eb, l⟩
  · subst ey
    obtain ⟨z, hd, vs, rel, dd⟩ := dk_rd I.hok e
    refine wpAny_notIn_of (kV_is ry) hd dd.mapOf ?_
    rw [← (rel.val k).isSome_eq, ← l]
    exact h _ (I.tok _)
  · subst ey
    cases (show u = Value.ref b from ry)
    obtain ⟨z, hd, xs, rel, dd⟩ := dt_rd I.hok e
    refine wpAny_notIn_heap (tupleKind_room_in1 hu) (key_of I.hok eb) hd dd ?_
    have q := (rel.val k).isSome_eq
    rw [Option.isSome_map] at q
    rw [← q, ← l]
    exact h _ (I.tok _)
/-- a dict's object is replaced -/
theorem d_write {h' : Heap} {t' : Nat} {ob : HO} (I : Inv X pins σ H s) (mu : Mut (H a)) (hs : Heap.SameBut a s.heap h') (he : ∃ q, h'.get? a = some q) (new : ObjOk X.prog X.w (upd H a ob) h' a ob) :
    Inv X pins σ (upd H a ob) { s with heap := h', toks := t' } :=
  I.write (x := a) (e := a) mu (.inl rfl) (fun b q hb z => (hs.2 b hb).trans z) he new
theorem dk_new {P : Program} {w : World} {H' : Hp} {h' : Heap} {kvs : List (Key × V)} {vs : List (Key × Value)} (z : kvs.length ≤ sizeLine) (hd : (a == sysModules) = false) (rel : KV kvs vs) (dd : h'.DictOf (mixKind P w) a vs) :
    ObjOk P w H' h' a (.dK kvs) := ⟨z, hd, vs, rel, dd⟩
/-- d[y] = v -/
theorem d_setItem {H' : Hp} {Q : Unit → Shared → Prop} (hu : A.units + 1 < cLine) (I : Inv X pins σ H s) (g : DPut H a y v H') (ry : RelV y u) (rv : RelV v r) (h : ∀ s', Inv X pins σ H' s' → Q () s') :
    wpAny (model X.prog X.w) A (setItem (.ref a) u r) Q E s := by
  rcases g with ⟨kvs, k, e, ey, l, eH⟩ | ⟨kvs, k, b, e, ey, eb, l, eH⟩
  · subst ey eH
    obtain ⟨z, hd, vs, rel, dd⟩ := dk_of I.hok e
    have hz : vs.length ≤ sizeLine := by rw [← rel.length]; exact z
    have hl : (putK kvs k v).length ≤ sizeLine := by have := length_putK kvs k v; omega
    refine wpAny_setItem_pairs (hsz := hz) (kV_is ry) dd fun h' dd' hs => h _ ?_
    have he : ∃ q, h'.get? a = some q := let ⟨q, _, _, hq, _⟩ := dd'; ⟨q, hq⟩
    exact d_write I (by rw [e]; exact True.intro) hs he (dk_new hl hd (rel.put k rv) dd')
  · subst ey eH
    cases (show u = Value.ref b from ry)
    obtain ⟨z, hd, xs, rel, dd⟩ := dt_of I.hok e
    have hz : xs.length ≤ sizeLine := by rw [← Paired.length rel]; exact z
    have hl : (putK kvs k v).length ≤ sizeLine := by have := length_putK kvs k v; omega
    refine wpAny_setItem_heap (hsz := hz) (tupleKind_room_in1 hu) (key_of I.hok eb) dd fun h' dd' hs => h _ ?_
    obtain ⟨q, es, ep, hq, h2, h3, h4, _, h5⟩ := dd'
    refine d_write I (by rw [e]; exact True.intro) hs ⟨q, hq⟩ ⟨hl, hd, _, (rel.put k eb rv).keeps fun c ys ec => ?_, q, es, ep, hq, h2, h3, h4, h5⟩
    rw [upd_ne (ne_of ec e (fun z => nomatch z))]
    exact ec
end

section
variable {X : Cx} {pins : List (Addr × Obj)} {σ : St} {H : Hp} {s : Shared} {a : Addr} {kvs : List (Key × V)} {k : Key} {u : Value} {A : Around} {E : Value → Shared → Prop}
end


/-! ### readings and rules -/
/-- the element of a subscription, not a slice -/
def NoSl (i : Expr) : Prop := ∀ ov iv, subscripted i false ov iv = operate [ov, iv] (getItem ov iv)
/-- d[y] -/
def tDGet (td ty : TE) : TE := fun σ H Q => td σ H fun x H1 => ty σ H1 fun y H2 => ∃ a v, x = .ref a ∧ DGet H2 a y (some v) ∧ Q v H2
/-- y in d, y not in d -/
def tDIn (ty td : TE) : TE := fun σ H Q => ty σ H fun y H1 => td σ H1 fun x H2 => ∃ a o, x = .ref a ∧ DGet H2 a y o ∧ Q (.bl o.isSome) H2
def tDNotIn (ty td : TE) : TE := fun σ H Q => ty σ H fun y H1 => td σ H1 fun x H2 => ∃ a o, x = .ref a ∧ DGet H2 a y o ∧ Q (.bl (!o.isSome)) H2
/-- d[y] = v -/
def sDPut (td ty tv : TE) : TS := fun D σ H => tv σ H fun v H1 => td σ H1 fun x H2 => ty σ H2 fun y H3 => ∃ a H4, x = .ref a ∧ DPut H3 a y v H4 ∧ D.nx σ H4
/-- d[y] op= v -/
def sDAug (td ty tv : TE) (rd : V → V → Hp → VK → Prop) : TS := fun D σ H => td σ H fun x H1 => ty σ H1 fun y H2 => ∃ a v, x = .ref a ∧ DGet H2 a y (some v) ∧
  tv σ H2 fun y2 H3 => rd v y2 H3 fun z H4 => ∃ H5, DPut H4 a y z H5 ∧ D.nx σ H5
/-- del d[y] -/
def sDDel (td ty : TE) : TS := fun D σ H => td σ H fun x H1 => ty σ H1 fun y H2 => ∃ a kvs k, x = .ref a ∧ H2 a = some (.dK kvs) ∧ y = kV k ∧ (valV kvs k).isSome = true ∧ D.nx σ (upd H2 a (.dK (dropK kvs k)))

section
variable {X : Cx} {o i e value : Expr} {pos pos' tpos : Pos} {td ty tv : TE}
theorem pc_dnotin (hu : X.A.units + 1 < cLine) (hi : PE X i ty) (ho : PE X o td) : PC X .NotIn i o (tDNotIn ty td) := by
  intro pins s σ H Q I h
  refine thn (hi pins s σ H _ I h) fun iv s1 ⟨y, H1, I1, ry, q1⟩ => thn (ho pins s1 σ H1 _ I1 q1) fun u s2 ⟨x, H2, I2, rx, a, ov, ex, g, q2⟩ => ?_
  subst ex
  obtain rfl : u = Value.ref a := rx
  exact d_notIn hu I2 g ry fun s3 I3 => ⟨.bl (!ov.isSome), H2, I3, rfl, q2⟩
theorem ps_dput (hu : X.A.units + 1 < cLine) (ho : PE X o td) (hi : PE X i ty) (hv : PE X value tv) (hs : swapsWith value (some (.Subscript o i pos')) pos.line X.env = pure false) :
    PS X (.Assign [.Subscript o i pos'] value pos) (sDPut td ty tv) := by
  intro pins s σ H D I h
  refine wpAny_Assign_Subscript (thn (hv pins s σ H _ I h) fun r s1 ⟨v, H1, I1, rv, q1⟩ => thn (ho pins s1 σ H1 _ I1 q1) fun u s2 ⟨x, H2, I2, rx, q2⟩ => thn (hi pins s2 σ H2 _ I2 q2) fun iv s3 ⟨y, H3, I3, ry, a, H4, ex, g, q3⟩ => ?_) hs
  subst ex
  obtain rfl : u = Value.ref a := rx
  exact d_setItem hu I3 g ry rv fun s4 I4 => ⟨σ, H4, I4, q3⟩
end


/-! ### displays -/
theorem dk_empty {P : Program} {w : World} {H : Hp} (h : Heap) (hb : sysModules < h.objs.size) : ObjOk P w H (h.push { cls := .type "dict", data := .dict #[] }) h.objs.size (.dK []) :=
  ⟨Nat.zero_le _, beq_eq_false_iff_ne.mpr (Ne.symm (Nat.ne_of_lt hb)), [], .nil, Heap.DictOf.new h⟩
/-- {}, to be a dict of the kind that is wanted -/
def tDNewK : TE := fun _ H Q => ∀ p, H p = none → Q (.ref p) (upd H p (.dK []))
def tDNewT : TE := fun _ H Q => ∀ p, H p = none → Q (.ref p) (upd H p (.dT []))
section
variable {X : Cx} {pos : Pos}
theorem pe_dnewK : PE X (.Dict [] [] pos) tDNewK := fun pins s σ H Q I h =>
  wpAny_Dict_empty ⟨.ref s.heap.objs.size, _, I.laid (a := s.heap.objs.size) (o := .dK []) (t' := s.toks) (fun _ _ q => Heap.get?_push_of_some _ q) (Nat.le_refl _) (dk_empty s.heap I.big), rfl, h _ (I.hok.fresh (Nat.le_refl _))⟩
end

/-- the pairs of a display, from the left -/
def tPairs : List (TE × TE) → St → Hp → (List (V × V) → Hp → Prop) → Prop
  | [], _, H, Q => Q [] H
  | (tk, tv) :: r, σ, H, Q => tk σ H fun x H1 => tv σ H1 fun y H2 => tPairs r σ H2 fun ps H3 => Q ((x, y) :: ps) H3
abbrev VV : List (V × V) → List (Value × Value) → Prop := Paired fun p q => RelV p.1 q.1 ∧ RelV p.2 q.2
def PPs (X : Cx) (pos : Pos) (keys : List (Option Expr)) (values : List Expr) (trs : List (TE × TE)) : Prop :=
  ∀ (pins : List (Addr × Obj)) (s : Shared) (σ : St) (H : Hp) (Q : List (V × V) → Hp → Prop), Inv X pins σ H s → tPairs trs σ H Q →
    wpAny (model X.prog X.w) X.A (evalPairs (pairTrees keys values X.env pos)) (fun vs s' => ∃ ps H', Inv X pins σ H' s' ∧ VV ps vs ∧ Q ps H') X.xe s
def mergeK (kvs more : List (Key × V)) : List (Key × V) := more.foldl (fun acc kv => putK acc kv.1 kv.2) kvs
/-- {k: v, ..} with keys ints and texts; the new dict stands empty while the pairs are made -/
def tDisp (trs : List (TE × TE)) : TE := fun σ H Q => ∀ p, H p = none → tPairs trs σ (upd H p (.dK [])) fun ps H2 => H2 p = some (.dK []) ∧ ∃ kvs : List (Key × V), ps = kvs.map (fun kv => (kV kv.1, kv.2)) ∧ kvs.length ≤ 15 ∧ Q (.ref p) (upd H2 p (.dK (mergeK [] kvs)))
/-! ### methods -/
/-- a method call o.m(e) of a built-in, with one argument: what must be seen of the text -/
structure M1 (X : Cx) (o : Expr) (m : Str) (apos : Pos) (e : Expr) (cpos : Pos) : Prop where
  base : attributeBase o m X.env (eval o X.env) = eval o X.env
  few : ((backTo cpos (starEach [e] X.env)).all (fun x => !x.1) && (backToKw cpos (keywordEach [] X.env)).all (fun x => x.1.isSome)
    && decide (([e] : List Expr).length + ([] : List Keyword).length + (if ([] : List Keyword).isEmpty then 0 else 1) < 30)) = true
  line : (apos.endLine == cpos.line) = true
  trees : backTo cpos (starEach [e] X.env) = [(false, eval e X.env)]
structure M2 (X : Cx) (o : Expr) (m : Str) (apos : Pos) (e f : Expr) (cpos : Pos) : Prop where
  base : attributeBase o m X.env (eval o X.env) = eval o X.env
  few : ((backTo cpos (starEach [e, f] X.env)).all (fun x => !x.1) && (backToKw cpos (keywordEach [] X.env)).all (fun x => x.1.isSome)
    && decide (([e, f] : List Expr).length + ([] : List Keyword).length + (if ([] : List Keyword).isEmpty then 0 else 1) < 30)) = true
  line : (apos.endLine == cpos.line) = true
  trees : backTo cpos (starEach [e, f] X.env) = [(false, eval e X.env), (false, eval f X.env)]

/-- a is a dict, whatever its keys -/
def IsD (H : Hp) (a : Addr) : Prop := (∃ kvs, Rd H a (.dK kvs)) ∨ ∃ kvs, Rd H a (.dT kvs)
section
variable {X : Cx} {pins : List (Addr × Obj)} {σ : St} {H : Hp} {s : Shared} {a : Addr} {y d : V} {u r : Value} {o : Option V} {A : Around} {E : Value → Shared → Prop}
end

def tDGet1 (td ty : TE) : TE := fun σ H Q => td σ H fun x H1 => ∃ a, x = .ref a ∧ IsD H1 a ∧ ty σ H1 fun y H2 => ∃ o, DGet H2 a y o ∧ Q (o.getD .non) H2
def tDGet2 (td ty tx : TE) : TE := fun σ H Q => td σ H fun x H1 => ∃ a, x = .ref a ∧ IsD H1 a ∧ ty σ H1 fun y H2 => tx σ H2 fun z H3 => ∃ o, DGet H3 a y o ∧ Q (o.getD z) H3
/-- d.pop(k): there; d.pop(k, x): there or not -/
def tDPop1 (td ty : TE) : TE := fun σ H Q => td σ H fun x H1 => ∃ a, x = .ref a ∧ IsD H1 a ∧ ty σ H1 fun y H2 => ∃ kvs k v, H2 a = some (.dK kvs) ∧ y = kV k ∧ valV kvs k = some v ∧ Q v (upd H2 a (.dK (dropK kvs k)))
def tDPop2 (td ty tx : TE) : TE := fun σ H Q => td σ H fun x H1 => ∃ a, x = .ref a ∧ IsD H1 a ∧ ty σ H1 fun y H2 => tx σ H2 fun z H3 => ∃ kvs k, H3 a = some (.dK kvs) ∧ y = kV k ∧
  (∀ v, valV kvs k = some v → Q v (upd H3 a (.dK (dropK kvs k)))) ∧ (valV kvs k = none → Q z H3)
section
variable {X : Cx} {o e f : Expr} {apos cpos : Pos} {td ty tx : TE}
end

/-! ### dict(d): a copy -/
section
variable {X : Cx} {pins : List (Addr × Obj)} {σ : St} {H : Hp} {s : Shared} {a : Addr} {kvs : List (Key × V)} {A : Around} {E : Value → Shared → Prop}
end


section
variable {X : Cx} {pins : List (Addr × Obj)} {σ : St} {H : Hp} {s : Shared} {a : Addr} {y : V} {u : Value} {A : Around} {E : Value → Shared → Prop}
end
end L2

namespace DL
open PySem PySem.Spec L2

/-- a datum: a value with all that it holds -/
inductive D where
  | non
  | bl (b : Bool)
  | int (i : Int)
  | str (cs : List Nat)
  | lst (xs : List D)
  | tup (xs : List D)
  | obj (c : String) (ks : List String) (xs : List D)
  | dct (ks : List Key) (xs : List D)
/-- a list of the module's own -/
def KL (K : PySem.W.Frag) (a : Addr) (vs : List V) : Prop := ∃ (o : Obj) (its : Array Value) (n : Nat), K.lookup a = some o ∧ o.cls = .type "list" ∧ o.dict = none ∧ o.data = .seq its n ∧ its.size ≤ sizeLine ∧ Vals vs its.toList
/-- the classes' addresses; what the module has written -/
structure Kn where
  c : String → Addr
  K : PySem.W.Frag
def scalar : D → Bool
  | .non => true
  | .bl _ => true
  | .int _ => true
  | .str _ => true
  | _ => false

mutual
/-- the value v holds the datum in the heap H; none of its objects is one of av -/
def Rep (cA : Kn) (av : Addr → Prop) (H : Hp) : D → V → Prop
  | .non, v => v = .non
  | .bl b, v => v = .bl b
  | .int i, v => v = .int i
  | .str cs, v => v = S cs
  | .lst xs, v => ∃ a vs, v = .ref a ∧ (av a → KL cA.K a vs) ∧ SqL cA.K H a vs ∧ RepL cA av H xs vs
  | .tup xs, v => ∃ a vs, v = .ref a ∧ ¬ av a ∧ H a = some (.tup vs) ∧ RepL cA av H xs vs
  | .obj c ks xs, v => ∃ a dx vs, v = .ref a ∧ ¬ av a ∧ H a = some (.ins (cA.c c) dx ((ks.map Str.ofString).zip vs)) ∧ ks.length = xs.length ∧ RepL cA av H xs vs
  | .dct ks xs, v => ∃ a vs, v = .ref a ∧ ¬ av a ∧ H a = some (.dK (ks.zip vs)) ∧ ks.length = xs.length ∧ RepL cA av H xs vs
def RepL (cA : Kn) (av : Addr → Prop) (H : Hp) : List D → List V → Prop
  | [], vs => vs = []
  | x :: xs, vs => ∃ v r, vs = v :: r ∧ Rep cA av H x v ∧ RepL cA av H xs r
end

section
variable {cA : Kn} {G : Cn} {av av' : Addr → Prop} {H H' : Hp}
theorem Rd.ext {a : Addr} {u : HO} (h : Rd H a u) (k : ∀ o, H a = some o → H' a = some o) : Rd H' a u := by
  rcases h with h | ⟨o, h⟩
  · exact .inl (k _ h)
  · exact .inr ⟨o, k _ h⟩
theorem Rd.there {a : Addr} {u : HO} (h : Rd H a u) : H a ≠ none := by
  rcases h with h | ⟨o, h⟩ <;> rw [h] <;> exact fun z => by cases z
theorem sq_ext {K : PySem.W.Frag} {a : Addr} {vs : List V} (n : av a → KL K a vs) (r : SqL K H a vs) (k : ∀ b o, ¬ av b → H b = some o → H' b = some o) : SqL K H' a vs := by
  by_cases h : av a
  · exact .inr (n h)
  · rcases r with r | r
    · exact .inl (Rd.ext r fun o => k a o h)
    · exact .inr r
theorem sq_av {K : PySem.W.Frag} {a : Addr} {vs : List V} (n : av a → KL K a vs) (r : SqL K H a vs) (k : ∀ b, av' b → av b ∨ H b = none) : av' a → KL K a vs := fun z => by
  rcases k a z with z | z
  · exact n z
  · rcases r with r | r
    · exact absurd z (Rd.there r)
    · exact r
mutual
theorem Rep.ext : ∀ {d : D} {v : V}, (∀ b o, ¬ av b → H b = some o → H' b = some o) → Rep cA av H d v → Rep cA av H' d v
  | .non, _, _, h => h
  | .bl _, _, _, h => h
  | .int _, _, _, h => h
  | .str _, _, _, h => h
  | .lst xs, v, k, h => by
    unfold Rep at h ⊢
    obtain ⟨a, vs, e, n, r, l⟩ := h
    exact ⟨a, vs, e, n, sq_ext n r k, RepL.ext k l⟩
  | .tup xs, v, k, h => by
    unfold Rep at h ⊢
    obtain ⟨a, vs, e, n, r, l⟩ := h
    exact ⟨a, vs, e, n, k a _ n r, RepL.ext k l⟩
  | .obj c ks xs, v, k, h => by
    unfold Rep at h ⊢
    obtain ⟨a, dx, vs, e, n, r, z, l⟩ := h
    exact ⟨a, dx, vs, e, n, k a _ n r, z, RepL.ext k l⟩
  | .dct ks xs, v, k, h => by
    unfold Rep at h ⊢
    obtain ⟨a, vs, e, n, r, z, l⟩ := h
    exact ⟨a, vs, e, n, k a _ n r, z, RepL.ext k l⟩
theorem RepL.ext : ∀ {xs : List D} {vs : List V}, (∀ b o, ¬ av b → H b = some o → H' b = some o) → RepL cA av H xs vs → RepL cA av H' xs vs
  | [], _, _, h => h
  | x :: xs, vs, k, h => by
    unfold RepL at h ⊢
    obtain ⟨v, r, e, h1, h2⟩ := h
    exact ⟨v, r, e, Rep.ext k h1, RepL.ext k h2⟩
end
mutual
theorem Rep.av : ∀ {d : D} {v : V}, (∀ b, av' b → av b ∨ H b = none) → Rep cA av H d v → Rep cA av' H d v
  | .non, _, _, h => h
  | .bl _, _, _, h => h
  | .int _, _, _, h => h
  | .str _, _, _, h => h
  | .lst xs, v, k, h => by
    unfold Rep at h ⊢
    obtain ⟨a, vs, e, n, r, l⟩ := h
    exact ⟨a, vs, e, sq_av n r k, r, RepL.av k l⟩
  | .tup xs, v, k, h => by
    unfold Rep at h ⊢
    obtain ⟨a, vs, e, n, r, l⟩ := h
    exact ⟨a, vs, e, fun z => (k a z).elim n (by rw [r]; exact fun z => by cases z), r, RepL.av k l⟩
  | .obj c ks xs, v, k, h => by
    unfold Rep at h ⊢
    obtain ⟨a, dx, vs, e, n, r, z, l⟩ := h
    exact ⟨a, dx, vs, e, fun y => (k a y).elim n (by rw [r]; exact fun z => by cases z), r, z, RepL.av k l⟩
  | .dct ks xs, v, k, h => by
    unfold Rep at h ⊢
    obtain ⟨a, vs, e, n, r, z, l⟩ := h
    exact ⟨a, vs, e, fun y => (k a y).elim n (by rw [r]; exact fun z => by cases z), r, z, RepL.av k l⟩
theorem RepL.av : ∀ {xs : List D} {vs : List V}, (∀ b, av' b → av b ∨ H b = none) → RepL cA av H xs vs → RepL cA av' H xs vs
  | [], _, _, h => h
  | x :: xs, vs, k, h => by
    unfold RepL at h ⊢
    obtain ⟨v, r, e, h1, h2⟩ := h
    exact ⟨v, r, e, Rep.av k h1, RepL.av k h2⟩
end
theorem Rep.scal {d : D} {v : V} (hs : scalar d = true) (h : Rep cA av H d v) : Rep cA av' H' d v := by
  cases d <;> first | exact h | cases hs
theorem Rep.same {d : D} {v : V} (k : Same H H') (h : Rep cA av H d v) : Rep cA av H' d v := h.ext fun b o _ => k b o
theorem RepL.same {xs : List D} {vs : List V} (k : Same H H') (h : RepL cA av H xs vs) : RepL cA av H' xs vs := h.ext fun b o _ => k b o
theorem RepL.nil : RepL cA av H [] [] := by unfold RepL; rfl
theorem RepL.cons {d : D} {v : V} {xs : List D} {vs : List V} (h : Rep cA av H d v) (t : RepL cA av H xs vs) : RepL cA av H (d :: xs) (v :: vs) := by
  unfold RepL
  exact ⟨v, vs, rfl, h, t⟩
theorem RepL.uncons {d : D} {xs : List D} {vs : List V} (h : RepL cA av H (d :: xs) vs) : ∃ v r, vs = v :: r ∧ Rep cA av H d v ∧ RepL cA av H xs r := by
  unfold RepL at h
  exact h
theorem RepL.nil_of {vs : List V} (h : RepL cA av H [] vs) : vs = [] := by
  unfold RepL at h
  exact h
theorem RepL.length : ∀ {xs : List D} {vs : List V}, RepL cA av H xs vs → xs.length = vs.length
  | [], vs, h => by rw [h.nil_of]; rfl
  | x :: xs, vs, h => by
    obtain ⟨v, r, rfl, _, t⟩ := h.uncons
    rw [List.length_cons, List.length_cons, RepL.length t]
theorem RepL.get : ∀ {xs : List D} {vs : List V} {i : Nat} {x : D}, RepL cA av H xs vs → xs[i]? = some x → ∃ v, vs[i]? = some v ∧ Rep cA av H x v
  | [], _, _, _, _, e => by simp at e
  | y :: xs, vs, 0, x, h, e => by
    obtain ⟨v, r, rfl, h1, _⟩ := h.uncons
    simp at e; subst e
    exact ⟨v, rfl, h1⟩
  | y :: xs, vs, i + 1, x, h, e => by
    obtain ⟨v, r, rfl, _, t⟩ := h.uncons
    obtain ⟨u, h1, h2⟩ := RepL.get (i := i) t (by simpa using e)
    exact ⟨u, by simpa using h1, h2⟩
theorem RepL.append : ∀ {xs ys : List D} {vs ws : List V}, RepL cA av H xs vs → RepL cA av H ys ws → RepL cA av H (xs ++ ys) (vs ++ ws)
  | [], _, vs, _, h, t => by rw [h.nil_of]; exact t
  | x :: xs, ys, vs, ws, h, t => by
    obtain ⟨v, r, rfl, h1, h2⟩ := h.uncons
    exact .cons h1 (RepL.append h2 t)
theorem RepL.drop : ∀ {xs : List D} {vs : List V} (n : Nat), RepL cA av H xs vs → RepL cA av H (xs.drop n) (vs.drop n)
  | _, _, 0, h => h
  | [], vs, n + 1, h => by rw [h.nil_of]; exact .nil
  | x :: xs, vs, n + 1, h => by
    obtain ⟨v, r, rfl, _, h2⟩ := h.uncons
    exact RepL.drop n h2
theorem RepL.take : ∀ {xs : List D} {vs : List V} (n : Nat), RepL cA av H xs vs → RepL cA av H (xs.take n) (vs.take n)
  | _, _, 0, h => by simp; exact .nil
  | [], vs, n + 1, h => by rw [h.nil_of]; exact .nil
  | x :: xs, vs, n + 1, h => by
    obtain ⟨v, r, rfl, h1, h2⟩ := h.uncons
    exact .cons h1 (RepL.take n h2)
theorem RepL.set {d : D} {v : V} (hd : Rep cA av H d v) : ∀ {xs : List D} {vs : List V} (i : Nat), RepL cA av H xs vs → RepL cA av H (xs.set i d) (vs.set i v)
  | [], vs, _, h => by rw [h.nil_of]; exact .nil
  | x :: xs, vs, 0, h => by
    obtain ⟨v', r, rfl, h1, h2⟩ := h.uncons
    exact .cons hd h2
  | x :: xs, vs, i + 1, h => by
    obtain ⟨v', r, rfl, h1, h2⟩ := h.uncons
    exact .cons h1 (RepL.set hd i h2)
/-- lists of scalars -/
def val : D → V
  | .bl b => .bl b
  | .int i => .int i
  | .str cs => S cs
  | _ => .non
theorem Rep.val {d : D} {v : V} (hs : scalar d = true) (h : Rep cA av H d v) : v = DL.val d := by
  cases d <;> first | exact h | cases hs
theorem Rep.of_val {d : D} (hs : scalar d = true) : Rep cA av H d (DL.val d) := by
  cases d <;> first | rfl | cases hs
theorem RepL.vals : ∀ {xs : List D} {vs : List V}, xs.all scalar = true → RepL cA av H xs vs → vs = xs.map DL.val
  | [], vs, _, h => h.nil_of
  | x :: xs, vs, hs, h => by
    rw [List.all_cons, Bool.and_eq_true] at hs
    obtain ⟨v, r, rfl, h1, h2⟩ := h.uncons
    rw [List.map_cons, h1.val hs.1, RepL.vals hs.2 h2]
theorem RepL.of_vals : ∀ {xs : List D}, xs.all scalar = true → RepL cA av H xs (xs.map DL.val)
  | [], _ => .nil
  | x :: xs, hs => by
    rw [List.all_cons, Bool.and_eq_true] at hs
    exact .cons (.of_val hs.1) (RepL.of_vals hs.2)

/-- the top object avoids t, what it holds i -/
def RepT (cA : Kn) (t i : Addr → Prop) (H : Hp) : D → V → Prop
  | .lst xs, v => ∃ a vs, v = .ref a ∧ (t a → KL cA.K a vs) ∧ SqL cA.K H a vs ∧ RepL cA i H xs vs
  | .tup xs, v => ∃ a vs, v = .ref a ∧ ¬ t a ∧ H a = some (.tup vs) ∧ RepL cA i H xs vs
  | .obj c ks xs, v => ∃ a dx vs, v = .ref a ∧ ¬ t a ∧ H a = some (.ins (cA.c c) dx ((ks.map Str.ofString).zip vs)) ∧ ks.length = xs.length ∧ RepL cA i H xs vs
  | .dct ks xs, v => ∃ a vs, v = .ref a ∧ ¬ t a ∧ H a = some (.dK (ks.zip vs)) ∧ ks.length = xs.length ∧ RepL cA i H xs vs
  | d, v => v = DL.val d
theorem Rep.t {d : D} {v : V} (h : Rep cA av H d v) : RepT cA av av H d v := by
  cases d <;> first | exact h | (unfold Rep at h; exact h)
theorem RepT.r {d : D} {v : V} (h : RepT cA av av H d v) : Rep cA av H d v := by
  cases d <;> first | exact h | (unfold Rep; exact h)
theorem RepT.weak {t t' i i' : Addr → Prop} {d : D} {v : V} (ht : ∀ a, t' a → t a) (hi : ∀ a, i' a → i a) (h : RepT cA t i H d v) : RepT cA t' i' H d v := by
  cases d with
  | lst xs => obtain ⟨a, vs, e, n, r, l⟩ := h; exact ⟨a, vs, e, fun z => n (ht a z), r, l.av fun b z => .inl (hi b z)⟩
  | tup xs => obtain ⟨a, vs, e, n, r, l⟩ := h; exact ⟨a, vs, e, fun z => n (ht a z), r, l.av fun b z => .inl (hi b z)⟩
  | obj c ks xs => obtain ⟨a, dx, vs, e, n, r, z, l⟩ := h; exact ⟨a, dx, vs, e, fun z => n (ht a z), r, z, l.av fun b z => .inl (hi b z)⟩
  | dct ks xs => obtain ⟨a, vs, e, n, r, z, l⟩ := h; exact ⟨a, vs, e, fun z => n (ht a z), r, z, l.av fun b z => .inl (hi b z)⟩
  | _ => exact h
theorem RepT.same {t i : Addr → Prop} {d : D} {v : V} (k : Same H H') (h : RepT cA t i H d v) : RepT cA t i H' d v := by
  cases d with
  | lst xs => obtain ⟨a, vs, e, n, r, l⟩ := h; exact ⟨a, vs, e, n, k.seq r, l.same k⟩
  | tup xs => obtain ⟨a, vs, e, n, r, l⟩ := h; exact ⟨a, vs, e, n, k a _ r, l.same k⟩
  | obj c ks xs => obtain ⟨a, dx, vs, e, n, r, z, l⟩ := h; exact ⟨a, dx, vs, e, n, k a _ r, z, l.same k⟩
  | dct ks xs => obtain ⟨a, vs, e, n, r, z, l⟩ := h; exact ⟨a, vs, e, n, k a _ r, z, l.same k⟩
  | _ => exact h
end

abbrev Env := List (Option D)
/-- the classes' addresses; the names that keep their object -/
structure Cn where
  cA : Kn
  pin : Nat → Option (Addr ⊕ V)
/-- av, and what the def's own names hold alone -/
def AV (av : Addr → Prop) (A : Nat → Option Addr) (a : Addr) : Prop := av a ∨ ∃ i, A i = some a
/-- an object that is the name's alone -/
def Own (cA : Kn) (av : Addr → Prop) (H : Hp) : D → Addr → Prop
  | .lst xs, a => ∃ vs, H a = some (.lst vs) ∧ RepL cA av H xs vs
  | .obj c ks xs, a => ∃ dx vs, H a = some (.ins (cA.c c) dx ((ks.map Str.ofString).zip vs)) ∧ ks.length = xs.length ∧ RepL cA av H xs vs
  | .dct ks xs, a => ∃ vs, H a = some (.dK (ks.zip vs)) ∧ ks.length = xs.length ∧ RepL cA av H xs vs
  | _, _ => False
/-- the names' values hold the data; ow: the names that hold an object of their own -/
structure ER (G : Cn) (ow : List Nat) (H0 : Hp) (av : Addr → Prop) (A : Nat → Option Addr) (σ : St) (H : Hp) (δ : Env) : Prop where
  same : Same H0 H
  avd : ∀ a, av a → H0 a ≠ none
  fr : ∀ i a, A i = some a → H0 a = none
  inj : ∀ i j a, A i = some a → A j = some a → i = j
  live : ∀ i a, A i = some a → H a ≠ none
  dom : ∀ i, A i ≠ none → i ∈ ow
  dom' : ∀ i ∈ ow, A i ≠ none
  len : σ.length = δ.length
  pin : ∀ i a, G.2 i = some (.inl a) → A i = some a
  kept : ∀ i v, G.2 i = some (.inr v) → σ[i]? = some (some v)
  var : ∀ (i : Nat) (d : D), δ[i]? = some (some d) → ∃ v, σ[i]? = some (some v) ∧ (A i = none → Rep G.1 (AV av A) H d v) ∧ (∀ a, A i = some a → v = .ref a ∧ Own G.1 (AV av A) H d a)

/-- how much is known of a value: it avoids all that is owned (cl), its parts do (tp), nothing more (dt) -/
inductive Ql where
  | cl | tp | dt
def RepQ (cA : Kn) (av : Addr → Prop) (A : Nat → Option Addr) (H : Hp) : Ql → D → V → Prop
  | .cl, d, v => RepT cA (AV av A) (AV av A) H d v
  | .tp, d, v => RepT cA av (AV av A) H d v
  | .dt, d, v => RepT cA av av H d v
/-- of a part of it -/
def Ql.it : Ql → Ql
  | .dt => .dt
  | _ => .cl
section
variable {cA : Kn} {G : Cn} {ow : List Nat} {H0 H H' : Hp} {av : Addr → Prop} {A : Nat → Option Addr} {σ : St} {δ : Env}
theorem AV.l {a : Addr} (h : av a) : AV av A a := .inl h
def Ql.iv (q : Ql) (av : Addr → Prop) (A : Nat → Option Addr) : Addr → Prop := match q with
  | .dt => av
  | _ => AV av A
theorem RepQ.tp {q : Ql} {d : D} {v : V} (h : RepQ cA av A H q d v) : RepT cA av (q.iv av A) H d v := by
  cases q with
  | cl => exact h.weak (fun a => .inl) fun a z => z
  | tp => exact h
  | dt => exact h
theorem RepQ.any {q : Ql} {d : D} {v : V} (h : RepQ cA av A H q d v) : Rep cA av H d v := by
  cases q with
  | cl => exact (h.weak (fun a => .inl) fun a => .inl).r
  | tp => exact (h.weak (fun a z => z) fun a => .inl).r
  | dt => exact h.r
theorem RepQ.same {q : Ql} {d : D} {v : V} (k : Same H H') (h : RepQ cA av A H q d v) : RepQ cA av A H' q d v := by
  cases q <;> exact RepT.same k h
theorem ER.mono (E : ER G ow H0 av A σ H δ) (k : Same H H') : ER G ow H0 av A σ H' δ := by
  refine ⟨E.same.trans k, E.avd, E.fr, E.inj, fun i a e => ?_, E.dom, E.dom', E.len, E.pin, E.kept, fun i d e => ?_⟩
  · have := E.live i a e
    cases q : H a with
    | none => exact absurd q this
    | some o => rw [k a o q]; exact fun z => by cases z
  · obtain ⟨v, h1, h2, h3⟩ := E.var i d e
    refine ⟨v, h1, fun z => (h2 z).same k, fun a z => ⟨(h3 a z).1, ?_⟩⟩
    have := (h3 a z).2
    cases d with
    | lst xs => obtain ⟨vs, q1, q2⟩ := this; exact ⟨vs, k _ _ q1, q2.same k⟩
    | obj c ks xs => obtain ⟨dx, vs, q1, q0, q2⟩ := this; exact ⟨dx, vs, k _ _ q1, q0, q2.same k⟩
    | dct ks xs => obtain ⟨vs, q1, q0, q2⟩ := this; exact ⟨vs, k _ _ q1, q0, q2.same k⟩
    | _ => exact this
theorem ER.avl (E : ER G ow H0 av A σ H δ) : ∀ a, AV av A a → H a ≠ none := fun a h => by
  rcases h with h | ⟨i, h⟩
  · have := E.avd a h
    cases q : H0 a with
    | none => exact absurd q this
    | some o => rw [E.same a o q]; exact fun z => by cases z
  · exact E.live i a h
theorem ER.avH (E : ER G ow H0 av A σ H δ) : ∀ a, av a → H a ≠ none := fun a h => E.avl a (.inl h)
end

/-! ### what a reading tells of data -/
def VE (G : Cn) (ow : List Nat) (te : TE) (q : Ql) (ε : Env → Option D) : Prop :=
  ∀ H0 av A σ H δ, ER G ow H0 av A σ H δ → ∀ d, ε δ = some d → ∀ Q : VK, (∀ v H', Same H H' → RepQ G.1 av A H' q d v → Q v H') → te σ H Q
/-- a new list -/
def VF (G : Cn) (ow : List Nat) (te : TE) (ε : Env → Option D) : Prop :=
  ∀ H0 av A σ H δ, ER G ow H0 av A σ H δ → ∀ d, ε δ = some d → ∀ Q : VK, (∀ p vs xs H1, Same H H1 → H1 p = none → RepL G.1 (AV av A) H1 xs vs → d = .lst xs → Q (.ref p) (upd H1 p (.lst vs))) → te σ H Q
def VT (G : Cn) (ow : List Nat) (tt : TT) (τ : Env → Option Bool) : Prop :=
  ∀ H0 av A σ H δ, ER G ow H0 av A σ H δ → ∀ b, τ δ = some b → ∀ Q : Bool → Hp → Prop, (∀ H', Same H H' → Q b H') → tt σ H Q
def RepQL (cA : Kn) (av : Addr → Prop) (A : Nat → Option Addr) (H : Hp) (q : Ql) : List D → List V → Prop
  | [], vs => vs = []
  | x :: xs, vs => ∃ v r, vs = v :: r ∧ RepQ cA av A H q x v ∧ RepQL cA av A H q xs r
def VA (G : Cn) (ow : List Nat) (ta : TA) (q : Ql) (α : Env → Option (List D)) : Prop :=
  ∀ H0 av A σ H δ, ER G ow H0 av A σ H δ → ∀ ds, α δ = some ds → ∀ Q : List V → Hp → Prop, (∀ vs H', Same H H' → RepQL G.1 av A H' q ds vs → Q vs H') → ta σ H Q
section
variable {cA : Kn} {G : Cn} {ow : List Nat}
theorem RepQL.same {av : Addr → Prop} {A : Nat → Option Addr} {H H' : Hp} {q : Ql} (k : Same H H') : ∀ {xs : List D} {vs : List V}, RepQL cA av A H q xs vs → RepQL cA av A H' q xs vs
  | [], _, h => h
  | x :: xs, vs, h => by
    obtain ⟨v, r, e, h1, h2⟩ := h
    exact ⟨v, r, e, h1.same k, RepQL.same k h2⟩
theorem RepQL.cl {av : Addr → Prop} {A : Nat → Option Addr} {H : Hp} : ∀ {xs : List D} {vs : List V}, RepQL cA av A H .cl xs vs → RepL cA (AV av A) H xs vs
  | [], _, h => by unfold RepL; exact h
  | x :: xs, vs, h => by
    obtain ⟨v, r, e, h1, h2⟩ := h
    subst e
    exact .cons (RepT.r h1) (RepQL.cl h2)
theorem RepQL.any {av : Addr → Prop} {A : Nat → Option Addr} {H : Hp} {q : Ql} : ∀ {xs : List D} {vs : List V}, RepQL cA av A H q xs vs → RepL cA av H xs vs
  | [], _, h => by unfold RepL; exact h
  | x :: xs, vs, h => by
    obtain ⟨v, r, e, h1, h2⟩ := h
    subst e
    exact .cons h1.any (RepQL.any h2)
theorem same_upd {H : Hp} {p : Addr} {o : HO} (h : H p = none) : Same H (upd H p o) := same_new h
theorem VF.cl {te : TE} {ε : Env → Option D} (h : VF G ow te ε) : VE G ow te .cl ε := fun H0 av A σ H δ E d e Q k =>
  h H0 av A σ H δ E d e Q fun p vs xs H1 s hp l hd => by
    subst hd
    refine k _ _ (s.trans (same_upd hp)) ⟨p, vs, rfl, fun z => ((E.mono s).avl p z hp).elim, SqL.of upd_same, l.same (same_upd hp)⟩
/-- where what comes is a scalar -/
def eScal (ε : Env → Option D) (δ : Env) : Option D := match ε δ with
  | some d => if scalar d then some d else none
  | none => none
theorem VE.scal {te : TE} {q : Ql} {ε : Env → Option D} (h : VE G ow te q ε) : VE G ow te .cl (eScal ε) := fun H0 av A σ H δ E d e Q k => by
  unfold eScal at e
  cases he : ε δ with
  | none => rw [he] at e; cases e
  | some d' =>
    rw [he] at e
    by_cases hs : scalar d' = true
    · have e' : d' = d := by simpa [hs] using e
      subst e'
      exact h H0 av A σ H δ E d' he Q fun v H' s r => k v H' s (Rep.scal hs r.any).t
    · simp [hs] at e

/-! ### names, constants -/
def eVar (i : Nat) (δ : Env) : Option D := match δ[i]? with
  | some (some d) => some d
  | _ => none
theorem eVar_some {i : Nat} {δ : Env} {d : D} (h : eVar i δ = some d) : δ[i]? = some (some d) := by
  unfold eVar at h
  cases e : δ[i]? with
  | none => rw [e] at h; cases h
  | some o =>
    rw [e] at h
    cases o with
    | none => cases h
    | some x => exact congrArg (some ∘ some) (Option.some.inj h)
theorem ve_var (i : Nat) (hi : (ow.contains i) = false) : VE G ow (tVar i) .cl (eVar i) := fun H0 av A σ H δ E d e Q k => by
  obtain ⟨v, h1, h2, _⟩ := E.var i d (eVar_some e)
  have hn : A i = none := by
    cases q : A i with
    | none => rfl
    | some a =>
      have := E.dom i (by rw [q]; exact fun z => by cases z)
      simp at hi
      exact absurd this hi
  exact ⟨v, h1, k v H (Same.refl H) (h2 hn).t⟩
theorem ve_own (i : Nat) (hi : (ow.contains i) = true) : VE G ow (tVar i) .tp (eVar i) := fun H0 av A σ H δ E d e Q k => by
  obtain ⟨v, h1, _, h3⟩ := E.var i d (eVar_some e)
  have hi' : i ∈ ow := by simpa using hi
  cases q : A i with
  | none => exact absurd q (E.dom' i hi')
  | some a =>
    obtain ⟨rfl, o⟩ := h3 a q
    have na : ¬ av a := fun z => E.avd a z (E.fr i a q)
    refine ⟨_, h1, k _ H (Same.refl H) ?_⟩
    cases d with
    | lst xs => obtain ⟨vs, q1, q2⟩ := o; exact ⟨a, vs, rfl, fun z => (na z).elim, SqL.of q1, q2⟩
    | obj c ks xs => obtain ⟨dx, vs, q1, q0, q2⟩ := o; exact ⟨a, dx, vs, rfl, na, q1, q0, q2⟩
    | dct ks xs => obtain ⟨vs, q1, q0, q2⟩ := o; exact ⟨a, vs, rfl, na, q1, q0, q2⟩
    | _ => exact False.elim o
def eC (d : D) (_ : Env) : Option D := some d
theorem ve_c {v : V} {d : D} (hs : scalar d = true) (hv : v = val d) : VE G ow (tC v) .cl (eC d) := fun H0 av A σ H δ E d' e Q k => by
  have e' : d = d' := Option.some.inj e
  subst e' hv
  exact k _ H (Same.refl H) (Rep.of_val hs).t

/-! ### two in a row -/
def OpOk (cA : Kn) (r : R2) (f : D → D → Option D) : Prop :=
  ∀ (t t' i : Addr → Prop) (H : Hp) (x y : D) (vx vy : V) (d : D), (∀ a, i a → H a ≠ none) → RepT cA t i H x vx → RepT cA t' i H y vy → f x y = some d → ∀ Q : VK, (∀ v H', Same H H' → Rep cA i H' d v → Q v H') → r vx vy H Q
def eOp (f : D → D → Option D) (a b : Env → Option D) (δ : Env) : Option D := match a δ with
  | some x => match b δ with
    | some y => f x y
    | none => none
  | none => none
theorem eOp_some {f : D → D → Option D} {a b : Env → Option D} {δ : Env} {d : D} (h : eOp f a b δ = some d) : ∃ x y, a δ = some x ∧ b δ = some y ∧ f x y = some d := by
  unfold eOp at h
  cases ea : a δ with
  | none => rw [ea] at h; cases h
  | some x =>
    rw [ea] at h
    cases eb : b δ with
    | none => rw [eb] at h; cases h
    | some y => rw [eb] at h; exact ⟨x, y, rfl, rfl, h⟩
def Ql.jn : Ql → Ql → Ql
  | .dt, _ => .dt
  | _, .dt => .dt
  | _, _ => .cl
theorem ve_op {r : R2} {f : D → D → Option D} {ta tb : TE} {qa qb : Ql} {a b : Env → Option D} (hr : OpOk G.1 r f) (ha : VE G ow ta qa a) (hb : VE G ow tb qb b) : VE G ow (tOp r ta tb) (qa.jn qb) (eOp f a b) := fun H0 av A σ H δ E d e Q k => by
  obtain ⟨x, y, ex, ey, ed⟩ := eOp_some e
  refine ha H0 av A σ H δ E x ex _ fun vx H1 s1 r1 => hb H0 av A σ H1 δ (E.mono s1) y ey _ fun vy H2 s2 r2 => ?_
  have E2 := (E.mono s1).mono s2
  have r1' := (r1.same s2).tp
  have r2' := r2.tp
  have key : ∀ i : Addr → Prop, (∀ a, i a → H2 a ≠ none) → RepT G.1 av i H2 x vx → RepT G.1 av i H2 y vy → (∀ v H', Same H2 H' → Rep G.1 i H' d v → Q v H') → r vx vy H2 Q := fun i hi h1 h2 h3 => hr av av i H2 x y vx vy d hi h1 h2 ed Q h3
  have toav : ∀ {dd : D} {v : V}, RepT G.1 av (AV av A) H2 dd v → RepT G.1 av av H2 dd v := fun h => h.weak (fun a z => z) fun a => .inl
  cases qa with
  | dt =>
    refine key av E2.avH r1' ?_ fun v H' s3 r3 => k v H' ((s1.trans s2).trans s3) r3.t
    cases qb with
    | dt => exact r2'
    | cl => exact toav r2'
    | tp => exact toav r2'
  | cl =>
    cases qb with
    | dt => exact key av E2.avH (toav r1') r2' fun v H' s3 r3 => k v H' ((s1.trans s2).trans s3) r3.t
    | cl => exact key _ E2.avl r1' r2' fun v H' s3 r3 => k v H' ((s1.trans s2).trans s3) r3.t
    | tp => exact key _ E2.avl r1' r2' fun v H' s3 r3 => k v H' ((s1.trans s2).trans s3) r3.t
  | tp =>
    cases qb with
    | dt => exact key av E2.avH (toav r1') r2' fun v H' s3 r3 => k v H' ((s1.trans s2).trans s3) r3.t
    | cl => exact key _ E2.avl r1' r2' fun v H' s3 r3 => k v H' ((s1.trans s2).trans s3) r3.t
    | tp => exact key _ E2.avl r1' r2' fun v H' s3 r3 => k v H' ((s1.trans s2).trans s3) r3.t
end
end DL

namespace DL
open PySem PySem.Spec L2
/-! ### == -/
mutual
def toP : D → PyData
  | .non => .none
  | .bl b => .bool b
  | .int i => .int i
  | .str cs => .str (tx cs)
  | .lst xs => .list (toPs xs)
  | .tup xs => .tuple (toPs xs)
  | .obj _ _ _ => .dict []
  | .dct _ _ => .dict []
def toPs : List D → List PyData
  | [] => []
  | x :: xs => toP x :: toPs xs
end
section
variable {X : Cx} {cA : Kn}
mutual
theorem reads_of {pins : List (Addr × Obj)} {σ : L2.St} {H : Hp} {s : Shared} {av : Addr → Prop} (hK : cA.K = X.K) (I : Inv X pins σ H s) : ∀ (d : D) (v : V) (u : Value), PyData.canLay0 (toP d) = true → Rep cA av H d v → RelV v u → ∃ as, Reads s.heap u (toP d) as
  | .non, v, u, _, h, r => by
    cases (show v = .non from h); cases r
    exact ⟨_, .none⟩
  | .bl b, v, u, _, h, r => by
    cases (show v = .bl b from h); cases r
    exact ⟨_, .bool b⟩
  | .int i, v, u, _, h, r => by
    cases (show v = .int i from h)
    obtain ⟨t, rfl⟩ := r
    exact ⟨_, .int i t⟩
  | .str cs, v, u, _, h, r => by
    cases (show v = S cs from h)
    obtain ⟨t, rfl⟩ := r
    exact ⟨_, .str _ t⟩
  | .lst xs, v, u, c, h, r => by
    unfold Rep at h
    obtain ⟨a, vs, rfl, _, rd, l⟩ := h
    cases r
    obtain ⟨its, rv, ⟨ob, n, e, hc, hd, hs⟩, z⟩ := I.list (show SqL X.K H a vs from hK ▸ rd)
    obtain ⟨as, ra⟩ := readsL_of hK I xs vs its (by unfold toP PyData.canLay0 at c; exact c) l rv
    unfold toP
    exact ⟨_, .list e hc hs (by simpa using ra)⟩
  | .tup xs, v, u, c, h, r => by
    unfold Rep at h
    obtain ⟨a, vs, rfl, _, rd, l⟩ := h
    cases r
    obtain ⟨z, its, rv, ob, e, hc, n, hd⟩ := (show ObjOk X.prog X.w H s.heap a (.tup vs) from I.hok a _ rd)
    obtain ⟨as, ra⟩ := readsL_of hK I xs vs its (by unfold toP PyData.canLay0 at c; exact c) l rv
    unfold toP
    exact ⟨_, .tuple e hc hd (by simpa using ra)⟩
  | .obj c' ks xs, v, u, c, h, r => by
    unfold toP PyData.canLay0 at c
    cases c
  | .dct ks xs, v, u, c, h, r => by
    unfold toP PyData.canLay0 at c
    cases c
theorem readsL_of {pins : List (Addr × Obj)} {σ : L2.St} {H : Hp} {s : Shared} {av : Addr → Prop} (hK : cA.K = X.K) (I : Inv X pins σ H s) : ∀ (xs : List D) (vs : List V) (us : List Value), PyData.canLayAll0 (toPs xs) = true → RepL cA av H xs vs → Vals vs us → ∃ as, ReadsAll s.heap us (toPs xs) as
  | [], vs, us, _, h, r => by
    rw [h.nil_of] at r
    cases r
    exact ⟨_, .nil⟩
  | x :: xs, vs, us, c, h, r => by
    obtain ⟨v, rr, rfl, h1, h2⟩ := h.uncons
    cases r with
    | cons r1 r2 =>
      unfold toPs PyData.canLayAll0 at c
      rw [Bool.and_eq_true] at c
      obtain ⟨a1, q1⟩ := reads_of hK I x v _ c.1 h1 r1
      obtain ⟨a2, q2⟩ := readsL_of hK I xs rr _ c.2 h2 r2
      unfold toPs
      exact ⟨_, .cons q1 q2⟩
end
end
/-- == as data: scalars, lists and tuples -/
def eqD (x y : D) : Option D :=
  if scalar x && scalar y && scal (val x) (val y) then some (.bl (decide (val x = val y)))
  else if SeqAt.shaped (toP x) && SeqAt.shaped (toP y) then some (.bl (PyData.eqv (toP x) (toP y))) else none
def neD (x y : D) : Option D := match eqD x y with
  | some (.bl b) => some (.bl (!b))
  | _ => none
def rEqD (cA : Kn) (neg : Bool) : R2 := fun x y H Q => ∃ av av' dx dy b, Rep cA av H dx x ∧ Rep cA av' H dy y ∧ eqD dx dy = some (.bl b) ∧ Q (.bl (neg != b)) H
section
variable {X : Cx} {cA : Kn}
theorem op_eqD (hu : X.A.units + 64 < cLine) (hK : cA.K = X.K := by rfl) : OpR X (compareOp .Eq) (rEqD cA false) := by
  intro pins s σ H x y v u Q I rx ry h
  obtain ⟨av, av', dx, dy, b, hx, hy, e, q⟩ := h
  unfold eqD at e
  by_cases h1 : (scalar dx && scalar dy && scal (val dx) (val dy)) = true
  · rw [if_pos h1] at e
    simp only [Bool.and_eq_true] at h1
    obtain ⟨⟨s1, s2⟩, s3⟩ := h1
    have e1 := hx.val s1
    have e2 := hy.val s2
    subst e1 e2
    have e' : decide (val dx = val dy) = b := by simpa using e
    exact op_eq pins s σ H _ _ v u Q I rx ry ⟨s3, by rw [e']; simpa using q⟩
  · rw [if_neg h1] at e
    by_cases h2 : (SeqAt.shaped (toP dx) && SeqAt.shaped (toP dy)) = true
    · rw [if_pos h2] at e
      rw [Bool.and_eq_true] at h2
      obtain ⟨as, ra⟩ := reads_of hK I dx x v (SeqAt.canLay_of_shaped h2.1) hx rx
      obtain ⟨bs, rb⟩ := reads_of hK I dy y u (SeqAt.canLay_of_shaped h2.2) hy ry
      have e' : PyData.eqv (toP dx) (toP dy) = b := by simpa using e
      exact PyProof.Rows.eq_dataH ra rb h2.1 h2.2 hu (by rw [e']; exact ⟨.bl b, H, I, rfl, by simpa using q⟩)
    · rw [if_neg h2] at e
      cases e
theorem op_neD (hu : X.A.units + 64 < cLine) (hK : cA.K = X.K := by rfl) : OpR X (compareOp .NotEq) (rEqD cA true) := by
  intro pins s σ H x y v u Q I rx ry h
  obtain ⟨av, av', dx, dy, b, hx, hy, e, q⟩ := h
  unfold eqD at e
  by_cases h1 : (scalar dx && scalar dy && scal (val dx) (val dy)) = true
  · rw [if_pos h1] at e
    simp only [Bool.and_eq_true] at h1
    obtain ⟨⟨s1, s2⟩, s3⟩ := h1
    have e1 := hx.val s1
    have e2 := hy.val s2
    subst e1 e2
    have e' : decide (val dx = val dy) = b := by simpa using e
    exact op_ne pins s σ H _ _ v u Q I rx ry ⟨s3, by rw [e']; simpa using q⟩
  · rw [if_neg h1] at e
    by_cases h2 : (SeqAt.shaped (toP dx) && SeqAt.shaped (toP dy)) = true
    · rw [if_pos h2] at e
      rw [Bool.and_eq_true] at h2
      obtain ⟨as, ra⟩ := reads_of hK I dx x v (SeqAt.canLay_of_shaped h2.1) hx rx
      obtain ⟨bs, rb⟩ := reads_of hK I dy y u (SeqAt.canLay_of_shaped h2.2) hy ry
      have e' : PyData.eqv (toP dx) (toP dy) = b := by simpa using e
      exact PyProof.Rows.ne_dataH ra rb h2.1 h2.2 hu (by rw [e']; exact ⟨.bl (!b), H, I, rfl, by simpa using q⟩)
    · rw [if_neg h2] at e
      cases e
theorem RepT.av0 {t i : Addr → Prop} {H : Hp} {d : D} {v : V} (h : RepT cA t i H d v) : Rep cA (fun _ => False) H d v := (h.weak (fun _ z => z.elim) fun _ z => z.elim).r
theorem eqD_bl {x y d : D} (h : eqD x y = some d) : ∃ b, d = .bl b := by
  unfold eqD at h
  split at h
  · exact ⟨_, (Option.some.inj h).symm⟩
  · split at h
    · exact ⟨_, (Option.some.inj h).symm⟩
    · cases h
theorem ok_eq : OpOk cA (rEqD cA false) eqD := fun t t' i H x y vx vy d _ hx hy e Q k => by
  obtain ⟨b, rfl⟩ := eqD_bl e
  exact ⟨_, _, x, y, b, hx.av0, hy.av0, e, k _ H (Same.refl H) (by cases b <;> rfl)⟩
theorem ok_ne : OpOk cA (rEqD cA true) neD := fun t t' i H x y vx vy d _ hx hy e Q k => by
  unfold neD at e
  cases he : eqD x y with
  | none => rw [he] at e; cases e
  | some z =>
    obtain ⟨b, rfl⟩ := eqD_bl he
    rw [he] at e
    have e' : D.bl (!b) = d := Option.some.inj e
    subst e'
    exact ⟨_, _, x, y, b, hx.av0, hy.av0, he, k _ H (Same.refl H) (by cases b <;> rfl)⟩

/-! ### arithmetic -/
/-- x * n -/
def mulL (x : List Nat) (n : Int) : List Nat := (List.replicate n.toNat x).flatten
theorem foldl_app (x : List Nat) : ∀ (k : Nat) (acc : Array Nat), (List.replicate k x.toArray).foldl (· ++ ·) acc = acc ++ (List.replicate k x).flatten.toArray
  | 0, acc => by simp
  | k + 1, acc => by
    rw [List.replicate_succ, List.replicate_succ, List.foldl_cons, foldl_app x k, List.flatten_cons]
    simp
theorem mul_tx (x : List Nat) (n : Int) : Txt.mul (tx x) n = tx (mulL x n) := by
  unfold Txt.mul mulL
  by_cases h1 : n < 1
  · rw [if_pos h1]
    have : n.toNat = 0 := by omega
    rw [this]
    rfl
  · rw [if_neg h1]
    by_cases h2 : (n == 1 || (tx x).length == 0) = true
    · rw [if_pos h2]
      rw [Bool.or_eq_true] at h2
      rcases h2 with h2 | h2
      · have : n = 1 := by simpa using h2
        subst this
        simp
      · have : x = [] := by
          have : (tx x).length = 0 := by simpa using h2
          rw [tx_len] at this
          exact List.eq_nil_of_length_eq_zero this
        subst this
        simp
    · rw [if_neg h2]
      have := foldl_app x n.toNat #[]
      rw [this]
      simp
def rMulS : R2 := fun x y H Q => ∃ a n, x = S a ∧ y = .int n ∧ (n < 2 ^ 63 ∧ -(2 ^ 63) ≤ n ∧ a.length * n.toNat ≤ sizeLine) ∧ Q (S (mulL a n)) H
theorem op_mulS : OpR X (binaryOp .Mult) rMulS := by
  intro pins s σ H x y v u Q I rx ry h
  obtain ⟨a, n, rfl, rfl, ⟨h1, h2, h3⟩, q⟩ := h
  obtain ⟨t, rfl⟩ := rx
  obtain ⟨t', rfl⟩ := ry
  refine SB.mul ⟨?_, fun hn hc => ?_, fun hn hc => ?_⟩ fun t' k => ⟨S (mulL a n), H, I.tok _, ⟨_, by rw [mul_tx]⟩, q⟩
  · have e1 : decide (n < -(2 ^ 63 : Int)) = false := decide_eq_false (by omega)
    have e2 : decide (n ≥ 2 ^ 63) = false := decide_eq_false (by omega)
    rw [e1, e2]; rfl
  · rw [tx_len]
    have hs : sizeLine = 16777216 := sizeLine_eq
    intro hgt
    have h5 : (a.length : Int) * n ≤ 16777216 := by
      have : (a.length : Int) * n = ((a.length * n.toNat : Nat) : Int) := by
        rw [Int.natCast_mul, Int.toNat_of_nonneg (by omega)]
      rw [this]; omega
    have h6 : (2 ^ 63 - 1) / n < (a.length : Int) := hgt
    have h7 : (2 ^ 63 - 1 : Int) < (a.length : Int) * n := by
      have := Int.lt_mul_of_ediv_lt (show (0 : Int) < n by omega) h6
      rw [Int.mul_comm]; rw [Int.mul_comm] at this; exact this
    omega
  · rw [tx_len]
    show decide (a.length * n.toNat > sizeLine) = false
    exact decide_eq_false (by omega)
def rMulX : R2 := fun x y H Q => rI CMul (fun i j => .int (i * j)) x y H Q ∨ rMulS x y H Q
instance (i j : Int) : Decidable (CMul i j) := by unfold CMul; infer_instance
instance (i j : Int) : Decidable (CDiv i j) := by unfold CDiv; infer_instance
def addD : D → D → Option D
  | .int i, .int j => some (.int (i + j))
  | .str a, .str b => if a.length + b.length ≤ sizeLine then some (.str (a ++ b)) else none
  | _, _ => none
def subD : D → D → Option D
  | .int i, .int j => some (.int (i - j))
  | _, _ => none
def mulD : D → D → Option D
  | .int i, .int j => if CMul i j then some (.int (i * j)) else none
  | .str a, .int n => if n < 2 ^ 63 ∧ -(2 ^ 63) ≤ n ∧ a.length * n.toNat ≤ sizeLine then some (.str (mulL a n)) else none
  | _, _ => none
def fdivD : D → D → Option D
  | .int i, .int j => if CDiv i j then some (.int (i / j)) else none
  | _, _ => none
def modD : D → D → Option D
  | .int i, .int j => if 0 < j then some (.int (i % j)) else none
  | _, _ => none
def cmpD (p : Int → Int → Bool) : D → D → Option D
  | .int i, .int j => some (.bl (p i j))
  | _, _ => none
theorem ok_add : OpOk cA rAddX addD := fun t t' i H x y vx vy d _ hx hy e Q k => by
  cases x <;> cases y <;> first | (cases e; done) | skip
  · cases (show vx = _ from hx); cases (show vy = _ from hy)
    cases e
    exact .inl ⟨_, _, rfl, rfl, k _ H (Same.refl H) rfl⟩
  · cases (show vx = _ from hx); cases (show vy = _ from hy)
    rename_i a b
    dsimp only [addD] at e
    by_cases hz : a.length + b.length ≤ sizeLine
    · rw [if_pos hz] at e
      cases e
      exact .inr (.inl ⟨_, _, rfl, rfl, hz, k _ H (Same.refl H) rfl⟩)
    · rw [if_neg hz] at e; cases e
theorem ok_sub : OpOk cA (rI0 fun i j => .int (i - j)) subD := fun t t' i H x y vx vy d _ hx hy e Q k => by
  cases x <;> cases y <;> first | (cases e; done) | skip
  cases (show vx = _ from hx); cases (show vy = _ from hy)
  cases e
  exact ⟨_, _, rfl, rfl, k _ H (Same.refl H) rfl⟩
theorem ok_cmp {p : Int → Int → Bool} : OpOk cA (rI0 fun i j => .bl (p i j)) (cmpD p) := fun t t' i H x y vx vy d _ hx hy e Q k => by
  cases x <;> cases y <;> first | (cases e; done) | skip
  cases (show vx = _ from hx); cases (show vy = _ from hy)
  cases e
  exact ⟨_, _, rfl, rfl, k _ H (Same.refl H) rfl⟩
/-! ### in -/
def inD (neg : Bool) : D → D → Option D
  | .str [c], .str b => some (.bl (neg != decide (c ∈ b)))
  | x, .lst ys => if scalar x && ys.all scalar then some (.bl (if neg then !(inV (val x) (ys.map val)) else inV (val x) (ys.map val))) else none
  | x, .tup ys => if scalar x && ys.all scalar then some (.bl (if neg then !(inV (val x) (ys.map val)) else inV (val x) (ys.map val))) else none
  | _, _ => none
theorem flat_val {d : D} : scalar d = true → flatV (val d) = true := by
  intro h
  cases d <;> first | rfl | cases h
theorem flat_vals : ∀ {xs : List D}, xs.all scalar = true → (xs.map val).all flatV = true
  | [], _ => rfl
  | x :: xs, h => by
    rw [List.all_cons, Bool.and_eq_true] at h
    rw [List.map_cons, List.all_cons, flat_val h.1, flat_vals h.2]
    rfl
theorem rep_val {t i : Addr → Prop} {H : Hp} {d : D} {v : V} (hs : scalar d = true) (h : RepT cA t i H d v) : v = val d := by
  cases d <;> first | exact h | cases hs
theorem ok_in {neg : Bool} : OpOk cA (rInX cA.K neg) (inD neg) := fun t t' i H x y vx vy d _ hx hy e Q k => by
  have seq : ∀ ys, (y = .lst ys ∨ y = .tup ys) → (if scalar x && ys.all scalar then some (D.bl (if neg then !(inV (val x) (ys.map val)) else inV (val x) (ys.map val))) else none) = some d → rInX cA.K neg vx vy H Q := fun ys hy' e => by
    by_cases hz : (scalar x && ys.all scalar) = true
    · rw [if_pos hz] at e
      rw [Bool.and_eq_true] at hz
      have ex := rep_val hz.1 hx
      subst ex
      cases e
      rcases hy' with rfl | rfl
      · obtain ⟨a, vs, rfl, _, rd, l⟩ := hy
        have ev := l.vals hz.2
        subst ev
        exact .inr ⟨a, _, rfl, .inl rd, flat_val hz.1, flat_vals hz.2, k _ H (Same.refl H) rfl⟩
      · obtain ⟨a, vs, rfl, _, rd, l⟩ := hy
        have ev := l.vals hz.2
        subst ev
        exact .inr ⟨a, _, rfl, .inr (SqT.of rd), flat_val hz.1, flat_vals hz.2, k _ H (Same.refl H) rfl⟩
    · rw [if_neg hz] at e; cases e
  cases y with
  | lst ys => exact seq ys (.inl rfl) (by cases x <;> first | exact e | (rename_i cs; cases cs <;> first | exact e | (rename_i c r; cases r <;> exact e)))
  | tup ys => exact seq ys (.inr rfl) (by cases x <;> first | exact e | (rename_i cs; cases cs <;> first | exact e | (rename_i c r; cases r <;> exact e)))
  | str b =>
    cases x with
    | str cs =>
      cases cs with
      | nil => cases e
      | cons c r =>
        cases r with
        | cons _ _ => cases e
        | nil =>
          cases (show vx = _ from hx); cases (show vy = _ from hy)
          cases e
          exact .inl ⟨c, b, rfl, rfl, k _ H (Same.refl H) rfl⟩
    | _ => cases e
  | _ => cases x <;> first | (cases e; done) | (rename_i cs; cases cs <;> first | (cases e; done) | (rename_i c r; cases r <;> cases e))
/-! ### x[i] -/
def ixD : D → D → Option D
  | .lst xs, .int i => atI xs i
  | .tup xs, .int i => atI xs i
  | .str cs, .int i => if cs.length ≤ sizeLine then (atI cs i).map fun c => .str [c] else none
  | _, _ => none
theorem atI_rep {av : Addr → Prop} {H : Hp} {xs : List D} {vs : List V} {i : Int} {d : D} (l : RepL cA av H xs vs) (h : atI xs i = some d) : ∃ v, atI vs i = some v ∧ Rep cA av H d v := by
  unfold atI at h ⊢
  rw [l.length] at h
  cases e : ixN vs.length i with
  | none => rw [e] at h; cases h
  | some j =>
    rw [e] at h
    exact l.get h
theorem ok_ix : OpOk cA (rIxX cA.K) ixD := fun t t' i H x y vx vy d _ hx hy e Q k => by
  cases y <;> first | (cases x <;> cases e; done) | skip
  rename_i j
  cases (show vy = _ from hy)
  cases x <;> first | (cases e; done) | skip
  · cases (show vx = _ from hx)
    rename_i cs
    dsimp only [ixD] at e
    by_cases hz : cs.length ≤ sizeLine
    · rw [if_pos hz] at e
      cases ea : atI cs j with
      | none => rw [ea] at e; cases e
      | some c =>
        rw [ea] at e
        cases e
        exact .inr (.inr ⟨cs, j, c, rfl, rfl, hz, ea, k _ H (Same.refl H) rfl⟩)
    · rw [if_neg hz] at e; cases e
  · obtain ⟨a, vs, rfl, _, rd, l⟩ := hx
    obtain ⟨v, h1, h2⟩ := atI_rep l e
    exact .inl ⟨a, vs, j, v, rfl, rfl, rd, h1, k v H (Same.refl H) h2⟩
  · obtain ⟨a, vs, rfl, _, rd, l⟩ := hx
    obtain ⟨v, h1, h2⟩ := atI_rep l e
    exact .inr (.inl ⟨a, vs, j, v, rfl, rfl, SqT.of rd, h1, k v H (Same.refl H) h2⟩)
end
end DL

namespace DL
open PySem PySem.Spec L2
section
variable {cA : Kn} {G : Cn} {ow : List Nat}
/-! ### tests -/
def bD : Option D → Option Bool
  | some (.bl b) => some b
  | _ => none
theorem bD_some {o : Option D} {b : Bool} (h : bD o = some b) : o = some (.bl b) := by
  cases o with
  | none => cases h
  | some d => cases d <;> first | (cases h; rfl) | cases h
def xB (ε : Env → Option D) (δ : Env) : Option Bool := bD (ε δ)
theorem vt_b {te : TE} {q : Ql} {ε : Env → Option D} (h : VE G ow te q ε) : VT G ow (tB te) (xB ε) := fun H0 av A σ H δ E b e Q k =>
  h H0 av A σ H δ E _ (bD_some e) _ fun v H' s r => ⟨b, by cases q <;> exact r, k H' s⟩
theorem vt_t {te : TE} {q : Ql} {ε : Env → Option D} (h : VE G ow te q ε) : VT G ow (tTest te) (xB ε) := fun H0 av A σ H δ E b e Q k =>
  h H0 av A σ H δ E _ (bD_some e) _ fun v H' s r => ⟨b, by cases q <;> exact r, k H' s⟩
def xNot (τ : Env → Option Bool) (δ : Env) : Option Bool := match τ δ with
  | some b => some (!b)
  | none => none
theorem vt_not {t : TT} {τ : Env → Option Bool} (h : VT G ow t τ) : VT G ow (tNot t) (xNot τ) := fun H0 av A σ H δ E b e Q k => by
  unfold xNot at e
  cases he : τ δ with
  | none => rw [he] at e; cases e
  | some c =>
    rw [he] at e
    cases e
    exact h H0 av A σ H δ E c he _ fun H' s => k H' s
def xAnd (τ υ : Env → Option Bool) (δ : Env) : Option Bool := match τ δ with
  | some true => υ δ
  | some false => some false
  | none => none
def xOr (τ υ : Env → Option Bool) (δ : Env) : Option Bool := match τ δ with
  | some true => some true
  | some false => υ δ
  | none => none
theorem vt_and {t u : TT} {τ υ : Env → Option Bool} (h : VT G ow t τ) (h' : VT G ow u υ) : VT G ow (tAnd t u) (xAnd τ υ) := fun H0 av A σ H δ E b e Q k => by
  unfold xAnd at e
  cases he : τ δ with
  | none => rw [he] at e; cases e
  | some c =>
    rw [he] at e
    refine h H0 av A σ H δ E c he _ fun H' s => ?_
    cases c with
    | true => exact iteT (h' H0 av A σ H' δ (E.mono s) b e _ fun H2 s2 => k H2 (s.trans s2))
    | false => cases e; exact iteF (k H' s)
theorem vt_or {t u : TT} {τ υ : Env → Option Bool} (h : VT G ow t τ) (h' : VT G ow u υ) : VT G ow (tOr t u) (xOr τ υ) := fun H0 av A σ H δ E b e Q k => by
  unfold xOr at e
  cases he : τ δ with
  | none => rw [he] at e; cases e
  | some c =>
    rw [he] at e
    refine h H0 av A σ H δ E c he _ fun H' s => ?_
    cases c with
    | true => cases e; exact iteT (k H' s)
    | false => exact iteF (h' H0 av A σ H' δ (E.mono s) b e _ fun H2 s2 => k H2 (s.trans s2))
theorem vt_yes : VT G ow tYes (fun _ => some true) := fun H0 av A σ H δ E b e Q k => by
  cases e
  exact k H (Same.refl H)
/-! ### bools as values -/
theorem blq {av : Addr → Prop} {A : Nat → Option Addr} {H : Hp} {q : Ql} {b : Bool} : RepQ cA av A H q (.bl b) (.bl b) := by cases q <;> exact rfl
theorem qbl {av : Addr → Prop} {A : Nat → Option Addr} {H : Hp} {q : Ql} {b : Bool} {v : V} (h : RepQ cA av A H q (.bl b) v) : v = .bl b := by cases q <;> exact h
def eAnd (a b : Env → Option D) (δ : Env) : Option D := match a δ with
  | some (.bl true) => b δ
  | some (.bl false) => some (.bl false)
  | _ => none
def eOr (a b : Env → Option D) (δ : Env) : Option D := match a δ with
  | some (.bl true) => some (.bl true)
  | some (.bl false) => b δ
  | _ => none
def eNot (a : Env → Option D) (δ : Env) : Option D := match a δ with
  | some (.bl b) => some (.bl (!b))
  | _ => none
theorem ve_and {ta tb : TE} {qa qb : Ql} {a b : Env → Option D} (ha : VE G ow ta qa a) (hb : VE G ow tb qb b) : VE G ow (tAndV ta tb) qb (eAnd a b) := fun H0 av A σ H δ E d e Q k => by
  unfold eAnd at e
  cases he : a δ with
  | none => rw [he] at e; cases e
  | some x =>
    rw [he] at e
    cases x <;> first | (cases e; done) | skip
    rename_i c
    refine ha H0 av A σ H δ E _ he _ fun v H' s r => ⟨c, qbl r, ?_⟩
    cases c with
    | true => exact iteT (hb H0 av A σ H' δ (E.mono s) d e _ fun v2 H2 s2 r2 => k v2 H2 (s.trans s2) r2)
    | false => cases e; exact iteF (k _ H' s blq)
def eIf (τ : Env → Option Bool) (a b : Env → Option D) (δ : Env) : Option D := match τ δ with
  | some true => a δ
  | some false => b δ
  | none => none
def isNon : D → Bool
  | .non => true
  | _ => false
theorem non_iff {av : Addr → Prop} {H : Hp} {d : D} {v : V} (h : Rep cA av H d v) : decide (v = .non) = isNon d := by
  cases d with
  | non => cases (show v = _ from h); rfl
  | bl b => cases (show v = _ from h); rfl
  | int i => cases (show v = _ from h); rfl
  | str cs => cases (show v = _ from h); rfl
  | lst xs => unfold Rep at h; obtain ⟨a, vs, rfl, _⟩ := h; rfl
  | tup xs => unfold Rep at h; obtain ⟨a, vs, rfl, _⟩ := h; rfl
  | obj c ks xs => unfold Rep at h; obtain ⟨a, dx, vs, rfl, _⟩ := h; rfl
  | dct ks xs => unfold Rep at h; obtain ⟨a, vs, rfl, _⟩ := h; rfl
def eIsN (a : Env → Option D) (δ : Env) : Option D := match a δ with
  | some d => some (.bl (isNon d))
  | none => none
def eNotN (a : Env → Option D) (δ : Env) : Option D := match a δ with
  | some d => some (.bl (!isNon d))
  | none => none
theorem ve_isN {ta : TE} {qa : Ql} {a : Env → Option D} (ha : VE G ow ta qa a) : VE G ow (tIsN ta) .cl (eIsN a) := fun H0 av A σ H δ E d e Q k => by
  unfold eIsN at e
  cases he : a δ with
  | none => rw [he] at e; cases e
  | some x =>
    rw [he] at e
    cases e
    refine ha H0 av A σ H δ E _ he _ fun v H' s r => ?_
    rw [non_iff r.any]
    exact k _ H' s blq
theorem ve_notN {ta : TE} {qa : Ql} {a : Env → Option D} (ha : VE G ow ta qa a) : VE G ow (tNotN ta) .cl (eNotN a) := fun H0 av A σ H δ E d e Q k => by
  unfold eNotN at e
  cases he : a δ with
  | none => rw [he] at e; cases e
  | some x =>
    rw [he] at e
    cases e
    refine ha H0 av A σ H δ E _ he _ fun v H' s r => ?_
    rw [non_iff r.any]
    exact k _ H' s blq
/-- a op b op' c -/
def eChain (f g : D → D → Option D) (a b c : Env → Option D) (δ : Env) : Option D := match eOp f a b δ with
  | some (.bl true) => eOp g b c δ
  | some (.bl false) => some (.bl false)
  | _ => none
def negD : D → Option D
  | .int i => some (.int (-i))
  | _ => none
def eUn (f : D → Option D) (a : Env → Option D) (δ : Env) : Option D := match a δ with
  | some x => f x
  | none => none
theorem ve_neg {ta : TE} {qa : Ql} {a : Env → Option D} (ha : VE G ow ta qa a) : VE G ow (tUn (rU fun i => .int (-i)) ta) .cl (eUn negD a) := fun H0 av A σ H δ E d e Q k => by
  unfold eUn at e
  cases he : a δ with
  | none => rw [he] at e; cases e
  | some x =>
    rw [he] at e
    cases x <;> first | (cases e; done) | skip
    cases e
    refine ha H0 av A σ H δ E _ he _ fun v H' s r => ?_
    have e1 := r.any
    exact ⟨_, e1, k _ H' s rfl⟩
/-! ### argument lists, displays -/
def eNil (_ : Env) : Option (List D) := some []
def eCons (a : Env → Option D) (r : Env → Option (List D)) (δ : Env) : Option (List D) := match a δ with
  | some x => match r δ with
    | some xs => some (x :: xs)
    | none => none
  | none => none
theorem va_nil {q : Ql} : VA G ow tNil q eNil := fun H0 av A σ H δ E ds e Q k => by
  cases e
  exact k [] H (Same.refl H) rfl
theorem va_cons {te : TE} {ta : TA} {q : Ql} {a : Env → Option D} {r : Env → Option (List D)} (ha : VE G ow te q a) (hr : VA G ow ta q r) : VA G ow (tCons te ta) q (eCons a r) := fun H0 av A σ H δ E ds e Q k => by
  unfold eCons at e
  cases he : a δ with
  | none => rw [he] at e; cases e
  | some x =>
    rw [he] at e
    cases hr' : r δ with
    | none => rw [hr'] at e; cases e
    | some xs =>
      rw [hr'] at e
      cases e
      exact ha H0 av A σ H δ E x he _ fun v H1 s1 r1 => hr H0 av A σ H1 δ (E.mono s1) xs hr' _ fun vs H2 s2 r2 => k _ H2 (s1.trans s2) ⟨v, vs, rfl, r1.same s2, r2⟩
theorem RepQL.length {av : Addr → Prop} {A : Nat → Option Addr} {H : Hp} {q : Ql} {xs : List D} {vs : List V} (h : RepQL cA av A H q xs vs) : xs.length = vs.length := h.any.length
def eLst (α : Env → Option (List D)) (δ : Env) : Option D := match α δ with
  | some xs => if xs.length ≤ sizeLine then some (.lst xs) else none
  | none => none
theorem vf_lst {t : TA} {α : Env → Option (List D)} (h : VA G ow t .cl α) : VF G ow (tLst t) (eLst α) := fun H0 av A σ H δ E d e Q k => by
  unfold eLst at e
  cases he : α δ with
  | none => rw [he] at e; cases e
  | some xs =>
    rw [he] at e
    by_cases hz : xs.length ≤ sizeLine
    · have e' : D.lst xs = d := by simpa [hz] using e
      exact h H0 av A σ H δ E xs he _ fun vs H1 s1 r1 => ⟨by rw [← r1.length]; exact hz, fun p hp => k p vs xs H1 s1 hp r1.cl e'.symm⟩
    · simp [hz] at e
def eTup (α : Env → Option (List D)) (δ : Env) : Option D := match α δ with
  | some xs => if xs.length ≤ sizeLine then some (.tup xs) else none
  | none => none
theorem ve_tup {t : TA} {α : Env → Option (List D)} (h : VA G ow t .cl α) : VE G ow (tTup t) .cl (eTup α) := fun H0 av A σ H δ E d e Q k => by
  unfold eTup at e
  cases he : α δ with
  | none => rw [he] at e; cases e
  | some xs =>
    rw [he] at e
    by_cases hz : xs.length ≤ sizeLine
    · have e' : D.tup xs = d := by simpa [hz] using e
      subst e'
      refine h H0 av A σ H δ E xs he _ fun vs H1 s1 r1 => ⟨by rw [← r1.length]; exact hz, fun p hp => k _ _ (s1.trans (same_upd hp)) ⟨p, vs, rfl, fun z => (E.mono s1).avl p z hp, upd_same, r1.cl.same (same_upd hp)⟩⟩
    · simp [hz] at e
/-! ### calls of built-ins -/
def RepIL (cA : Kn) (i : Addr → Prop) (H : Hp) : List D → List V → Prop
  | [], vs => vs = []
  | x :: xs, vs => ∃ v r, vs = v :: r ∧ (∃ t, RepT cA t i H x v) ∧ RepIL cA i H xs r
theorem RepQL.il {av : Addr → Prop} {A : Nat → Option Addr} {H : Hp} {q : Ql} : ∀ {xs : List D} {vs : List V}, RepQL cA av A H q xs vs → RepIL cA (q.iv av A) H xs vs
  | [], _, h => h
  | x :: xs, vs, h => by
    obtain ⟨v, r, e, h1, h2⟩ := h
    exact ⟨v, r, e, ⟨_, h1.tp⟩, RepQL.il h2⟩
def CbOk (cA : Kn) (r : List V → Hp → VK → Prop) (f : List D → Option D) : Prop :=
  ∀ (i : Addr → Prop) (H : Hp) (ds : List D) (vs : List V) (d : D), (∀ a, i a → H a ≠ none) → RepIL cA i H ds vs → f ds = some d → ∀ Q : VK, (∀ v H', Same H H' → Rep cA i H' d v → Q v H') → r vs H Q
def eCB (f : List D → Option D) (α : Env → Option (List D)) (δ : Env) : Option D := match α δ with
  | some ds => f ds
  | none => none
theorem ve_cb {r : List V → Hp → VK → Prop} {f : List D → Option D} {t : TA} {q : Ql} {α : Env → Option (List D)} (hr : CbOk G.1 r f) (h : VA G ow t q α) : VE G ow (tCB r t) q.it (eCB f α) := fun H0 av A σ H δ E d e Q k => by
  unfold eCB at e
  cases he : α δ with
  | none => rw [he] at e; cases e
  | some ds =>
    rw [he] at e
    refine h H0 av A σ H δ E ds he _ fun vs H1 s1 r1 => ?_
    have E1 := E.mono s1
    cases q with
    | cl => exact hr _ H1 ds vs d E1.avl r1.il e _ fun v H' s r => k v H' (s1.trans s) r.t
    | tp => exact hr _ H1 ds vs d E1.avl r1.il e _ fun v H' s r => k v H' (s1.trans s) r.t
    | dt => exact hr _ H1 ds vs d E1.avH r1.il e _ fun v H' s r => k v H' (s1.trans s) r.t
theorem il1 {i : Addr → Prop} {H : Hp} {x : D} {vs : List V} (h : RepIL cA i H [x] vs) : ∃ v t, vs = [v] ∧ RepT cA t i H x v := by
  obtain ⟨v, r, rfl, ⟨t, h1⟩, h2⟩ := h
  cases (show r = [] from h2)
  exact ⟨v, t, rfl, h1⟩
theorem il2 {i : Addr → Prop} {H : Hp} {x y : D} {vs : List V} (h : RepIL cA i H [x, y] vs) : ∃ v u t t', vs = [v, u] ∧ RepT cA t i H x v ∧ RepT cA t' i H y u := by
  obtain ⟨v, r, rfl, ⟨t, h1⟩, u, r', rfl, ⟨t', h2⟩, h3⟩ := h
  cases (show r' = [] from h3)
  exact ⟨v, u, t, t', rfl, h1, h2⟩
def lenD : List D → Option D
  | [.str a] => if a.length ≤ sizeLine then some (.int a.length) else none
  | [.lst xs] => some (.int xs.length)
  | [.tup xs] => some (.int xs.length)
  | _ => none
theorem cb_len : CbOk cA (rLenX cA.K) lenD := fun i H ds vs d _ h e Q k => by
  cases ds with
  | nil => cases e
  | cons x r =>
    cases r with
    | cons _ _ => cases x <;> cases e
    | nil =>
      obtain ⟨v, t, rfl, hx⟩ := il1 h
      cases x <;> first | (cases e; done) | skip
      · rename_i a
        dsimp only [lenD] at e
        by_cases hz : a.length ≤ sizeLine
        · rw [if_pos hz] at e
          cases e
          exact .inl ⟨a, by rw [show v = S a from hx], hz, k _ H (Same.refl H) rfl⟩
        · rw [if_neg hz] at e; cases e
      · obtain ⟨a, ws, rfl, _, rd, l⟩ := hx
        cases e
        exact .inr ⟨a, ws, rfl, .inl rd, k _ H (Same.refl H) (by rw [l.length]; rfl)⟩
      · obtain ⟨a, ws, rfl, _, rd, l⟩ := hx
        cases e
        exact .inr ⟨a, ws, rfl, .inr (SqT.of rd), k _ H (Same.refl H) (by rw [l.length]; rfl)⟩
def minD : List D → Option D
  | [.int i, .int j] => some (.int (if j < i then j else i))
  | _ => none
def maxD : List D → Option D
  | [.int i, .int j] => some (.int (if j > i then j else i))
  | _ => none
theorem minD_of {ds : List D} {d : D} (e : minD ds = some d) : ∃ i j, ds = [.int i, .int j] ∧ d = .int (if j < i then j else i) := by
  unfold minD at e
  split at e
  · exact ⟨_, _, rfl, (Option.some.inj e).symm⟩
  · cases e
theorem maxD_of {ds : List D} {d : D} (e : maxD ds = some d) : ∃ i j, ds = [.int i, .int j] ∧ d = .int (if j > i then j else i) := by
  unfold maxD at e
  split at e
  · exact ⟨_, _, rfl, (Option.some.inj e).symm⟩
  · cases e
theorem cb_min : CbOk cA (fun xs H Q => ∃ i j, xs = [.int i, .int j] ∧ Q (.int (if j < i then j else i)) H) minD := fun i H ds vs d _ h e Q k => by
  obtain ⟨a, b, rfl, rfl⟩ := minD_of e
  obtain ⟨v, u, t, t', rfl, h1, h2⟩ := il2 h
  cases (show v = _ from h1); cases (show u = _ from h2)
  exact ⟨a, b, rfl, k _ H (Same.refl H) rfl⟩
theorem cb_max : CbOk cA (fun xs H Q => ∃ i j, xs = [.int i, .int j] ∧ Q (.int (if j > i then j else i)) H) maxD := fun i H ds vs d _ h e Q k => by
  obtain ⟨a, b, rfl, rfl⟩ := maxD_of e
  obtain ⟨v, u, t, t', rfl, h1, h2⟩ := il2 h
  cases (show v = _ from h1); cases (show u = _ from h2)
  exact ⟨a, b, rfl, k _ H (Same.refl H) rfl⟩
/-- all, any of a list of bools -/
def bools : List D → Option (List Bool)
  | [] => some []
  | .bl b :: r => match bools r with
    | some bs => some (b :: bs)
    | none => none
  | _ => none
def allD (f : List Bool → Bool) : List D → Option D
  | [.lst xs] => match bools xs with
    | some bs => some (.bl (f bs))
    | none => none
  | _ => none
def intD : List D → Option D
  | [.str a] => if a.length ≤ 640 ∧ a ≠ [] ∧ a.all figB = true then some (.int (valL a : Nat)) else none
  | [.bl b] => some (.int (if b then 1 else 0))
  | _ => none
def strD : List D → Option D
  | [.int n] => if 0 ≤ n ∧ n < 10 ^ 10 then some (.str (figs n.toNat)) else none
  | _ => none
def tupleD : List D → Option D
  | [.lst xs] => some (.tup xs)
  | [.tup xs] => some (.tup xs)
  | _ => none
/-- list(x): a new list -/
def listD : List D → Option D
  | [.lst xs] => some (.lst xs)
  | [.tup xs] => some (.lst xs)
  | _ => none
theorem ve_tuple {t : TA} {α : Env → Option (List D)} (h : VA G ow t .cl α) : VE G ow (tCB (rTupOf G.1.K) t) .cl (eCB tupleD α) := fun H0 av A σ H δ E d e Q k => by
  unfold eCB at e
  cases he : α δ with
  | none => rw [he] at e; cases e
  | some ds =>
    rw [he] at e
    refine h H0 av A σ H δ E ds he _ fun vs H1 s1 r1 => ?_
    have E1 := E.mono s1
    have e : tupleD ds = some d := e
    unfold tupleD at e
    split at e
    · rename_i xs
      cases e
      obtain ⟨v, r, rfl, ⟨a, ws, rfl, _, rd, l⟩, h2⟩ := r1
      cases (show r = [] from h2)
      exact ⟨a, ws, rfl, .inl ⟨rd, fun p hp => k _ _ (s1.trans (same_upd hp)) ⟨p, ws, rfl, fun z => E1.avl p z hp, upd_same, l.same (same_upd hp)⟩⟩⟩
    · rename_i xs
      cases e
      obtain ⟨v, r, rfl, ⟨a, ws, rfl, na, rd, l⟩, h2⟩ := r1
      cases (show r = [] from h2)
      exact ⟨a, ws, rfl, .inr ⟨SqT.of rd, k _ H1 s1 ⟨a, ws, rfl, na, rd, l⟩⟩⟩
    · cases e
/-- tuple(xs) of a list of the name's own -/
def tupleLD : List D → Option D
  | [.lst xs] => some (.tup xs)
  | _ => none
end
end DL

namespace DL
open PySem PySem.Spec L2
/-! ### statements -/
inductive Out where
  | nx (δ : Env)
  | rt (d : D)
  | bk (δ : Env)
  | ct (δ : Env)
def Wants (G : Cn) (owN owB owC : List Nat) (H0 : Hp) (av : Addr → Prop) (De : Ends) : Out → Prop
  | .nx δ' => ∀ A' σ' H', ER G owN H0 av A' σ' H' δ' → De.nx σ' H'
  | .rt d => ∀ v H', Same H0 H' → Rep G.1 av H' d v → De.rt v H'
  | .bk δ' => ∀ A' σ' H', ER G owB H0 av A' σ' H' δ' → De.bk σ' H'
  | .ct δ' => ∀ A' σ' H', ER G owC H0 av A' σ' H' δ' → De.ct σ' H'
def VS (G : Cn) (ow owN owB owC : List Nat) (ts : TS) (φ : Env → Option Out) : Prop :=
  ∀ H0 av A σ H δ, ER G ow H0 av A σ H δ → ∀ o, φ δ = some o → ∀ De : Ends, Wants G owN owB owC H0 av De o → ts De σ H
/-- assigning what is clean -/
def VG (G : Cn) (ow ow' : List Nat) (g : TG) (γ : D → Env → Option Env) : Prop :=
  ∀ H0 av A σ H δ, ER G ow H0 av A σ H δ → ∀ d v, Rep G.1 (AV av A) H d v → ∀ δ', γ d δ = some δ' → ∀ Q : L2.St → Hp → Prop, (∀ A' σ' H', Same H H' → ER G ow' H0 av A' σ' H' δ' → Q σ' H') → g v σ H Q
def sub (a b : List Nat) : Bool := a.all fun x => b.contains x
theorem sub_mem {a b : List Nat} (h : sub a b = true) : ∀ x ∈ a, x ∈ b := fun x hx => by
  have := List.all_eq_true.mp h x hx
  simpa using this
section
variable {cA : Kn} {G : Cn} {ow owN owB owC ow1 ow2 : List Nat} {H0 H H' : Hp} {av : Addr → Prop} {A : Nat → Option Addr} {σ : L2.St} {δ : Env}
/-! ### the names' values turn -/
theorem get_set {α : Type} {l : List (Option α)} {i j : Nat} {x y : α} (h : (l.set i (some x))[j]? = some (some y)) : (j = i ∧ y = x ∧ i < l.length) ∨ (j ≠ i ∧ l[j]? = some (some y)) := by
  by_cases e : j = i
  · subst e
    by_cases hl : j < l.length
    · rw [List.getElem?_set_self hl] at h
      exact .inl ⟨rfl, (Option.some.inj (Option.some.inj h)).symm, hl⟩
    · rw [List.getElem?_eq_none (by simpa using hl)] at h
      cases h
  · rw [List.getElem?_set_ne (Ne.symm e)] at h
    exact .inr ⟨e, h⟩
theorem ER.set {i : Nat} {d : D} {v : V} (E : ER G ow H0 av A σ H δ) (h : Rep G.1 (AV av A) H d v) (hw : ∀ j, j ∈ ow1 ↔ j ∈ ow ∧ j ≠ i) (hn : G.2 i = none) :
    ER G ow1 H0 av (fun j => if j = i then none else A j) (σ.set i (some v)) H (δ.set i (some d)) := by
  have less : ∀ b, AV av (fun j => if j = i then none else A j) b → AV av A b := fun b z => by
    rcases z with z | ⟨j, z⟩
    · exact .inl z
    · by_cases e : j = i
      · simp [e] at z
      · simp [e] at z; exact .inr ⟨j, z⟩
  refine ⟨E.same, E.avd, fun j a e => ?_, fun j k a e1 e2 => ?_, fun j a e => ?_, fun j e => ?_, fun j hj => ?_, by simp [E.len], fun j a e => (by
      have q : j ≠ i := fun z => by rw [z, hn] at e; cases e
      simp only [q, if_false]; exact E.pin j a e), (fun j v' e => by
      have q : j ≠ i := fun z => by rw [z, hn] at e; cases e
      rw [List.getElem?_set_ne (Ne.symm q)]; exact E.kept j v' e), fun j d' e => ?_⟩
  · by_cases q : j = i
    · simp [q] at e
    · simp [q] at e; exact E.fr j a e
  · by_cases q : j = i
    · simp [q] at e1
    · by_cases q2 : k = i
      · simp [q2] at e2
      · simp [q] at e1; simp [q2] at e2; exact E.inj j k a e1 e2
  · by_cases q : j = i
    · simp [q] at e
    · simp [q] at e; exact E.live j a e
  · by_cases q : j = i
    · simp [q] at e
    · simp [q] at e; exact (hw j).mpr ⟨E.dom j e, q⟩
  · obtain ⟨h1, h2⟩ := (hw j).mp hj
    simp [h2]
    exact E.dom' j h1
  · rcases get_set e with ⟨rfl, rfl, hl⟩ | ⟨q, e'⟩
    · refine ⟨v, ?_, fun _ => h.av fun b z => .inl (less b z), fun a z => by simp at z⟩
      rw [List.getElem?_set_self (by rw [E.len]; exact hl)]
    · obtain ⟨v', h1, h2, h3⟩ := E.var j d' e'
      refine ⟨v', by rw [List.getElem?_set_ne (Ne.symm q)]; exact h1, fun z => ?_, fun a z => ?_⟩
      · simp [q] at z
        exact (h2 z).av fun b z => .inl (less b z)
      · simp [q] at z
        obtain ⟨r1, r2⟩ := h3 a z
        refine ⟨r1, ?_⟩
        cases d' with
        | lst xs => obtain ⟨vs, q1, q2⟩ := r2; exact ⟨vs, q1, q2.av fun b z => .inl (less b z)⟩
        | obj c ks xs => obtain ⟨dx, vs, q1, q0, q2⟩ := r2; exact ⟨dx, vs, q1, q0, q2.av fun b z => .inl (less b z)⟩
        | dct ks xs => obtain ⟨vs, q1, q0, q2⟩ := r2; exact ⟨vs, q1, q0, q2.av fun b z => .inl (less b z)⟩
        | _ => exact r2
theorem ER.own {i : Nat} {xs : List D} {vs : List V} {p : Addr} (E : ER G ow H0 av A σ H δ) (hp : H p = none) (l : RepL G.1 (AV av A) H xs vs) (hw : ∀ j, j ∈ ow1 ↔ j ∈ ow ∨ j = i) (hn : G.2 i = none) :
    ER G ow1 H0 av (fun j => if j = i then some p else A j) (σ.set i (some (.ref p))) (upd H p (.lst vs)) (δ.set i (some (.lst xs))) := by
  have hs : Same H (upd H p (.lst vs)) := same_upd hp
  have less : ∀ b, AV av (fun j => if j = i then some p else A j) b → AV av A b ∨ H b = none := fun b z => by
    rcases z with z | ⟨j, z⟩
    · exact .inl (.inl z)
    · by_cases e : j = i
      · simp [e] at z; subst z; exact .inr hp
      · simp [e] at z; exact .inl (.inr ⟨j, z⟩)
  have np : ∀ j a, A j = some a → a ≠ p := fun j a e z => by subst z; exact E.live j a e hp
  have h0 : H0 p = none := by
    cases q : H0 p with
    | none => rfl
    | some o => rw [E.same p o q] at hp; cases hp
  refine ⟨E.same.trans hs, E.avd, fun j a e => ?_, fun j k a e1 e2 => ?_, fun j a e => ?_, fun j e => ?_, fun j hj => ?_, by simp [E.len], fun j a e => (by
      have q : j ≠ i := fun z => by rw [z, hn] at e; cases e
      simp only [q, if_false]; exact E.pin j a e), (fun j v' e => by
      have q : j ≠ i := fun z => by rw [z, hn] at e; cases e
      rw [List.getElem?_set_ne (Ne.symm q)]; exact E.kept j v' e), fun j d' e => ?_⟩
  · by_cases q : j = i
    · simp [q] at e; subst e; exact h0
    · simp [q] at e; exact E.fr j a e
  · by_cases q : j = i
    · by_cases q2 : k = i
      · rw [q, q2]
      · simp [q] at e1; simp [q2] at e2
        exact absurd e1.symm (np k a e2)
    · by_cases q2 : k = i
      · simp [q] at e1; simp [q2] at e2
        exact absurd e2.symm (np j a e1)
      · simp [q] at e1; simp [q2] at e2; exact E.inj j k a e1 e2
  · by_cases q : j = i
    · simp [q] at e; subst e; rw [upd_same]; exact fun z => by cases z
    · simp [q] at e
      rw [upd_ne (np j a e)]
      exact E.live j a e
  · by_cases q : j = i
    · exact (hw j).mpr (.inr q)
    · simp [q] at e; exact (hw j).mpr (.inl (E.dom j e))
  · by_cases q : j = i
    · simp [q]
    · simp [q]
      exact E.dom' j (((hw j).mp hj).resolve_right q)
  · rcases get_set e with ⟨rfl, rfl, hl⟩ | ⟨q, e'⟩
    · refine ⟨.ref p, ?_, fun z => by simp at z, fun a z => ?_⟩
      · rw [List.getElem?_set_self (by rw [E.len]; exact hl)]
      · simp at z
        subst z
        exact ⟨rfl, vs, upd_same, (l.av less).same hs⟩
    · obtain ⟨v', h1, h2, h3⟩ := E.var j d' e'
      refine ⟨v', by rw [List.getElem?_set_ne (Ne.symm q)]; exact h1, fun z => ?_, fun a z => ?_⟩
      · simp [q] at z
        exact ((h2 z).av less).same hs
      · simp [q] at z
        obtain ⟨r1, r2⟩ := h3 a z
        refine ⟨r1, ?_⟩
        cases d' with
        | lst xs => obtain ⟨vs', q1, q2⟩ := r2; exact ⟨vs', hs _ _ q1, (q2.av less).same hs⟩
        | obj c ks xs => obtain ⟨dx, vs', q1, q0, q2⟩ := r2; exact ⟨dx, vs', hs _ _ q1, q0, (q2.av less).same hs⟩
        | dct ks xs => obtain ⟨vs', q1, q0, q2⟩ := r2; exact ⟨vs', hs _ _ q1, q0, (q2.av less).same hs⟩
        | _ => exact r2
/-- the object of a name's own turns -/
theorem ER.put {i : Nat} {a : Addr} {d d' : D} (E : ER G ow H0 av A σ H δ) (hi : A i = some a) (hd : δ[i]? = some (some d)) (hk : ∀ b o, b ≠ a → H b = some o → H' b = some o) (hl : H' a ≠ none) (ho : Own G.1 (AV av A) H' d' a) :
    ER G ow H0 av A σ H' (δ.set i (some d')) := by
  have kk : ∀ b o, ¬ AV av A b → H b = some o → H' b = some o := fun b o n e => hk b o (fun z => n (.inr ⟨i, by rw [z]; exact hi⟩)) e
  refine ⟨fun b o e => hk b o (fun z => ?_) (E.same b o e), E.avd, E.fr, E.inj, fun j b e => ?_, E.dom, E.dom', by simp [E.len], E.pin, E.kept, fun j d'' e => ?_⟩
  · rw [z, E.fr i a hi] at e; cases e
  · by_cases q : b = a
    · subst q; exact hl
    · have := E.live j b e
      cases e' : H b with
      | none => exact absurd e' this
      | some o => rw [hk b o q e']; exact fun z => by cases z
  · rcases get_set e with ⟨rfl, rfl, hl'⟩ | ⟨q, e'⟩
    · obtain ⟨v, h1, _, h3⟩ := E.var j d hd
      obtain ⟨r1, _⟩ := h3 a hi
      exact ⟨v, h1, fun z => (by rw [hi] at z; cases z), fun b z => by
        rw [hi] at z; cases z
        exact ⟨r1, ho⟩⟩
    · obtain ⟨v', h1, h2, h3⟩ := E.var j d'' e'
      refine ⟨v', h1, fun z => (h2 z).ext kk, fun b z => ?_⟩
      obtain ⟨r1, r2⟩ := h3 b z
      have nb : b ≠ a := fun w => q (E.inj j i a (by rw [← w]; exact z) hi)
      refine ⟨r1, ?_⟩
      cases d'' with
      | lst xs => obtain ⟨vs, q1, q2⟩ := r2; exact ⟨vs, hk _ _ nb q1, q2.ext kk⟩
      | obj c ks xs => obtain ⟨dx, vs, q1, q0, q2⟩ := r2; exact ⟨dx, vs, hk _ _ nb q1, q0, q2.ext kk⟩
      | dct ks xs => obtain ⟨vs, q1, q0, q2⟩ := r2; exact ⟨vs, hk _ _ nb q1, q0, q2.ext kk⟩
      | _ => exact r2
/-- what was a name's own is so no longer -/
theorem ER.freeze (i : Nat) (E : ER G ow H0 av A σ H δ) (hw : ∀ j, j ∈ ow1 ↔ j ∈ ow ∧ j ≠ i) (hn : G.2 i = none) : ER G ow1 H0 av (fun j => if j = i then none else A j) σ H δ := by
  have less : ∀ b, AV av (fun j => if j = i then none else A j) b → AV av A b := fun b z => by
    rcases z with z | ⟨j, z⟩
    · exact .inl z
    · by_cases e : j = i
      · simp [e] at z
      · simp [e] at z; exact .inr ⟨j, z⟩
  refine ⟨E.same, E.avd, fun j a e => ?_, fun j k a e1 e2 => ?_, fun j a e => ?_, fun j e => ?_, fun j hj => ?_, E.len, fun j a e => (by
      have q : j ≠ i := fun z => by rw [z, hn] at e; cases e
      simp only [q, if_false]; exact E.pin j a e), E.kept, fun j d' e => ?_⟩
  · by_cases q : j = i
    · simp [q] at e
    · simp [q] at e; exact E.fr j a e
  · by_cases q : j = i
    · simp [q] at e1
    · by_cases q2 : k = i
      · simp [q2] at e2
      · simp [q] at e1; simp [q2] at e2; exact E.inj j k a e1 e2
  · by_cases q : j = i
    · simp [q] at e
    · simp [q] at e; exact E.live j a e
  · by_cases q : j = i
    · simp [q] at e
    · simp [q] at e; exact (hw j).mpr ⟨E.dom j e, q⟩
  · obtain ⟨h1, h2⟩ := (hw j).mp hj
    simp [h2]
    exact E.dom' j h1
  · obtain ⟨v', h1, h2, h3⟩ := E.var j d' e
    refine ⟨v', h1, fun z => ?_, fun a z => ?_⟩
    · by_cases q : j = i
      · subst q
        cases hA : A j with
        | none => exact (h2 hA).av fun b z => .inl (less b z)
        | some a =>
          obtain ⟨rfl, r2⟩ := h3 a hA
          have na : ¬ AV av (fun k => if k = j then none else A k) a := fun z => by
            rcases z with z | ⟨k, z⟩
            · exact E.avd a z (E.fr j a hA)
            · by_cases qk : k = j
              · simp [qk] at z
              · simp [qk] at z; exact qk (E.inj k j a z hA)
          cases d' with
          | lst xs => obtain ⟨vs, q1, q2⟩ := r2; unfold Rep; exact ⟨a, vs, rfl, fun z => (na z).elim, SqL.of q1, q2.av fun b z => .inl (less b z)⟩
          | obj c ks xs => obtain ⟨dx, vs, q1, q0, q2⟩ := r2; unfold Rep; exact ⟨a, dx, vs, rfl, na, q1, q0, q2.av fun b z => .inl (less b z)⟩
          | dct ks xs => obtain ⟨vs, q1, q0, q2⟩ := r2; unfold Rep; exact ⟨a, vs, rfl, na, q1, q0, q2.av fun b z => .inl (less b z)⟩
          | _ => exact False.elim r2
      · simp [q] at z
        exact (h2 z).av fun b z => .inl (less b z)
    · by_cases q : j = i
      · simp [q] at z
      · simp [q] at z
        obtain ⟨r1, r2⟩ := h3 a z
        refine ⟨r1, ?_⟩
        cases d' with
        | lst xs => obtain ⟨vs, q1, q2⟩ := r2; exact ⟨vs, q1, q2.av fun b z => .inl (less b z)⟩
        | obj c ks xs => obtain ⟨dx, vs, q1, q0, q2⟩ := r2; exact ⟨dx, vs, q1, q0, q2.av fun b z => .inl (less b z)⟩
        | dct ks xs => obtain ⟨vs, q1, q0, q2⟩ := r2; exact ⟨vs, q1, q0, q2.av fun b z => .inl (less b z)⟩
        | _ => exact r2
/-! the heap without what is owned -/
open Classical in
noncomputable def cut (A : Nat → Option Addr) (H : Hp) : Hp := fun b => if ∃ i, A i = some b then none else H b
theorem cut_some {b : Addr} {o : HO} (h : cut A H b = some o) : H b = some o ∧ ¬ ∃ i, A i = some b := by
  unfold cut at h
  by_cases e : ∃ i, A i = some b
  · rw [if_pos e] at h; cases h
  · rw [if_neg e] at h; exact ⟨h, e⟩
theorem cut_of {b : Addr} (e : ¬ ∃ i, A i = some b) : cut A H b = H b := by
  unfold cut
  rw [if_neg e]
theorem ER.cut (E : ER G ow H0 av A σ H δ) : ER G ow (DL.cut A H) av A σ H δ := by
  refine ⟨fun b o e => (cut_some e).1, fun a z => ?_, fun i a e => ?_, E.inj, E.live, E.dom, E.dom', E.len, E.pin, E.kept, E.var⟩
  · rw [cut_of fun ⟨i, e⟩ => E.avd a z (E.fr i a e)]
    exact E.avH a z
  · unfold DL.cut
    rw [if_pos ⟨i, e⟩]
theorem ER.sub0 (E : ER G ow H0 av A σ H δ) : Same H0 (DL.cut A H) := fun b o e => by
  rw [cut_of fun ⟨i, z⟩ => by rw [E.fr i b z] at e; cases e]
  exact E.same b o e
theorem ER.uncut {A' : Nat → Option Addr} {σ' : L2.St} {δ' : Env} (E : ER G ow H0 av A σ H δ) (E' : ER G ow1 (DL.cut A H) av A' σ' H' δ') : ER G ow1 H0 av A' σ' H' δ' :=
  ⟨E.sub0.trans E'.same, E.avd, fun i a e => E.sub0.free (E'.fr i a e), E'.inj, E'.live, E'.dom, E'.dom', E'.len, E'.pin, E'.kept, E'.var⟩
/-! ### rules -/
def sNext (δ : Env) : Option Out := some (.nx δ)
theorem vs_next : VS G ow ow owB owC tNext sNext := fun H0 av A σ H δ E o e De k => by
  cases e
  exact k A σ H E
def sSeq (φ ψ : Env → Option Out) (δ : Env) : Option Out := match φ δ with
  | some (.nx δ') => ψ δ'
  | r => r
theorem vs_seq {t u : TS} {φ ψ : Env → Option Out} (h1 : VS G ow ow1 owB owC t φ) (h2 : VS G ow1 owN owB owC u ψ) : VS G ow owN owB owC (tSeq t u) (sSeq φ ψ) := fun H0 av A σ H δ E o e De k => by
  unfold sSeq at e
  cases he : φ δ with
  | none => rw [he] at e; cases e
  | some o1 =>
    rw [he] at e
    refine h1 H0 av A σ H δ E o1 he _ ?_
    cases o1 with
    | nx δ' => exact fun A' σ' H' E' => h2 H0 av A' σ' H' δ' E' o e De k
    | rt d => cases e; exact k
    | bk δ' => cases e; exact k
    | ct δ' => cases e; exact k
def sIf (τ : Env → Option Bool) (φ ψ : Env → Option Out) (δ : Env) : Option Out := match τ δ with
  | some true => φ δ
  | some false => ψ δ
  | none => none
theorem vs_if {c : TT} {t u : TS} {τ : Env → Option Bool} {φ ψ : Env → Option Out} (hc : VT G ow c τ) (h1 : VS G ow owN owB owC t φ) (h2 : VS G ow owN owB owC u ψ) : VS G ow owN owB owC (tIfS c t u) (sIf τ φ ψ) := fun H0 av A σ H δ E o e De k => by
  unfold sIf at e
  cases he : τ δ with
  | none => rw [he] at e; cases e
  | some b =>
    rw [he] at e
    refine hc H0 av A σ H δ E b he _ fun H' s => ?_
    cases b with
    | true => exact iteT (h1 H0 av A σ H' δ (E.mono s) o e De k)
    | false => exact iteF (h2 H0 av A σ H' δ (E.mono s) o e De k)
def sRet (ε : Env → Option D) (δ : Env) : Option Out := match ε δ with
  | some d => some (.rt d)
  | none => none
theorem vs_ret {te : TE} {q : Ql} {ε : Env → Option D} (h : VE G ow te q ε) : VS G ow owN owB owC (tRet te) (sRet ε) := fun H0 av A σ H δ E o e De k => by
  unfold sRet at e
  cases he : ε δ with
  | none => rw [he] at e; cases e
  | some d =>
    rw [he] at e
    cases e
    exact h H0 av A σ H δ E d he _ fun v H' s r => k v H' (E.same.trans s) r.any
def sRetN (_ : Env) : Option Out := some (.rt .non)
def sNever (_ : Env) : Option Out := none
theorem vs_never {ts : TS} : VS G ow owN owB owC ts sNever := fun H0 av A σ H δ E o e De k => by cases e
def sBreak (δ : Env) : Option Out := some (.bk δ)
def sCont (δ : Env) : Option Out := some (.ct δ)
def sAsg (i : Nat) (ε : Env → Option D) (δ : Env) : Option Out := match ε δ with
  | some d => some (.nx (δ.set i (some d)))
  | none => none
theorem mem_minus {i : Nat} (h1 : sub ow1 ow = true) (h2 : ow1.contains i = false) (h3 : sub ow (i :: ow1) = true) : ∀ j, j ∈ ow1 ↔ j ∈ ow ∧ j ≠ i := fun j => by
  constructor
  · intro h
    refine ⟨sub_mem h1 j h, fun e => ?_⟩
    subst e
    have : j ∉ ow1 := by simpa using h2
    exact this h
  · rintro ⟨h, n⟩
    rcases List.mem_cons.mp (sub_mem h3 j h) with e | e
    · exact absurd e n
    · exact e
theorem mem_plus {i : Nat} (h1 : sub ow1 (i :: ow) = true) (h2 : ow1.contains i = true) (h3 : sub ow ow1 = true) : ∀ j, j ∈ ow1 ↔ j ∈ ow ∨ j = i := fun j => by
  constructor
  · intro h
    rcases List.mem_cons.mp (sub_mem h1 j h) with e | e
    · exact .inr e
    · exact .inl e
  · rintro (h | rfl)
    · exact sub_mem h3 j h
    · simpa using h2
theorem vs_asg {te : TE} {ε : Env → Option D} (i : Nat) (h : VE G ow te .cl ε) (hn : G.2 i = none) (h1 : sub owN ow = true) (h2 : owN.contains i = false) (h3 : sub ow (i :: owN) = true) : VS G ow owN owB owC (tAsg te (gName i)) (sAsg i ε) := fun H0 av A σ H δ E o e De k => by
  unfold sAsg at e
  cases he : ε δ with
  | none => rw [he] at e; cases e
  | some d =>
    rw [he] at e
    cases e
    exact h H0 av A σ H δ E d he _ fun v H' s r => k _ _ H' ((E.mono s).set (RepT.r r) (mem_minus h1 h2 h3) hn)
theorem vs_asgO {te : TE} {ε : Env → Option D} (i : Nat) (h : VF G ow te ε) (hn : G.2 i = none) (h1 : sub owN (i :: ow) = true) (h2 : owN.contains i = true) (h3 : sub ow owN = true) : VS G ow owN owB owC (tAsg te (gName i)) (sAsg i ε) := fun H0 av A σ H δ E o e De k => by
  unfold sAsg at e
  cases he : ε δ with
  | none => rw [he] at e; cases e
  | some d =>
    rw [he] at e
    cases e
    refine h H0 av A σ H δ E d he _ fun p vs xs H1 s hp l hd => ?_
    subst hd
    exact k _ _ _ ((E.mono s).own hp l (mem_plus h1 h2 h3) hn)
def sExpr (ε : Env → Option D) (δ : Env) : Option Out := match ε δ with
  | some _ => some (.nx δ)
  | none => none
theorem vs_expr {te : TE} {q : Ql} {ε : Env → Option D} (h : VE G ow te q ε) : VS G ow ow owB owC (tDrop te) (sExpr ε) := fun H0 av A σ H δ E o e De k => by
  unfold sExpr at e
  cases he : ε δ with
  | none => rw [he] at e; cases e
  | some d =>
    rw [he] at e
    cases e
    exact h H0 av A σ H δ E d he _ fun v H' s r => k A σ H' (E.mono s)
/-- xs.append(e) -/
def sApp (i : Nat) (ε : Env → Option D) (δ : Env) : Option Out := match eVar i δ with
  | some (.lst xs) => match ε δ with
    | some d => if xs.length < sizeLine then some (.nx (δ.set i (some (.lst (xs ++ [d]))))) else none
    | none => none
  | _ => none
theorem vs_app {K : PySem.W.Frag} {te : TE} {ε : Env → Option D} (i : Nat) (hi : ow.contains i = true) (h : VE G ow te .cl ε) : VS G ow ow owB owC (tDrop (tBM K "list" rAppend (tVar i) (tCons te tNil))) (sApp i ε) := fun H0 av A σ H δ E o e De k => by
  unfold sApp at e
  cases hv : eVar i δ with
  | none => rw [hv] at e; cases e
  | some x =>
    rw [hv] at e
    cases x <;> first | (cases e; done) | skip
    rename_i xs
    dsimp only at e
    cases he : ε δ with
    | none => rw [he] at e; cases e
    | some d =>
      rw [he] at e
      dsimp only at e
      by_cases hz : xs.length < sizeLine
      · rw [if_pos hz] at e
        cases e
        have hi' : i ∈ ow := by simpa using hi
        cases hA : A i with
        | none => exact absurd hA (E.dom' i hi')
        | some a =>
          obtain ⟨v, h1, _, h3⟩ := E.var i _ (eVar_some hv)
          obtain ⟨rfl, vs, q1, q2⟩ := h3 a hA
          refine ⟨_, h1, .inl ⟨rfl, vs, SqL.of q1⟩, h H0 av A σ H δ E d he _ fun v H' s r => ?_⟩
          have E' := E.mono s
          have q1' := s _ _ q1
          refine ⟨a, vs, v, rfl, rfl, q1', by rw [← q2.length]; exact hz, k A σ _ (E'.put hA (eVar_some hv) (fun b o hb e => by rw [upd_ne hb]; exact e) (by rw [upd_same]; exact fun z => by cases z) ⟨_, upd_same, ?_⟩)⟩
          have ex : ∀ b o, ¬ AV av A b → H' b = some o → upd H' a (.lst (vs ++ [v])) b = some o := fun b o n e => by
            rw [upd_ne fun z => n (.inr ⟨i, by rw [z]; exact hA⟩)]
            exact e
          exact ((q2.same s).append (.cons (RepT.r r) .nil)).ext ex
      · rw [if_neg hz] at e; cases e
/-- a name's own is so no longer, ahead of a block; behind it -/
theorem VS.frz {t : TS} {φ : Env → Option Out} (i : Nat) (h : VS G ow1 owN owB owC t φ) (hn : G.2 i = none) (h1 : sub ow1 ow = true) (h2 : ow1.contains i = false) (h3 : sub ow (i :: ow1) = true) : VS G ow owN owB owC t φ := fun H0 av A σ H δ E o e De k =>
  h H0 av _ σ H δ (E.freeze i (mem_minus h1 h2 h3) hn) o e De k
/-! ### targets -/
def gSet (i : Nat) (d : D) (δ : Env) : Option Env := some (δ.set i (some d))
theorem vg_name (i : Nat) (hi : ow.contains i = false) (hn : G.2 i = none) : VG G ow ow (gName i) (gSet i) := fun H0 av A σ H δ E d v r δ' e Q k => by
  cases e
  exact k _ _ H (Same.refl H) (E.set r (fun j => by
    have : i ∉ ow := by simpa using hi
    exact ⟨fun h => ⟨h, fun z => this (z ▸ h)⟩, fun h => h.1⟩) hn)
def VGs (G : Cn) (ow ow' : List Nat) (g : TGs) (γ : List D → Env → Option Env) : Prop :=
  ∀ H0 av A σ H δ, ER G ow H0 av A σ H δ → ∀ ds vs, RepL G.1 (AV av A) H ds vs → ∀ δ', γ ds δ = some δ' → ∀ Q : L2.St → Hp → Prop, (∀ A' σ' H', Same H H' → (∀ b, AV av A' b → AV av A b) → ER G ow' H0 av A' σ' H' δ' → Q σ' H') → g vs σ H Q
def gsNil (ds : List D) (δ : Env) : Option Env := match ds with
  | [] => some δ
  | _ => none
theorem vgs_nil : VGs G ow ow gNil gsNil := fun H0 av A σ H δ E ds vs r δ' e Q k => by
  cases ds with
  | nil => cases e; exact ⟨r.nil_of, k A σ H (Same.refl H) (fun _ z => z) E⟩
  | cons _ _ => cases e
def gsCons (i : Nat) (γs : List D → Env → Option Env) (ds : List D) (δ : Env) : Option Env := match ds with
  | d :: r => γs r (δ.set i (some d))
  | [] => none
theorem vgs_cons {gs : TGs} {γs : List D → Env → Option Env} (i : Nat) (hi : ow.contains i = false) (hn : G.2 i = none) (h : VGs G ow ow gs γs) : VGs G ow ow (gCons (gName i) gs) (gsCons i γs) := fun H0 av A σ H δ E ds vs r δ' e Q k => by
  cases ds with
  | nil => cases e
  | cons d ds =>
    obtain ⟨v, vr, rfl, r1, r2⟩ := r.uncons
    refine ⟨v, vr, rfl, ?_⟩
    have less : ∀ b, AV av (fun j => if j = i then none else A j) b → AV av A b := fun b z => by
      rcases z with z | ⟨j, z⟩
      · exact .inl z
      · by_cases e : j = i
        · simp [e] at z
        · simp [e] at z; exact .inr ⟨j, z⟩
    have E1 : ER G ow H0 av (fun j => if j = i then none else A j) (σ.set i (some v)) H (δ.set i (some d)) := E.set r1 (fun j => by
      have : i ∉ ow := by simpa using hi
      exact ⟨fun h => ⟨h, fun z => this (z ▸ h)⟩, fun h => h.1⟩) hn
    exact h H0 av _ _ H _ E1 ds vr (r2.av fun b z => .inl (less b z)) δ' e Q fun A' σ' H' s l E' => k A' σ' H' s (fun b z => less b (l b z)) E'
def gTupD (n : Nat) (γs : List D → Env → Option Env) (d : D) (δ : Env) : Option Env := match d with
  | .tup ds => if ds.length = n then γs ds δ else none
  | _ => none
theorem vg_tup {K : PySem.W.Frag} {n : Nat} {gs : TGs} {γs : List D → Env → Option Env} (h : VGs G ow ow gs γs) : VG G ow ow (gTup K n gs) (gTupD n γs) := fun H0 av A σ H δ E d v r δ' e Q k => by
  cases d <;> first | (cases e; done) | skip
  rename_i ds
  dsimp only [gTupD] at e
  by_cases hz : ds.length = n
  · rw [if_pos hz] at e
    unfold Rep at r
    obtain ⟨a, vs, rfl, _, rd, l⟩ := r
    exact ⟨a, vs, rfl, SqT.of rd, by rw [← l.length]; exact hz, h H0 av A σ H δ E ds vs l δ' e Q fun A' σ' H' s _ E' => k A' σ' H' s E'⟩
  · rw [if_neg hz] at e; cases e
/-! ### what is walked -/
def WalkD (cA : Kn) (iv : Addr → Prop) (J : It) (xs : List D) (H0 : Hp) : Prop := ∀ H, Same H0 H →
  (∀ i, i < xs.length → J.go i H) ∧
  (∀ (i : Nat) x v H', xs[i]? = some x → J.yld i H v H' → Same H H' ∧ ∀ av' : Addr → Prop, (∀ b, av' b → H b ≠ none) → (∀ b, av' b → iv b ∨ H0 b = none) → Rep cA av' H' x v) ∧
  (∀ i, xs.length ≤ i → J.stop i H)
def VI (G : Cn) (ow : List Nat) (wi : TI) (ι : Env → Option (List D)) : Prop :=
  ∀ H0 av A σ H δ, ER G ow H0 av A σ H δ → ∀ xs, ι δ = some xs → ∀ R : It → Hp → Prop, (∀ J H1, Same H H1 → WalkD G.1 (AV av A) J xs (DL.cut A H1) → R J H1) → wi σ H R
def forD (γ : D → Env → Option Env) (φ : Env → Option Out) : List D → Env → Option Out
  | [], δ => some (.nx δ)
  | x :: r, δ => match γ x δ with
    | none => none
    | some δ1 => match φ δ1 with
      | none => none
      | some (.nx δ2) => forD γ φ r δ2
      | some (.ct δ2) => forD γ φ r δ2
      | some (.bk δ2) => some (.nx δ2)
      | some (.rt d) => some (.rt d)
def sFor (ι : Env → Option (List D)) (γ : D → Env → Option Env) (φ : Env → Option Out) (δ : Env) : Option Out := match ι δ with
  | some xs => forD γ φ xs δ
  | none => none
theorem vs_for {wi : TI} {g : TG} {tb : TS} {ι : Env → Option (List D)} {γ : D → Env → Option Env} {φ : Env → Option Out} (hi : VI G ow wi ι) (hg : VG G ow ow g γ) (hb : VS G ow ow ow ow tb φ) : VS G ow ow owB owC (tFor wi g tb) (sFor ι γ φ) := fun H0 av A σ H δ E o e De k => by
  unfold sFor at e
  cases he : ι δ with
  | none => rw [he] at e; cases e
  | some xs =>
    rw [he] at e
    have e : forD γ φ xs δ = some o := e
    refine hi H0 av A σ H δ E xs he _ fun J H1 s1 W => ?_
    have E1 := E.mono s1
    refine ⟨fun i m σ' H' => m = xs.length - i ∧ i ≤ xs.length ∧ ∃ A' δ', ER G ow (DL.cut A H1) av A' σ' H' δ' ∧ forD γ φ (xs.drop i) δ' = some o, ⟨xs.length, by simp, Nat.zero_le _, A, δ, E1.cut, e⟩, ?_⟩
    rintro i m σ' H' ⟨rfl, hle, A', δ', E', e'⟩
    obtain ⟨w1, w2, w3⟩ := W H' E'.same
    by_cases hlt : i < xs.length
    · refine .inr ⟨w1 i hlt, fun σ2 H2 => ∃ A2 δ2, ER G ow (DL.cut A H1) av A2 σ2 H2 δ2 ∧ forD γ φ (xs.drop (i + 1)) δ2 = some o, fun σ2 H2 ⟨A2, δ2, E2, e2⟩ => ⟨xs.length - (i + 1), by omega, rfl, hlt, A2, δ2, E2, e2⟩, fun v H2 y => ?_⟩
      have hx : xs[i]? = some xs[i] := List.getElem?_eq_getElem hlt
      obtain ⟨s2, rep⟩ := w2 i _ v H2 hx y
      have E2 := E'.mono s2
      have rep' : Rep G.1 (AV av A') H2 xs[i] v := rep _ E'.avl fun b z => by
        rcases z with z | ⟨j, z⟩
        · exact .inl (.inl z)
        · exact .inr (E'.fr j b z)
      rw [List.drop_eq_getElem_cons hlt] at e'
      unfold forD at e'
      cases hγ : γ xs[i] δ' with
      | none => rw [hγ] at e'; cases e'
      | some δ1 =>
        rw [hγ] at e'
        dsimp only at e'
        refine hg _ av A' σ' H2 δ' E2 _ v rep' δ1 hγ _ fun A3 σ3 H3 s3 E3 => ?_
        cases hφ : φ δ1 with
        | none => rw [hφ] at e'; cases e'
        | some o1 =>
          rw [hφ] at e'
          refine hb _ av A3 σ3 H3 δ1 E3 o1 hφ _ ?_
          cases o1 with
          | nx δ2 => exact fun A4 σ4 H4 E4 => ⟨A4, δ2, E4, e'⟩
          | ct δ2 => exact fun A4 σ4 H4 E4 => ⟨A4, δ2, E4, e'⟩
          | bk δ2 => cases e'; exact fun A4 σ4 H4 E4 => k A4 σ4 H4 (E1.uncut E4)
          | rt d => cases e'; exact fun v H4 s4 r4 => k v H4 (E1.sub0.trans s4) r4
    · have ei : i = xs.length := by omega
      subst ei
      rw [List.drop_length] at e'
      cases e'
      exact .inl ⟨w3 _ (Nat.le_refl _), k A' σ' H' (E1.uncut E')⟩
/-! ### while -/
def whileD (τ : Env → Option Bool) (φ : Env → Option Out) : Nat → Env → Option Out
  | 0, _ => none
  | n + 1, δ => match τ δ with
    | none => none
    | some false => some (.nx δ)
    | some true => match φ δ with
      | none => none
      | some (.nx δ2) => whileD τ φ n δ2
      | some (.ct δ2) => whileD τ φ n δ2
      | some (.bk δ2) => some (.nx δ2)
      | some (.rt d) => some (.rt d)
open Classical in
noncomputable def sWhile (τ : Env → Option Bool) (φ : Env → Option Out) (δ : Env) : Option Out := if h : ∃ n o, whileD τ φ n δ = some o then whileD τ φ (Classical.choose h) δ else none
theorem sWhile_some {τ : Env → Option Bool} {φ : Env → Option Out} {δ : Env} {o : Out} (h : sWhile τ φ δ = some o) : ∃ n, whileD τ φ n δ = some o := by
  unfold sWhile at h
  split at h
  · exact ⟨_, h⟩
  · cases h
theorem vs_while {c : TT} {tb : TS} {τ : Env → Option Bool} {φ : Env → Option Out} (hc : VT G ow c τ) (hb : VS G ow ow ow ow tb φ) : VS G ow ow owB owC (tWhile c tb) (sWhile τ φ) := fun H0 av A σ H δ E o e De k => by
  obtain ⟨n, e⟩ := sWhile_some e
  refine ⟨fun m σ' H' => ∃ A' δ', ER G ow H0 av A' σ' H' δ' ∧ whileD τ φ m δ' = some o, ⟨n, A, δ, E, e⟩, ?_⟩
  rintro m σ' H' ⟨A', δ', E', e'⟩
  cases m with
  | zero => cases e'
  | succ m =>
    unfold whileD at e'
    cases ht : τ δ' with
    | none => rw [ht] at e'; cases e'
    | some b =>
      rw [ht] at e'
      refine hc H0 av A' σ' H' δ' E' b ht _ fun H2 s2 => ?_
      have E2 := E'.mono s2
      cases b with
      | false => cases e'; exact iteF (k A' σ' H2 E2)
      | true =>
        dsimp only at e'
        refine iteT ⟨fun σ3 H3 => ∃ A3 δ3, ER G ow H0 av A3 σ3 H3 δ3 ∧ whileD τ φ m δ3 = some o, fun σ3 H3 ⟨A3, δ3, E3, e3⟩ => ⟨m, Nat.lt_succ_self _, A3, δ3, E3, e3⟩, ?_⟩
        cases hφ : φ δ' with
        | none => rw [hφ] at e'; cases e'
        | some o1 =>
          rw [hφ] at e'
          refine hb H0 av A' σ' H2 δ' E2 o1 hφ _ ?_
          cases o1 with
          | nx δ2 => exact fun A4 σ4 H4 E4 => ⟨A4, δ2, E4, e'⟩
          | ct δ2 => exact fun A4 σ4 H4 E4 => ⟨A4, δ2, E4, e'⟩
          | bk δ2 => cases e'; exact k
          | rt d => cases e'; exact k
end
end DL

namespace DL
open PySem PySem.Spec L2
section
variable {cA : Kn} {G : Cn} {ow owN owB owC : List Nat}
/-! ### what a for walks -/
def iotaA (ε : Env → Option D) (δ : Env) : Option (List D) := match ε δ with
  | some (.lst xs) => some xs
  | some (.tup xs) => some xs
  | some (.str cs) => some (cs.map fun c => .str [c])
  | _ => none
theorem RepL.cut {av : Addr → Prop} {A : Nat → Option Addr} {H : Hp} {d : List D} {v : List V} (h : RepL cA (AV av A) H d v) : RepL cA (AV av A) (DL.cut A H) d v := h.ext fun b o n e => by
  rw [cut_of fun ⟨i, z⟩ => n (.inr ⟨i, z⟩)]
  exact e
theorem walkD_list {iv : Addr → Prop} {H0 : Hp} {a : Addr} {vs : List V} {xs : List D} (rd : SqL cA.K H0 a vs) (l : RepL cA iv H0 xs vs) : WalkD cA iv (Itl cA.K a) xs H0 := fun H s => by
  have rd' : SqL cA.K H a vs := s.seq rd
  refine ⟨fun i hi => ?_, fun i x v H' hx y => ?_, fun i hi => ⟨vs, rd', by rw [← l.length]; exact hi⟩⟩
  · obtain ⟨v, hv, _⟩ := l.get (List.getElem?_eq_getElem hi)
    exact ⟨vs, v, rd', hv⟩
  · obtain ⟨rfl, hy⟩ := y
    obtain ⟨v', hv, r⟩ := l.get hx
    rw [hy vs rd'] at hv
    cases hv
    exact ⟨Same.refl _, fun av' _ h2 => (r.av h2).same s⟩
theorem walkD_tup {K : PySem.W.Frag} {iv : Addr → Prop} {H0 : Hp} {a : Addr} {vs : List V} {xs : List D} (rd : H0 a = some (.tup vs)) (l : RepL cA iv H0 xs vs) : WalkD cA iv (Itt K a) xs H0 := fun H s => by
  have rd' : SqT K H a vs := SqT.of (s _ _ rd)
  refine ⟨fun i hi => ?_, fun i x v H' hx y => ?_, fun i hi => ⟨vs, rd', by rw [← l.length]; exact hi⟩⟩
  · obtain ⟨v, hv, _⟩ := l.get (List.getElem?_eq_getElem hi)
    exact ⟨vs, v, rd', hv⟩
  · obtain ⟨rfl, hy⟩ := y
    obtain ⟨v', hv, r⟩ := l.get hx
    rw [hy vs rd'] at hv
    cases hv
    exact ⟨Same.refl _, fun av' _ h2 => (r.av h2).same s⟩
theorem walkD_str {iv : Addr → Prop} {H0 : Hp} {cs : List Nat} : WalkD cA iv (Its cs) (cs.map fun c => .str [c]) H0 := fun H s => by
  refine ⟨fun i hi => (show i < cs.length by simpa using hi), fun i x v H' hx y => ?_, fun i hi => (show cs.length ≤ i by simpa using hi)⟩
  obtain ⟨rfl, c, hc, rfl⟩ := y
  rw [List.getElem?_map, hc] at hx
  cases hx
  exact ⟨Same.refl _, fun _ _ _ => rfl⟩
theorem vi_any {tl : TE} {ε : Env → Option D} (h : VE G ow tl .cl ε) : VI G ow (iAny G.1.K tl) (iotaA ε) := fun H0 av A σ H δ E xs e R k => by
  unfold iotaA at e
  cases he : ε δ with
  | none => rw [he] at e; cases e
  | some d =>
    rw [he] at e
    refine h H0 av A σ H δ E d he _ fun v H1 s r => ?_
    cases d <;> first | (cases e; done) | skip
    · cases e
      exact .inr (.inr ⟨_, r, k _ H1 s walkD_str⟩)
    · cases e
      obtain ⟨a, vs, rfl, na, rd, l⟩ := r
      exact .inl ⟨a, vs, rfl, rd, k _ H1 s (walkD_list (sq_ext na rd fun b o n e => by rw [cut_of fun ⟨i, z⟩ => n (.inr ⟨i, z⟩)]; exact e) l.cut)⟩
    · cases e
      obtain ⟨a, vs, rfl, na, rd, l⟩ := r
      exact .inr (.inl ⟨a, vs, rfl, SqT.of rd, k _ H1 s (walkD_tup (by rw [cut_of fun ⟨i, z⟩ => na (.inr ⟨i, z⟩)]; exact rd) l.cut)⟩)
/-- the rngI lo, lo + c, .. -/
def rngI (lo c : Int) (n : Nat) : List D := (List.range n).map fun k => .int (lo + (k : Nat) * c)
theorem walkD_rng {iv : Addr → Prop} {H0 : Hp} {lo : Int} {n : Nat} : WalkD cA iv (Itr lo n) (rngI lo 1 n) H0 := fun H s => by
  refine ⟨fun i hi => (show i < n by simpa [rngI] using hi), fun i x v H' hx y => ?_, fun i hi => (show n ≤ i by simpa [rngI] using hi)⟩
  obtain ⟨rfl, rfl⟩ := y
  have hi : i < n := by have := (List.getElem?_eq_some_iff.mp hx).1; simpa [rngI] using this
  have : x = .int (lo + i) := by
    unfold rngI at hx
    rw [List.getElem?_map, List.getElem?_range hi] at hx
    have := Option.some.inj hx
    rw [← this]
    show D.int (lo + (i : Int) * 1) = _
    rw [Int.mul_one]
  subst this
  exact ⟨Same.refl _, fun _ _ _ => rfl⟩
theorem walkD_rngc {iv : Addr → Prop} {H0 : Hp} {lo c : Int} {n : Nat} : WalkD cA iv (Itrc lo c n) (rngI lo c n) H0 := fun H s => by
  refine ⟨fun i hi => (show i < n by simpa [rngI] using hi), fun i x v H' hx y => ?_, fun i hi => (show n ≤ i by simpa [rngI] using hi)⟩
  obtain ⟨rfl, rfl⟩ := y
  have hi : i < n := by have := (List.getElem?_eq_some_iff.mp hx).1; simpa [rngI] using this
  have : x = .int (lo + i * c) := by
    unfold rngI at hx
    rw [List.getElem?_map, List.getElem?_range hi] at hx
    exact (Option.some.inj hx).symm
  subst this
  exact ⟨Same.refl _, fun _ _ _ => rfl⟩
def iotaR (α : Env → Option (List D)) (δ : Env) : Option (List D) := match α δ with
  | some [.int j] => if -(2 ^ 62) ≤ j ∧ j < 2 ^ 62 then some (rngI 0 1 j.toNat) else none
  | some [.int i, .int j] => if -(2 ^ 62) ≤ i ∧ i < 2 ^ 62 ∧ -(2 ^ 62) ≤ j ∧ j < 2 ^ 62 then some (rngI i 1 (j - i).toNat) else none
  | some [.int i, .int j, .int c] => if c ≠ 0 ∧ c.natAbs < 1073741824 ∧ Builtin.Range.small i j c = true then some (rngI i c (Builtin.Range.rangeSize i j c).toNat) else none
  | _ => none
theorem ql1 {av : Addr → Prop} {A : Nat → Option Addr} {H : Hp} {q : Ql} {x : Int} {vs : List V} (h : RepQL cA av A H q [.int x] vs) : vs = [.int x] := by
  obtain ⟨v, r, rfl, h1, h2⟩ := h
  have := h1.any
  cases (show v = _ from this); cases (show r = [] from h2); rfl
theorem ql2 {av : Addr → Prop} {A : Nat → Option Addr} {H : Hp} {q : Ql} {x y : Int} {vs : List V} (h : RepQL cA av A H q [.int x, .int y] vs) : vs = [.int x, .int y] := by
  obtain ⟨v, r, rfl, h1, h2⟩ := h
  have := h1.any
  cases (show v = _ from this); rw [ql1 h2]
theorem ql3 {av : Addr → Prop} {A : Nat → Option Addr} {H : Hp} {q : Ql} {x y z : Int} {vs : List V} (h : RepQL cA av A H q [.int x, .int y, .int z] vs) : vs = [.int x, .int y, .int z] := by
  obtain ⟨v, r, rfl, h1, h2⟩ := h
  have := h1.any
  cases (show v = _ from this); rw [ql2 h2]
theorem vi_rng1 {ta : TA} {q : Ql} {a : Env → Option (List D)} (h : VA G ow ta q a) (hl : ∀ δ ds, a δ = some ds → ds.length = 1) : VI G ow (iRng1 ta) (iotaR a) := fun H0 av A σ H δ E xs e R k => by
  unfold iotaR at e
  cases he : a δ with
  | none => rw [he] at e; cases e
  | some ds =>
    rw [he] at e
    refine h H0 av A σ H δ E ds he _ fun vs H1 s r => ?_
    have hln := hl δ ds he
    split at e
    · rename_i j he2
      cases he2
      by_cases hz : -(2 ^ 62) ≤ j ∧ j < 2 ^ 62
      · rw [if_pos hz] at e
        cases e
        exact ⟨j, ql1 r, hz.1, hz.2, k _ H1 s walkD_rng⟩
      · rw [if_neg hz] at e; cases e
    · rename_i he2; cases he2; simp at hln
    · rename_i he2; cases he2; simp at hln
    · cases e
theorem vi_rng2 {ta : TA} {q : Ql} {a : Env → Option (List D)} (h : VA G ow ta q a) (hl : ∀ δ ds, a δ = some ds → ds.length = 2) : VI G ow (iRng2 ta) (iotaR a) := fun H0 av A σ H δ E xs e R k => by
  unfold iotaR at e
  cases he : a δ with
  | none => rw [he] at e; cases e
  | some ds =>
    rw [he] at e
    refine h H0 av A σ H δ E ds he _ fun vs H1 s r => ?_
    have hln := hl δ ds he
    split at e
    · rename_i he2; cases he2; simp at hln
    · rename_i i j he2
      cases he2
      by_cases hz : -(2 ^ 62) ≤ i ∧ i < 2 ^ 62 ∧ -(2 ^ 62) ≤ j ∧ j < 2 ^ 62
      · rw [if_pos hz] at e
        cases e
        exact ⟨i, j, ql2 r, hz, k _ H1 s walkD_rng⟩
      · rw [if_neg hz] at e; cases e
    · rename_i he2; cases he2; simp at hln
    · cases e
theorem vi_rng3 {ta : TA} {q : Ql} {a : Env → Option (List D)} (h : VA G ow ta q a) (hl : ∀ δ ds, a δ = some ds → ds.length = 3) : VI G ow (iRng3 ta) (iotaR a) := fun H0 av A σ H δ E xs e R k => by
  unfold iotaR at e
  cases he : a δ with
  | none => rw [he] at e; cases e
  | some ds =>
    rw [he] at e
    refine h H0 av A σ H δ E ds he _ fun vs H1 s r => ?_
    have hln := hl δ ds he
    split at e
    · rename_i he2; cases he2; simp at hln
    · rename_i he2; cases he2; simp at hln
    · rename_i i j c he2
      cases he2
      by_cases hz : c ≠ 0 ∧ c.natAbs < 1073741824 ∧ Builtin.Range.small i j c = true
      · rw [if_pos hz] at e
        cases e
        exact ⟨i, j, c, ql3 r, hz, k _ H1 s walkD_rngc⟩
      · rw [if_neg hz] at e; cases e
    · cases e
theorem len_nil {δ : Env} {ds : List D} (h : eNil δ = some ds) : ds.length = 0 := by cases h; rfl
theorem len_cons {a : Env → Option D} {r : Env → Option (List D)} {n : Nat} (hr : ∀ δ ds, r δ = some ds → ds.length = n) : ∀ δ ds, eCons a r δ = some ds → ds.length = n + 1 := fun δ ds h => by
  unfold eCons at h
  cases ha : a δ with
  | none => rw [ha] at h; cases h
  | some x =>
    rw [ha] at h
    cases hr' : r δ with
    | none => rw [hr'] at h; cases h
    | some xs => rw [hr'] at h; cases h; rw [List.length_cons, hr δ xs hr']
theorem len1 {a : Env → Option D} : ∀ δ ds, eCons a eNil δ = some ds → ds.length = 1 := len_cons fun _ _ => len_nil
theorem len2 {a b : Env → Option D} : ∀ δ ds, eCons a (eCons b eNil) δ = some ds → ds.length = 2 := len_cons len1
theorem len3 {a b c : Env → Option D} : ∀ δ ds, eCons a (eCons b (eCons c eNil)) δ = some ds → ds.length = 3 := len_cons len2
/-! ### list comprehensions -/
def blkD (n : Nat) (δ : Env) (js : List Nat) : Env := List.replicate n none ++ js.map fun j => (δ[j]?).getD none
def compD (γ : D → Env → Option Env) (τ : Env → Option Bool) (ε : Env → Option D) (δ0 : Env) : List D → Option (List D)
  | [] => some []
  | x :: r => match γ x δ0 with
    | none => none
    | some δ1 => match τ δ1 with
      | none => none
      | some false => compD γ τ ε δ0 r
      | some true => match ε δ1 with
        | none => none
        | some y => match compD γ τ ε δ0 r with
          | none => none
          | some ys => some (y :: ys)
def eComp (ι : Env → Option (List D)) (γ : D → Env → Option Env) (τ : Env → Option Bool) (ε : Env → Option D) (n : Nat) (js : List Nat) (δ : Env) : Option D := match ι δ with
  | none => none
  | some xs => match compD γ τ ε (blkD n δ js) xs with
    | none => none
    | some ys => if ys.length ≤ sizeLine then some (.lst ys) else none
theorem ER.blk {H0 H : Hp} {av : Addr → Prop} {A : Nat → Option Addr} {σ : L2.St} {δ : Env} (n : Nat) (js : List Nat) (hjs : js.all (fun j => !ow.contains j) = true) (E : ER G ow H0 av A σ H δ) :
    ER ⟨G.1, fun _ => none⟩ [] H (AV av A) (fun _ => none) (L2.blk n σ js) H (blkD n δ js) := by
  refine ⟨Same.refl H, E.avl, fun _ _ z => (by cases z), fun _ _ _ z => (by cases z), fun _ _ z => (by cases z), fun _ z => absurd rfl z, fun _ z => (by cases z), ?_, fun _ _ z => (by cases z), fun _ _ z => (by cases z), fun i d e => ?_⟩
  · unfold L2.blk blkD pick
    rw [List.length_append, List.length_append, List.length_replicate, List.length_replicate, List.length_map, List.length_map]
  · unfold blkD at e
    by_cases hi : i < n
    · rw [List.getElem?_append_left (by simpa using hi), List.getElem?_replicate, if_pos hi] at e
      cases e
    · rw [List.getElem?_append_right (by simpa using hi), List.length_replicate, List.getElem?_map] at e
      cases hj : js[i - n]? with
      | none => rw [hj] at e; cases e
      | some j =>
        rw [hj] at e
        have e' : (δ[j]?).getD none = some d := Option.some.inj e
        have e2 : δ[j]? = some (some d) := by
          cases q : δ[j]? with
          | none => rw [q] at e'; cases e'
          | some z => rw [q] at e'; exact congrArg some e'
        obtain ⟨v, h1, h2, _⟩ := E.var j d e2
        have hjo : A j = none := by
          cases q : A j with
          | none => rfl
          | some a =>
            have h3 := E.dom j (by rw [q]; exact fun z => by cases z)
            have h4 := List.all_eq_true.mp hjs j (List.mem_of_getElem? hj)
            simp at h4
            exact absurd h3 h4
        refine ⟨v, ?_, fun _ => (h2 hjo).av fun b z => ?_, fun _ z => (by cases z)⟩
        · unfold L2.blk pick
          rw [List.getElem?_append_right (by simpa using hi), List.length_replicate, List.getElem?_map, hj]
          show some ((σ[j]?).getD none) = _
          rw [h1]; rfl
        · rcases z with z | ⟨_, z⟩
          · exact .inl z
          · cases z
theorem vf_comp {wi : TI} {g : TG} {tt : TT} {te : TE} {n : Nat} {js : List Nat} {ι : Env → Option (List D)} {γ : D → Env → Option Env} {τ : Env → Option Bool} {ε : Env → Option D}
    (hjs : js.all (fun j => !ow.contains j) = true) (hi : VI G ow wi ι) (hg : VG ⟨G.1, fun _ => none⟩ [] [] g γ) (ht : VT ⟨G.1, fun _ => none⟩ [] tt τ) (he : VE ⟨G.1, fun _ => none⟩ [] te .cl ε) : VF G ow (tComp wi g tt te n js) (eComp ι γ τ ε n js) := fun H0 av A σ H δ E d e Q k => by
  unfold eComp at e
  cases hι : ι δ with
  | none => rw [hι] at e; cases e
  | some xs =>
    rw [hι] at e
    dsimp only at e
    cases hc : compD γ τ ε (blkD n δ js) xs with
    | none => rw [hc] at e; cases e
    | some full =>
      rw [hc] at e
      dsimp only at e
      by_cases hz : full.length ≤ sizeLine
      · rw [if_pos hz] at e
        have ed : D.lst full = d := Option.some.inj e
        refine hi H0 av A σ H δ E xs hι _ fun J H1 s1 W => ?_
        have E1 := E.mono s1
        refine ⟨fun i m ys H' => m = xs.length - i ∧ i ≤ xs.length ∧ Same H1 H' ∧ ∃ done rest, RepL G.1 (AV av A) H' done ys ∧ compD γ τ ε (blkD n δ js) (xs.drop i) = some rest ∧ done ++ rest = full,
          ⟨xs.length, by simp, Nat.zero_le _, Same.refl _, [], full, .nil, hc, rfl⟩, ?_⟩
        rintro i m ys H' ⟨rfl, hle, s', done, rest, rl, hr, hf⟩
        have E' := E1.mono s'
        have sc : Same (DL.cut A H1) H' := fun b o z => s' b o (cut_some z).1
        obtain ⟨w1, w2, w3⟩ := W H' sc
        by_cases hlt : i < xs.length
        · refine .inr ⟨w1 i hlt, fun v H2 y => ?_⟩
          have hx : xs[i]? = some xs[i] := List.getElem?_eq_getElem hlt
          obtain ⟨s2, rep⟩ := w2 i _ v H2 hx y
          have rep' : Rep G.1 (AV av A) H2 xs[i] v := rep _ E'.avl fun b z => .inl z
          have E2 := E'.mono s2
          have EB : ER ⟨G.1, fun _ => none⟩ [] H2 (AV av A) (fun _ => none) (L2.blk n σ js) H2 (blkD n δ js) := E2.blk n js hjs
          have triv : ∀ (A' : Nat → Option Addr) {σ' : L2.St} {H3 : Hp} {δ' : Env}, ER ⟨G.1, fun _ => none⟩ [] H2 (AV av A) A' σ' H3 δ' → ∀ b, AV (AV av A) A' b ↔ AV av A b := fun A' {σ' H3 δ'} E3 b => by
            constructor
            · rintro (z | ⟨j, z⟩)
              · exact z
              · have := E3.dom j (by rw [z]; exact fun z => by cases z)
                cases this
            · exact fun z => .inl z
          rw [List.drop_eq_getElem_cons hlt] at hr
          unfold compD at hr
          cases hγ : γ xs[i] (blkD n δ js) with
          | none => rw [hγ] at hr; cases hr
          | some δ1 =>
            rw [hγ] at hr
            dsimp only at hr
            refine hg _ _ _ _ H2 _ EB _ v (rep'.av fun b z => .inl ((triv _ EB b).mp z)) δ1 hγ _ fun A3 σ3 H3 s3 E3 => ?_
            cases hτ : τ δ1 with
            | none => rw [hτ] at hr; cases hr
            | some c =>
              rw [hτ] at hr
              refine ht _ _ A3 σ3 H3 δ1 E3 c hτ _ fun H4 s4 => ?_
              have E4 := E3.mono s4
              cases c with
              | false =>
                exact iteF ⟨xs.length - (i + 1), by omega, rfl, hlt, (s'.trans s2).trans (s3.trans s4), done, rest, rl.same ((s2.trans s3).trans s4), hr, hf⟩
              | true =>
                dsimp only at hr
                cases hε : ε δ1 with
                | none => rw [hε] at hr; cases hr
                | some yd =>
                  rw [hε] at hr
                  dsimp only at hr
                  cases hr' : compD γ τ ε (blkD n δ js) (xs.drop (i + 1)) with
                  | none => rw [hr'] at hr; cases hr
                  | some rest' =>
                    rw [hr'] at hr
                    have hrr : yd :: rest' = rest := Option.some.inj hr
                    subst hrr
                    refine iteT (he _ _ A3 σ3 H4 δ1 E4 yd hε _ fun vy H5 s5 r5 => ?_)
                    have sall : Same H' H5 := ((s2.trans s3).trans s4).trans s5
                    refine ⟨?_, xs.length - (i + 1), by omega, rfl, hlt, s'.trans sall, done ++ [yd], rest', (rl.same sall).append (.cons ((RepT.r r5).av fun b z => .inl ((triv _ E4 b).mpr z)) .nil), hr', by rw [← hf]; simp⟩
                    have := congrArg List.length hf
                    rw [List.length_append, List.length_cons] at this
                    have := rl.length
                    omega
        · have ei : i = xs.length := by omega
          subst ei
          rw [List.drop_length] at hr
          cases hr
          refine .inl ⟨w3 _ (Nat.le_refl _), fun p hp => k p ys full H' (s1.trans s') hp (by rw [← hf, List.append_nil]; exact rl) ed.symm⟩
      · rw [if_neg hz] at e; cases e
/-! ### calls of the text's defs -/
/-- a def's promise: what its function m tells -/
def spD (cA : Kn) (n : Nat) (m : List D → Option D) : Sp := fun vs H Q _ => ∃ av ds d, (∀ a, av a → H a ≠ none) ∧ RepL cA av H ds vs ∧ ds.length = n ∧ m ds = some d ∧ ∀ v H', Same H H' → Rep cA av H' d v → Q v H'
def eCall (n : Nat) (m : List D → Option D) (dds : List D) (α : Env → Option (List D)) (δ : Env) : Option D := match α δ with
  | some ds => if (ds ++ dds).length = n then m (ds ++ dds) else none
  | none => none
def Ql.cq : Ql → Ql
  | .cl => .cl
  | _ => .dt
theorem ve_call {n : Nat} {m : List D → Option D} {t : TA} {q : Ql} {α : Env → Option (List D)} {E0 : XK} (dds : List D) (hd : dds.all scalar = true) (h : VA G ow t q α) : VE G ow (tCall (spD G.1 n m) (dds.map val) E0 t) q.cq (eCall n m dds α) := fun H0 av A σ H δ E d e Q k => by
  unfold eCall at e
  cases he : α δ with
  | none => rw [he] at e; cases e
  | some ds =>
    rw [he] at e
    dsimp only at e
    by_cases hz : (ds ++ dds).length = n
    · rw [if_pos hz] at e
      refine h H0 av A σ H δ E ds he _ fun vs H1 s1 r1 => ?_
      have E1 := E.mono s1
      cases q with
      | cl => exact ⟨AV av A, ds ++ dds, d, E1.avl, r1.cl.append (.of_vals hd), hz, e, fun v H' s r => k v H' (s1.trans s) r.t⟩
      | tp => exact ⟨av, ds ++ dds, d, E1.avH, r1.any.append (.of_vals hd), hz, e, fun v H' s r => k v H' (s1.trans s) r.t⟩
      | dt => exact ⟨av, ds ++ dds, d, E1.avH, r1.any.append (.of_vals hd), hz, e, fun v H' s r => k v H' (s1.trans s) r.t⟩
    · rw [if_neg hz] at e; cases e
def run (N : Nat) (φ : Env → Option Out) (ds : List D) : Option D := match φ (ds.map some ++ List.replicate (N - ds.length) none) with
  | some (.rt d) => some d
  | some (.nx _) => some .non
  | _ => none
theorem start_get {N : List Str} {ds : List D} {vs : List V} {av : Addr → Prop} {H : Hp} (r : RepL cA av H ds vs) {i : Nat} {d : D} (h : (ds.map some ++ List.replicate (N.length - ds.length) none)[i]? = some (some d)) :
    ∃ v, (L2.start N vs)[i]? = some (some v) ∧ Rep cA av H d v := by
  by_cases hi : i < ds.length
  · rw [List.getElem?_append_left (by simpa using hi), List.getElem?_map] at h
    cases hd : ds[i]? with
    | none => rw [hd] at h; cases h
    | some x =>
      rw [hd] at h
      cases h
      obtain ⟨v, hv, rv⟩ := r.get hd
      refine ⟨v, ?_, rv⟩
      unfold L2.start
      have : i < vs.length := by rw [← r.length]; exact hi
      rw [List.getElem?_append_left (by simpa using this), List.getElem?_map, hv]
      rfl
  · rw [List.getElem?_append_right (by simpa using hi), List.getElem?_replicate] at h
    split at h <;> cases h
theorem er_start {N : List Str} {ds : List D} {vs : List V} {av : Addr → Prop} {H : Hp} (ha : ∀ a, av a → H a ≠ none) (r : RepL cA av H ds vs) :
    ER ⟨cA, fun _ => none⟩ [] H av (fun _ => none) (L2.start N vs) H (ds.map some ++ List.replicate (N.length - ds.length) none) := by
  refine ⟨Same.refl H, ha, fun _ _ z => (by cases z), fun _ _ _ z => (by cases z), fun _ _ z => (by cases z), fun _ z => absurd rfl z, fun _ z => (by cases z), ?_, fun _ _ z => (by cases z), fun _ _ z => (by cases z), fun i d e => ?_⟩
  · unfold L2.start
    rw [List.length_append, List.length_append, List.length_map, List.length_map, List.length_replicate, List.length_replicate, r.length]
  · obtain ⟨v, h1, h2⟩ := start_get r e
    refine ⟨v, h1, fun _ => h2.av fun b z => ?_, fun _ z => (by cases z)⟩
    rcases z with z | ⟨_, z⟩
    · exact .inl z
    · cases z
section
variable {P : Program} {w : World} {K : PySem.W.Frag} {mg : Str → Option Value} {base : Heap}
end
/-! ### slices -/
theorem cutV_eq {vs : List V} {lo hi : Option Int} : cutV vs lo hi = cutL vs lo hi := by
  unfold cutV cutL
  have e : ∀ n d o, HT.sIx n d o = sIx' n d o := fun n d o => by cases o <;> rfl
  rw [e, e]
theorem RepL.cutL {av : Addr → Prop} {H : Hp} {xs : List D} {vs : List V} (l : RepL cA av H xs vs) (lo hi : Option Int) : RepL cA av H (L2.cutL xs lo hi) (L2.cutL vs lo hi) := by
  unfold L2.cutL
  rw [l.length]
  exact (l.drop _).take _
def xNoP (_ : Env) : Option (Option Int) := some none
def xP (ε : Env → Option D) (δ : Env) : Option (Option Int) := match ε δ with
  | some (.int i) => some (some i)
  | _ => none
def VO (G : Cn) (ow : List Nat) (to : TO) (ω : Env → Option (Option Int)) : Prop :=
  ∀ H0 av A σ H δ, ER G ow H0 av A σ H δ → ∀ x, ω δ = some x → ∀ Q : Option Int → Hp → Prop, (∀ H', Same H H' → Q x H') → to σ H Q
theorem vo_none : VO G ow tNoPart xNoP := fun H0 av A σ H δ E x e Q k => by
  cases e
  exact k H (Same.refl H)
theorem vo_some {te : TE} {q : Ql} {ε : Env → Option D} (h : VE G ow te q ε) : VO G ow (tPart te) (xP ε) := fun H0 av A σ H δ E x e Q k => by
  unfold xP at e
  cases he : ε δ with
  | none => rw [he] at e; cases e
  | some d =>
    rw [he] at e
    cases d <;> first | (cases e; done) | skip
    cases e
    exact h H0 av A σ H δ E _ he _ fun v H' s r => ⟨_, r.any, k H' s⟩
def slD : D → Option Int → Option Int → Option D
  | .str a, lo, hi => if a.length ≤ sizeLine then some (.str (L2.cutL a lo hi)) else none
  | .lst xs, lo, hi => some (.lst (L2.cutL xs lo hi))
  | .tup xs, lo, hi => if sIx' xs.length 0 lo = 0 ∧ sIx' xs.length xs.length hi = xs.length then none else some (.tup (L2.cutL xs lo hi))
  | _, _, _ => none
def eSl (a : Env → Option D) (lo hi : Env → Option (Option Int)) (δ : Env) : Option D := match a δ with
  | some x => match lo δ with
    | some l => match hi δ with
      | some u => slD x l u
      | none => none
    | none => none
  | none => none
theorem eSl_some {a : Env → Option D} {lo hi : Env → Option (Option Int)} {δ : Env} {d : D} (h : eSl a lo hi δ = some d) : ∃ x l u, a δ = some x ∧ lo δ = some l ∧ hi δ = some u ∧ slD x l u = some d := by
  unfold eSl at h
  cases ea : a δ with
  | none => rw [ea] at h; cases h
  | some x =>
    rw [ea] at h
    cases el : lo δ with
    | none => rw [el] at h; cases h
    | some l =>
      rw [el] at h
      cases eu : hi δ with
      | none => rw [eu] at h; cases h
      | some u => rw [eu] at h; exact ⟨x, l, u, rfl, rfl, rfl, h⟩
theorem ve_sl {ta : TE} {tl th : TO} {q : Ql} {a : Env → Option D} {lo hi : Env → Option (Option Int)} (hq : q = .cl ∨ q = .tp) (ha : VE G ow ta q a) (hl : VO G ow tl lo) (hh : VO G ow th hi) : VE G ow (tSl (rSlX G.1.K) ta tl th) .cl (eSl a lo hi) := fun H0 av A σ H δ E d e Q k => by
  obtain ⟨x, l, u, ex, el, eu, ed⟩ := eSl_some e
  refine ha H0 av A σ H δ E x ex _ fun v H1 s1 r1 => hl H0 av A σ H1 δ (E.mono s1) l el _ fun H2 s2 => hh H0 av A σ H2 δ ((E.mono s1).mono s2) u eu _ fun H3 s3 => ?_
  have s13 := s2.trans s3
  have E3 := (E.mono s1).mono s13
  have r3 : RepT G.1 av (AV av A) H3 x v := by
    have := (r1.same s13).tp
    rcases hq with rfl | rfl <;> exact this
  cases x <;> first | (cases ed; done) | skip
  · rename_i cs
    cases (show v = _ from r3)
    dsimp only [slD] at ed
    by_cases hz : cs.length ≤ sizeLine
    · rw [if_pos hz] at ed
      cases ed
      exact .inl ⟨cs, rfl, hz, k _ H3 (s1.trans s13) rfl⟩
    · rw [if_neg hz] at ed; cases ed
  · cases ed
    obtain ⟨p, vs, rfl, _, rd, ll⟩ := r3
    refine .inr (.inl ⟨p, vs, rfl, rd, fun p' hp => ?_⟩)
    rw [cutV_eq]
    exact k _ _ ((s1.trans s13).trans (same_upd hp)) ⟨p', _, rfl, fun z => (E3.avl p' z hp).elim, SqL.of upd_same, (ll.cutL l u).same (same_upd hp)⟩
  · rename_i xs
    dsimp only [slD] at ed
    by_cases hz : sIx' xs.length 0 l = 0 ∧ sIx' xs.length xs.length u = xs.length
    · rw [if_pos hz] at ed; cases ed
    · rw [if_neg hz] at ed
      cases ed
      obtain ⟨p, vs, rfl, _, rd, ll⟩ := r3
      refine .inr (.inr ⟨p, vs, rfl, SqT.of rd, ?_, fun p' hp => ?_⟩)
      · have e : ∀ n d o, HT.sIx n d o = sIx' n d o := fun n d o => by cases o <;> rfl
        rw [e, e, ← ll.length]
        exact hz
      · rw [cutV_eq]
        exact k _ _ ((s1.trans s13).trans (same_upd hp)) ⟨p', _, rfl, fun z => E3.avl p' z hp, upd_same, (ll.cutL l u).same (same_upd hp)⟩
/-! ### isinstance -/
def rIsiX (K : PySem.W.Frag) : List V → Hp → VK → Prop := fun xs H Q => rIsi K xs H Q ∨ ∃ p vs c cv b, xs = [.ref p, c] ∧ (∀ v, RelV c v → v = cv) ∧ KL K p vs ∧ PySem.W.kitOne K (.type "list") cv = some b ∧ Q (.bl b) H
def kind : D → String
  | .non => "NoneType"
  | .bl _ => "bool"
  | .int _ => "int"
  | .str _ => "str"
  | .lst _ => "list"
  | .tup _ => "tuple"
  | .obj c _ _ => c
  | .dct _ _ => "dict"
def plainKinds : List String := ["NoneType", "bool", "int", "str", "list", "tuple"]
def isiD (tab : List (String × Bool)) : D → Option Bool
  | .obj c _ _ => if plainKinds.contains c then none else tab.lookup c
  | .dct _ _ => none
  | d => tab.lookup (kind d)
def eIsi (tab : List (String × Bool)) (a : Env → Option D) (δ : Env) : Option D := match a δ with
  | some d => match isiD tab d with
    | some b => some (.bl b)
    | none => none
  | none => none
structure ClsI (K : PySem.W.Frag) (C : Addr) : Prop where
  cl : Cls K C
  ha : PySem.W.findIn K (.ref C) "__class__" = some (some (.builtin "object.__class__"))
  hn : PySem.W.specialIn K (.builtin "object.__class__") "__get__" = some (some (.builtin "getset_descriptor.__get__"))
  htk : PySem.W.takesIn K (.builtin "object.__class__") = some true
  hm : PySem.W.mroIn K C (.type "object") = some true
/-- what isinstance tells of the kinds -/
structure IsiOk (K : PySem.W.Frag) (cA : Kn) (cv : Value) (tab : List (String × Bool)) : Prop where
  plain : ∀ k ∈ plainKinds, ∀ b, tab.lookup k = some b → PySem.W.kitOne K (.type k) cv = some b
  own : ∀ (c : String) b, plainKinds.contains c = false → tab.lookup c = some b → PySem.W.kitOne K (.ref (cA.c c)) cv = some b ∧ ClsI K (cA.c c)
end
end DL

namespace L2
open PySem PySem.Spec
section
variable {X : Cx}
theorem mt_index : MtR X "str.index" (fun x xs H Q => ∃ a c i, x = S a ∧ xs = [S [c]] ∧ findL c a = (i : Nat) ∧ Q (.int (i : Nat)) H) := by
  intro pins s σ H x xs v us Q I rx rs h
  obtain ⟨a, c, i, rfl, rfl, e, q⟩ := h
  obtain ⟨t, rfl⟩ := rx
  obtain ⟨u, rfl, t', rfl⟩ := vals1 rs
  have e' := find_tx a c
  rw [e] at e'
  unfold Txt.find at e'
  cases ho : Builtin.Str.occurrences (tx a) (tx [c]) 0 (tx a).length 1 with
  | nil => rw [ho] at e'; exact absurd e' (by show ¬ (-1 : Int) = (i : Int); omega)
  | cons j r =>
    rw [ho] at e'
    have e2 : j = i := by
      have : (j : Int) = (i : Int) := e'
      omega
    subst e2
    exact SC.index ho ⟨.int _, H, I.tok _, ⟨_, rfl⟩, q⟩
theorem strsAre_of : ∀ {l : List (List Nat)} {us : List Value}, Vals (l.map S) us → PyProof.Rows.StrsAre us (l.map tx)
  | [], us, r => by
    rw [List.map_nil] at r
    cases r
    exact .nil
  | a :: l, us, r => by
    rw [List.map_cons] at r
    cases r with
    | cons r1 r2 =>
      obtain ⟨t, rfl⟩ := r1
      exact .cons _ t (strsAre_of r2)
theorem mt_join {K : PySem.W.Frag} (hK : X.K = K := by rfl) : MtR X "str.join" (fun x xs H Q => ∃ sep p l, x = S sep ∧ xs = [.ref p] ∧ SqL K H p (l.map S) ∧ (l.map List.length).sum + l.length * sep.length ≤ sizeLine ∧ Q (S (joinL sep l)) H) := by
  subst hK
  intro pins s σ H x xs v us Q I rx rs h
  obtain ⟨sep, p, l, rfl, rfl, hq, hz, q⟩ := h
  obtain ⟨t, rfl⟩ := rx
  obtain ⟨u, rfl, rp⟩ := vals1 rs
  cases rp
  obtain ⟨its, rv, pl, _⟩ := I.list hq
  have hs : sizeLine = 16777216 := sizeLine_eq
  refine PyProof.Rows.join_list (ys := l.map tx) pl.isList (by simpa using strsAre_of rv) ?_ fun t' k => ⟨S (joinL sep l), H, I.tok _, ⟨t', ?_⟩, q⟩
  · have e : ((l.map tx).map (·.length)) = l.map List.length := by
      rw [List.map_map]
      exact List.map_congr_left fun a _ => tx_len a
    rw [e, List.length_map, tx_len]
    omega
  · have := join_tx sep l
    show Value.str (Builtin.Str.glued (tx sep) (l.map tx)) t' = _
    rw [StrLaws.glued_eq_join, join_tx]
end
end L2
namespace DL
open PySem PySem.Spec L2
section
variable {cA : Kn} {G : Cn} {ow : List Nat}
/-! ### methods of texts -/
def BmOk (cA : Kn) (r : V → List V → Hp → VK → Prop) (f : List Nat → List D → Option D) : Prop :=
  ∀ (i : Addr → Prop) (H : Hp) (a : List Nat) (ds : List D) (vs : List V) (d : D), (∀ a, i a → H a ≠ none) → RepIL cA i H ds vs → f a ds = some d → ∀ Q : VK, (∀ v H', Same H H' → Rep cA i H' d v → Q v H') → r (S a) vs H Q
def eBM (f : List Nat → List D → Option D) (a : Env → Option D) (α : Env → Option (List D)) (δ : Env) : Option D := match a δ with
  | some (.str cs) => match α δ with
    | some ds => f cs ds
    | none => none
  | _ => none
theorem ve_bm {K : PySem.W.Frag} {r : V → List V → Hp → VK → Prop} {f : List Nat → List D → Option D} {to : TE} {t : TA} {q0 q : Ql} {a : Env → Option D} {α : Env → Option (List D)} (hr : BmOk G.1 r f) (ha : VE G ow to q0 a) (h : VA G ow t q α) :
    VE G ow (tBM K "str" r to t) q.it (eBM f a α) := fun H0 av A σ H δ E d e Q k => by
  unfold eBM at e
  cases hx : a δ with
  | none => rw [hx] at e; cases e
  | some x =>
    rw [hx] at e
    cases x <;> first | (cases e; done) | skip
    rename_i cs
    dsimp only at e
    cases he : α δ with
    | none => rw [he] at e; cases e
    | some ds =>
      rw [he] at e
      refine ha H0 av A σ H δ E _ hx _ fun v H1 s1 r1 => ?_
      have e1 : v = S cs := r1.any
      subst e1
      refine ⟨rfl, h H0 av A σ H1 δ (E.mono s1) ds he _ fun vs H2 s2 r2 => ?_⟩
      have E2 := (E.mono s1).mono s2
      have s12 := s1.trans s2
      cases q with
      | cl => exact hr _ H2 cs ds vs d E2.avl r2.il e _ fun v H' s r => k v H' (s12.trans s) r.t
      | tp => exact hr _ H2 cs ds vs d E2.avl r2.il e _ fun v H' s r => k v H' (s12.trans s) r.t
      | dt => exact hr _ H2 cs ds vs d E2.avH r2.il e _ fun v H' s r => k v H' (s12.trans s) r.t
def startsD (a : List Nat) : List D → Option D
  | [.str b] => some (.bl (b.isPrefixOf a))
  | _ => none
def endsD (a : List Nat) : List D → Option D
  | [.str b] => some (.bl (b.isSuffixOf a))
  | _ => none
def rfindD (a : List Nat) : List D → Option D
  | [.str [c]] => some (.int (rfindL c a))
  | _ => none
def findD (a : List Nat) : List D → Option D
  | [.str [c]] => some (.int (findL c a))
  | _ => none
def countD (a : List Nat) : List D → Option D
  | [.str [c]] => some (.int (a.count c : Nat))
  | _ => none
def indexD (a : List Nat) : List D → Option D
  | [.str [c]] => if 0 ≤ findL c a then some (.int (findL c a)) else none
  | _ => none
theorem il_str {i : Addr → Prop} {H : Hp} {b : List Nat} {vs : List V} (h : RepIL cA i H [.str b] vs) : vs = [S b] := by
  obtain ⟨v, t, rfl, hx⟩ := il1 h
  rw [show v = S b from hx]
theorem bm_index : BmOk cA (fun x xs H Q => ∃ a c i, x = S a ∧ xs = [S [c]] ∧ findL c a = (i : Nat) ∧ Q (.int (i : Nat)) H) indexD := fun i H a ds vs d _ h e Q k => by
  unfold indexD at e
  split at e
  · rename_i c
    by_cases hz : 0 ≤ findL c a
    · rw [if_pos hz] at e
      cases e
      exact ⟨a, c, (findL c a).toNat, rfl, il_str h, by omega, k _ H (Same.refl H) (by rw [Int.toNat_of_nonneg hz]; rfl)⟩
    · rw [if_neg hz] at e; cases e
  · cases e
/-- the texts of a list -/
def strs? : List D → Option (List (List Nat))
  | [] => some []
  | .str a :: r => match strs? r with
    | some l => some (a :: l)
    | none => none
  | _ => none
theorem strs_of : ∀ {xs : List D} {l : List (List Nat)}, strs? xs = some l → xs = l.map D.str
  | [], l, h => by cases h; rfl
  | x :: xs, l, h => by
    cases x <;> first | (cases h; done) | skip
    rename_i a
    unfold strs? at h
    cases hr : strs? xs with
    | none => rw [hr] at h; cases h
    | some r =>
      rw [hr] at h
      cases h
      rw [List.map_cons, strs_of hr]
def joinD (sep : List Nat) : List D → Option D
  | [.lst xs] => match strs? xs with
    | some l => if (l.map List.length).sum + l.length * sep.length ≤ sizeLine then some (.str (joinL sep l)) else none
    | none => none
  | _ => none
theorem bm_join : BmOk cA (fun x xs H Q => ∃ sep p l, x = S sep ∧ xs = [.ref p] ∧ SqL cA.K H p (l.map S) ∧ (l.map List.length).sum + l.length * sep.length ≤ sizeLine ∧ Q (S (joinL sep l)) H) joinD := fun i H a ds vs d _ h e Q k => by
  unfold joinD at e
  split at e
  · rename_i xs
    cases hs : strs? xs with
    | none => rw [hs] at e; cases e
    | some l =>
      rw [hs] at e
      dsimp only at e
      by_cases hz : (l.map List.length).sum + l.length * a.length ≤ sizeLine
      · rw [if_pos hz] at e
        cases e
        obtain ⟨v, t, rfl, p, ws, rfl, _, rd, ll⟩ := il1 h
        have ex := strs_of hs
        subst ex
        have ev := ll.vals (by rw [List.all_map]; exact List.all_eq_true.mpr fun _ _ => rfl)
        rw [List.map_map] at ev
        subst ev
        exact ⟨a, p, l, rfl, rfl, rd, hz, k _ H (Same.refl H) rfl⟩
      · rw [if_neg hz] at e; cases e
  · cases e
end
end DL

namespace L2
open PySem PySem.Spec
/-! ### a def with defaults -/
structure FunX (K : PySem.W.Frag) (x qual : Str) (st : Stmt) (f : Addr) (fd : FuncData) : Prop where
  ex : ∃ (oc : Value) (od : Option Addr) (dV kV doc pm : Value) (an : Option Addr) (cdv ct : Value) (osl : Array (Option Value)),
    fd = PySem.W.fnOf x qual (defArgs st) (defBody st) (defScope st) dV kV doc pm an cdv ct ∧ K.lookup f = some ⟨oc, od, .func fd, osl⟩ ∧ PySem.W.codeIn K cdv qual = true
theorem Fun.x {K : PySem.W.Frag} {x qual : Str} {st : Stmt} {f : Addr} {fd : FuncData} (F : Fun K x qual st f fd) : FunX K x qual st f fd := by
  obtain ⟨oc, od, kV, doc, pm, an, cdv, ct, osl, h⟩ := F.ex
  exact ⟨oc, od, .none, kV, doc, pm, an, cdv, ct, osl, h⟩
section
variable {P : Program} {w : World} {K : PySem.W.Frag} {mg : Str → Option Value} {base : Heap}
theorem FunX.ok {x qual : Str} {st : Stmt} {f : Addr} {fd : FuncData} {N ps : List Str} {k : Nat} {sp : Sp} (F : FunX K x qual st f fd) (S : FnScope N ps (defScope st)) (len : ∀ vs H Q E, sp vs H Q E → vs.length = ps.length)
    (hbody : ∀ (cdv : Value) (A : Around) (outer : List Env) (s : Shared) (H : Hp) (vs : List V) (Q : VK) (E : XK), Room k (A.deeper (PyProof.Rows.envOfC qual (defScope st) s.heap.objs.size f cdv)) → sp vs H Q E →
      ∃ t, PSs (cxOf CX0 P w K mg base N qual (defScope st) f cdv A outer s H E).nox (defBody st) t ∧ t { nx := fun _ H' => Q .non H', rt := Q } (start N vs) H) : FnOk P w K mg base CX0 (k + 1) f fd ps sp := by
  obtain ⟨oc, od, dV, kV, doc, pm, an, cdv, ct, osl, rfl, lk, hcd⟩ := F.ex
  refine fn_of lk hcd S len fun A outer s H vs Q E hr hsp => ?_
  obtain ⟨t, h, q⟩ := hbody cdv A outer s H vs Q E hr hsp
  exact ⟨t, h.nox, q⟩
end
/-! ### is True, is False -/
section
variable {X : Cx}
end
/-! ### C.f(e, ..), f a def of the class C -/
structure CMeth (K : PySem.W.Frag) (C : Addr) (m : Str) (f : Addr) : Prop where
  ga : PySem.W.specialIn K (.ref C) "__getattribute__" = some (some (.builtin "type.__getattribute__"))
  rd : PySem.W.readsIn K C (.type "type") = true
  fc : PySem.W.findCls K (.ref C) (.type "type") m = some (.val (.ref f))
  kp : PySem.W.keepIn K (.ref f) = true
section
variable {X : Cx} {CX : CXT} {k : Nat} {f C : Addr} {fd : FuncData} {ps : List Str} {sp : Sp} {dvs : List V} {ds : List Value} {E : XK} {x m : Str} {p pos apos : Pos} {e o : Expr} {es : List Expr} {ta : TE} {t : TA}
end
end L2
namespace DL
open PySem PySem.Spec L2
/-! ### names of fields -/
theorem ofString_inj {a b : String} (h : Str.ofString a = Str.ofString b) : a = b := by
  rw [Str.ofString_eq_toList, Str.ofString_eq_toList] at h
  have h1 : (a.toList.map Char.toNat) = (b.toList.map Char.toNat) := by
    have := congrArg (fun s : Str => s.cps.toList) h
    simpa using this
  have inj : ∀ {x y : List Char}, x.map Char.toNat = y.map Char.toNat → x = y := by
    intro x
    induction x with
    | nil =>
      intro y h
      cases y with
      | nil => rfl
      | cons _ _ => cases h
    | cons c x ih =>
      intro y h
      cases y with
      | nil => cases h
      | cons d y =>
        rw [List.map_cons, List.map_cons, List.cons.injEq] at h
        have : c = d := Char.toNat_inj.mp h.1
        rw [this, ih h.2]
  exact String.toList_inj.mp (inj h1)
theorem ofString_beq (a b : String) : (Str.ofString a == Str.ofString b) = (a == b) := by
  rw [Bool.eq_iff_iff, beq_iff_eq, beq_iff_eq]
  exact ⟨ofString_inj, fun h => by rw [h]⟩
section
variable {cA : Kn} {G : Cn} {ow owN owB owC : List Nat}
theorem fld_look {av : Addr → Prop} {H : Hp} {f : String} : ∀ {ks : List String} {xs : List D} {vs : List V} {d : D}, RepL cA av H xs vs → (ks.zip xs).lookup f = some d → ∃ v, ((ks.map Str.ofString).zip vs).lookup (Str.ofString f) = some v ∧ Rep cA av H d v
  | [], _, _, _, _, h => by simp at h
  | k :: ks, [], _, _, _, h => by simp at h
  | k :: ks, x :: xs, vs, d, l, h => by
    obtain ⟨v, r, rfl, h1, h2⟩ := l.uncons
    rw [List.zip_cons_cons, List.lookup_cons] at h
    rw [List.map_cons, List.zip_cons_cons, List.lookup_cons, ofString_beq]
    cases hk : f == k with
    | true => rw [hk] at h; cases h; exact ⟨v, rfl, h1⟩
    | false => rw [hk] at h; exact fld_look h2 h
theorem fld_none {f : String} : ∀ {ks : List String} {vs : List V}, ks.contains f = false → ((ks.map Str.ofString).zip vs).lookup (Str.ofString f) = none
  | [], _, _ => by simp
  | k :: ks, [], _ => by simp
  | k :: ks, v :: vs, h => by
    rw [List.contains_cons, Bool.or_eq_false_iff] at h
    rw [List.map_cons, List.zip_cons_cons, List.lookup_cons, ofString_beq, h.1]
    exact fld_none h.2
theorem put_new {f : String} {y : V} : ∀ {ks : List String} {vs : List V}, ks.length = vs.length → ks.contains f = false → putF (Str.ofString f) y ((ks.map Str.ofString).zip vs) = (((ks ++ [f]).map Str.ofString).zip (vs ++ [y]))
  | [], [], _, _ => rfl
  | [], _ :: _, h, _ => by simp at h
  | _ :: _, [], h, _ => by simp at h
  | k :: ks, v :: vs, h, hf => by
    rw [List.contains_cons, Bool.or_eq_false_iff] at hf
    have hne : ¬ Str.ofString k = Str.ofString f := fun z => by
      have := ofString_inj z
      have h1 := hf.1
      rw [this] at h1
      simp at h1
    rw [List.map_cons, List.zip_cons_cons, List.cons_append, List.cons_append, List.map_cons, List.zip_cons_cons]
    rw [show putF (Str.ofString f) y ((Str.ofString k, v) :: (ks.map Str.ofString).zip vs) = (if Str.ofString k = Str.ofString f then (Str.ofString k, y) :: (ks.map Str.ofString).zip vs else (Str.ofString k, v) :: putF (Str.ofString f) y ((ks.map Str.ofString).zip vs)) from rfl, if_neg hne]
    rw [put_new (by simpa using h) hf.2]
/-! ### e.f -/
def FldOk (K : PySem.W.Frag) (cA : Kn) (cls : List String) (f : String) : Prop := ∀ c ∈ cls, Cls K (cA.c c) ∧ NoAttr K (cA.c c) (Str.ofString f)
def eFld (cls : List String) (f : String) (a : Env → Option D) (δ : Env) : Option D := match a δ with
  | some (.obj c ks xs) => if cls.contains c then (ks.zip xs).lookup f else none
  | _ => none
theorem ve_fld {K : PySem.W.Frag} {ta : TE} {q : Ql} {a : Env → Option D} {cls : List String} {f : String} (F : FldOk K G.1 cls f) (ha : VE G ow ta q a) : VE G ow (tFld K ta (Str.ofString f)) q.it (eFld cls f a) := fun H0 av A σ H δ E d e Q k => by
  unfold eFld at e
  cases he : a δ with
  | none => rw [he] at e; cases e
  | some x =>
    rw [he] at e
    cases x <;> first | (cases e; done) | skip
    rename_i c ks xs
    dsimp only at e
    by_cases hc : cls.contains c = true
    · rw [if_pos hc] at e
      obtain ⟨h1, h2⟩ := F c (by simpa using hc)
      refine ha H0 av A σ H δ E _ he _ fun v H1 s r => ?_
      obtain ⟨p, dx, vs, rfl, _, rd, _, l⟩ := r.tp
      obtain ⟨w, hw, rw'⟩ := fld_look l e
      refine ⟨p, _, dx, _, w, rfl, rd, h1, h2, hw, k w H1 s ?_⟩
      cases q <;> exact rw'.t
    · rw [if_neg hc] at e; cases e
/-- self.f = e, a new field -/
def sFldD (i : Nat) (cls : List String) (f : String) (ε : Env → Option D) (δ : Env) : Option Out := match ε δ with
  | some d => match eVar i δ with
    | some (.obj c ks xs) => if cls.contains c && !ks.contains f && decide (ks.length < 1000) then some (.nx (δ.set i (some (.obj c (ks ++ [f]) (xs ++ [d]))))) else none
    | _ => none
  | none => none
theorem vs_fld {K : PySem.W.Frag} {te : TE} {ε : Env → Option D} {cls : List String} {f : String} (i : Nat) (hi : ow.contains i = true) (F : FldOk K G.1 cls f) (h : VE G ow te .cl ε) : VS G ow ow owB owC (sFld K (tVar i) te (Str.ofString f)) (sFldD i cls f ε) := fun H0 av A σ H δ E o e De k => by
  unfold sFldD at e
  cases he : ε δ with
  | none => rw [he] at e; cases e
  | some d =>
    rw [he] at e
    dsimp only at e
    cases hv : eVar i δ with
    | none => rw [hv] at e; cases e
    | some x =>
      rw [hv] at e
      cases x <;> first | (cases e; done) | skip
      rename_i c ks xs
      dsimp only at e
      by_cases hz : (cls.contains c && !ks.contains f && decide (ks.length < 1000)) = true
      · rw [if_pos hz] at e
        cases e
        simp only [Bool.and_eq_true, decide_eq_true_eq, Bool.not_eq_true'] at hz
        obtain ⟨⟨z1, z2⟩, z3⟩ := hz
        obtain ⟨h1, h2⟩ := F c (by simpa using z1)
        have hi' : i ∈ ow := by simpa using hi
        cases hA : A i with
        | none => exact absurd hA (E.dom' i hi')
        | some a =>
          refine h H0 av A σ H δ E d he _ fun y H1 s r => ?_
          have E1 := E.mono s
          obtain ⟨v, g1, _, g3⟩ := E1.var i _ (eVar_some hv)
          obtain ⟨rfl, dx, vs, q1, q0, q2⟩ := g3 a hA
          have hl : ks.length = vs.length := q0.trans q2.length
          refine ⟨_, g1, a, _, dx, _, rfl, q1, h1, h2, ?_, k A σ _ (E1.put hA (eVar_some hv) (fun b o hb e => by rw [upd_ne hb]; exact e) (by rw [upd_same]; exact fun z => by cases z) ?_)⟩
          · rw [List.length_zip, List.length_map]; omega
          · refine ⟨dx, vs ++ [y], ?_, by rw [List.length_append, List.length_append, q0]; rfl, ?_⟩
            · rw [upd_same, put_new hl z2]
            · have ex : ∀ b o, ¬ AV av A b → H1 b = some o → upd H1 a (.ins (G.1.c c) dx (putF (Str.ofString f) y ((ks.map Str.ofString).zip vs))) b = some o := fun b o n e => by
                rw [upd_ne fun z => n (.inr ⟨i, by rw [z]; exact hA⟩)]
                exact e
              exact (q2.append (.cons (RepT.r r) .nil)).ext ex
      · rw [if_neg hz] at e; cases e
/-! ### making: __init__'s promise -/
def spI (cA : Kn) (n : Nat) (m : List D → Option D) : Sp := fun vs H Q _ => ∃ (x : Addr) (r : List V) (av : Addr → Prop) (ds : List D) (d d' : D), vs = .ref x :: r ∧ (∀ a, av a → H a ≠ none) ∧ ¬ av x ∧ Own cA (fun a => av a ∨ a = x) H d x ∧ RepL cA (fun a => av a ∨ a = x) H ds r ∧ (d :: ds).length = n ∧ m (d :: ds) = some d' ∧
  ∀ H', (∀ b o, b ≠ x → H b = some o → H' b = some o) → Own cA (fun a => av a ∨ a = x) H' d' x → Q .non H'
theorem Own.live {av : Addr → Prop} {H : Hp} {d : D} {a : Addr} (h : Own cA av H d a) : H a ≠ none := by
  cases d with
  | lst xs => obtain ⟨vs, q, _⟩ := h; rw [q]; exact fun z => by cases z
  | obj c ks xs => obtain ⟨dx, vs, q, _⟩ := h; rw [q]; exact fun z => by cases z
  | dct ks xs => obtain ⟨vs, q, _⟩ := h; rw [q]; exact fun z => by cases z
  | _ => exact h.elim
theorem Own.av {av av' : Addr → Prop} {H : Hp} {d : D} {a : Addr} (k : ∀ b, av' b → av b ∨ H b = none) (h : Own cA av H d a) : Own cA av' H d a := by
  cases d with
  | lst xs => obtain ⟨vs, q, l⟩ := h; exact ⟨vs, q, l.av k⟩
  | obj c ks xs => obtain ⟨dx, vs, q, z, l⟩ := h; exact ⟨dx, vs, q, z, l.av k⟩
  | dct ks xs => obtain ⟨vs, q, z, l⟩ := h; exact ⟨vs, q, z, l.av k⟩
  | _ => exact h.elim
theorem Own.rep {av : Addr → Prop} {H : Hp} {d : D} {a : Addr} (n : ¬ av a) (h : Own cA av H d a) : Rep cA av H d (.ref a) := by
  cases d with
  | lst xs => obtain ⟨vs, q, l⟩ := h; unfold Rep; exact ⟨a, vs, rfl, fun z => (n z).elim, SqL.of q, l⟩
  | obj c ks xs => obtain ⟨dx, vs, q, z, l⟩ := h; unfold Rep; exact ⟨a, dx, vs, rfl, n, q, z, l⟩
  | dct ks xs => obtain ⟨vs, q, z, l⟩ := h; unfold Rep; exact ⟨a, vs, rfl, n, q, z, l⟩
  | _ => exact h.elim
def eMake (c : String) (n : Nat) (m : List D → Option D) (dds : List D) (α : Env → Option (List D)) (δ : Env) : Option D := match α δ with
  | some ds => if (D.obj c [] [] :: (ds ++ dds)).length = n then m (.obj c [] [] :: (ds ++ dds)) else none
  | none => none
theorem ve_make {n : Nat} {m : List D → Option D} {t : TA} {α : Env → Option (List D)} {E0 : XK} {c : String} (dds : List D) (hd : dds.all scalar = true) (h : VA G ow t .cl α) : VE G ow (tMake (G.1.c c) (spI G.1 n m) (dds.map val) E0 t) .cl (eMake c n m dds α) := fun H0 av A σ H δ E d e Q k => by
  unfold eMake at e
  cases he : α δ with
  | none => rw [he] at e; cases e
  | some ds =>
    rw [he] at e
    dsimp only at e
    by_cases hz : (D.obj c [] [] :: (ds ++ dds)).length = n
    · rw [if_pos hz] at e
      refine h H0 av A σ H δ E ds he _ fun vs H1 s1 r1 x dx hx hdx hne => ?_
      have E1 := E.mono s1
      have s2 : Same H1 (upd (upd H1 dx (.own x)) x (.ins (G.1.c c) dx [])) := (same_upd hdx).trans (same_upd (by rw [upd_ne (Ne.symm hne)]; exact hx))
      have nx : ¬ AV av A x := fun z => E1.avl x z hx
      refine ⟨x, vs ++ dds.map val, AV av A, ds ++ dds, .obj c [] [], d, rfl, fun a z => ?_, nx, ⟨dx, [], upd_same, rfl, .nil⟩, ?_, hz, e, fun H' hk ho => ⟨rfl, k _ H' ?_ ?_⟩⟩
      · have := E1.avl a z
        cases q : H1 a with
        | none => exact absurd q this
        | some o => rw [s2 a o q]; exact fun z => by cases z
      · refine RepL.same s2 ((r1.cl.append (.of_vals hd)).av fun b z => ?_)
        rcases z with z | z
        · exact .inl z
        · exact .inr (by rw [z]; exact hx)
      · refine s1.trans fun b o e => hk b o (fun z => by rw [z, hx] at e; cases e) (s2 b o e)
      · exact ((ho.av fun b z => .inl (.inl z)).rep nx).t
    · rw [if_neg hz] at e; cases e
/-- Base.__init__(self, ..) -/
def sBase (i n : Nat) (m : List D → Option D) (dds : List D) (α : Env → Option (List D)) (δ : Env) : Option Out := match eVar i δ with
  | some d => match α δ with
    | some ds => if (d :: (ds ++ dds)).length = n then (match m (d :: (ds ++ dds)) with
      | some d' => some (.nx (δ.set i (some d')))
      | none => none) else none
    | none => none
  | none => none
def runI (N : Nat) (φ : Env → Option Out) (ds : List D) : Option D := match φ (ds.map some ++ List.replicate (N - ds.length) none) with
  | some (.nx δ) => eVar 0 δ
  | _ => none
section
variable {P : Program} {w : World} {K : PySem.W.Frag} {mg : Str → Option Value} {base : Heap}
/-- THE RULE of an __init__ -/
theorem fn_I {x qual : Str} {st : Stmt} {f : Addr} {fd : FuncData} {N ps : List Str} {k : Nat} {φ : Env → Option Out} (F : FunX K x qual st f fd) (S : FnScope N ps (defScope st))
    (hbody : ∀ (cdv : Value) (A : Around) (outer : List PySem.Env) (s : Shared) (H : Hp) (E : XK) (a : Addr), Room k (A.deeper (PyProof.Rows.envOfC qual (defScope st) s.heap.objs.size f cdv)) →
      ∃ t, PSs (cxOf CX0 P w K mg base N qual (defScope st) f cdv A outer s H E).nox (defBody st) t ∧ VS ⟨cA, fun j => if j = 0 then some (.inl a) else none⟩ [0] [0] [] [] t φ) : FnOk P w K mg base CX0 (k + 1) f fd ps (spI cA ps.length (runI N.length φ)) := by
  refine F.ok S (fun vs H Q E h => ?_) fun cdv A outer s H vs Q E hr h => ?_
  · obtain ⟨x, r, av, ds, d, d', rfl, _, _, _, l, hl, _⟩ := h
    rw [← hl, List.length_cons, List.length_cons, l.length]
  · obtain ⟨x, r, av, ds, d, d', rfl, ha, nx, ho, l, hl, hm, q⟩ := h
    obtain ⟨t, ht, hv⟩ := hbody cdv A outer s H E x hr
    refine ⟨t, ht, ?_⟩
    unfold runI at hm
    cases hφ : φ ((d :: ds).map some ++ List.replicate (N.length - (d :: ds).length) none) with
    | none => rw [hφ] at hm; cases hm
    | some o =>
      rw [hφ] at hm
      cases o <;> first | (cases hm; done) | skip
      rename_i δ'
      have hm : eVar 0 δ' = some d' := hm
      have hAV : ∀ b, AV av (fun j => if j = 0 then some x else none) b ↔ av b ∨ b = x := fun b => by
        constructor
        · rintro (z | ⟨j, z⟩)
          · exact .inl z
          · by_cases e : j = 0
            · simp [e] at z; exact .inr z.symm
            · simp [e] at z
        · rintro (z | z)
          · exact .inl z
          · exact .inr ⟨0, by simp [z]⟩
      have E0 : ER ⟨cA, fun j => if j = 0 then some (.inl x) else none⟩ [0] (fun b => if b = x then none else H b) av (fun j => if j = 0 then some x else none) (L2.start N (.ref x :: r)) H ((d :: ds).map some ++ List.replicate (N.length - (d :: ds).length) none) := by
        refine ⟨fun b o e => ?_, fun a z => ?_, fun i a e => ?_, fun i j a e1 e2 => ?_, fun i a e => ?_, fun i e => ?_, fun i hi => ?_, ?_, (fun i a e => by
          by_cases q : i = 0
          · simp [q] at e; simp [q, e]
          · simp [q] at e), (fun i v e => by
          by_cases q : i = 0
          · simp [q] at e
          · simp [q] at e), fun i d'' e => ?_⟩
        · by_cases q : b = x
          · simp [q] at e
          · simpa [q] using e
        · have : a ≠ x := fun q => nx (q ▸ z)
          simp [this]
          exact ha a z
        · by_cases q : i = 0
          · simp [q] at e; simp [e]
          · simp [q] at e
        · by_cases q : i = 0
          · by_cases q2 : j = 0
            · rw [q, q2]
            · simp [q2] at e2
          · simp [q] at e1
        · by_cases q : i = 0
          · simp [q] at e; subst e; exact ho.live
          · simp [q] at e
        · by_cases q : i = 0
          · simp [q]
          · simp [q] at e
        · have : i = 0 := by simpa using hi
          simp [this]
        · unfold L2.start
          rw [List.length_append, List.length_append, List.length_map, List.length_map, List.length_replicate, List.length_replicate, List.length_cons, List.length_cons, l.length]
        · by_cases q : i = 0
          · subst q
            have e' : d = d'' := by simpa using e
            subst e'
            exact ⟨.ref x, by simp [L2.start], fun z => by simp at z, fun a z => by
              simp at z
              subst z
              exact ⟨rfl, ho.av fun b z => .inl ((hAV b).mp z)⟩⟩
          · obtain ⟨i, rfl⟩ : ∃ i', i = i' + 1 := ⟨i - 1, by omega⟩
            have e2 : (ds.map some ++ List.replicate (N.length - (ds.length + 1)) none)[i]? = some (some d'') := by simpa using e
            by_cases hi : i < ds.length
            · rw [List.getElem?_append_left (by simpa using hi), List.getElem?_map] at e2
              cases hd : ds[i]? with
              | none => rw [hd] at e2; cases e2
              | some z =>
                rw [hd] at e2
                cases e2
                obtain ⟨v, hv', rv⟩ := l.get hd
                refine ⟨v, ?_, fun _ => rv.av fun b z => .inl ((hAV b).mp z), fun a z => by simp at z⟩
                unfold L2.start
                have : i + 1 < (V.ref x :: r).length := by rw [List.length_cons, ← l.length]; omega
                rw [List.getElem?_append_left (by simpa using this), List.getElem?_map]
                simp [hv']
            · rw [List.getElem?_append_right (by simpa using hi), List.getElem?_replicate] at e2
              split at e2 <;> cases e2
      refine hv _ av _ _ H _ E0 _ hφ _ fun A' σ' H' E' => ?_
      have hA' : A' 0 = some x := E'.pin 0 x (by simp)
      obtain ⟨v, _, _, g3⟩ := E'.var 0 d' (eVar_some hm)
      obtain ⟨_, ho'⟩ := g3 x hA'
      refine q H' (fun b o hb e => E'.same b o (by simpa [hb] using e)) (ho'.av fun b z => ?_)
      rcases z with z | z
      · exact .inl (.inl z)
      · exact .inl (.inr ⟨0, by rw [hA', z]⟩)
/-- a def with defaults, or a method -/
theorem fn_DX {x qual : Str} {st : Stmt} {f : Addr} {fd : FuncData} {N ps : List Str} {k : Nat} {φ : Env → Option Out} (F : FunX K x qual st f fd) (S : FnScope N ps (defScope st))
    (hbody : ∀ (cdv : Value) (A : Around) (outer : List PySem.Env) (s : Shared) (H : Hp) (E : XK), Room k (A.deeper (PyProof.Rows.envOfC qual (defScope st) s.heap.objs.size f cdv)) →
      ∃ t, PSs (cxOf CX0 P w K mg base N qual (defScope st) f cdv A outer s H E).nox (defBody st) t ∧ ∃ owN, VS ⟨cA, fun _ => none⟩ [] owN [] [] t φ) : FnOk P w K mg base CX0 (k + 1) f fd ps (spD cA ps.length (run N.length φ)) := by
  refine F.ok S (fun vs H Q E h => ?_) fun cdv A outer s H vs Q E hr h => ?_
  · obtain ⟨av, ds, d, _, r, hl, _⟩ := h
    rw [← r.length, hl]
  · obtain ⟨av, ds, d, ha, r, hl, hm, q⟩ := h
    obtain ⟨t, ht, owN, hv⟩ := hbody cdv A outer s H E hr
    refine ⟨t, ht, ?_⟩
    unfold run at hm
    cases hφ : φ (ds.map some ++ List.replicate (N.length - ds.length) none) with
    | none => rw [hφ] at hm; cases hm
    | some o =>
      rw [hφ] at hm
      refine hv H av _ _ H _ (er_start ha r) o hφ _ ?_
      cases o with
      | nx δ' => cases hm; exact fun A' σ' H' E' => q .non H' E'.same rfl
      | rt d' => cases hm; exact fun v H' s' r' => q v H' s' r'
      | bk δ' => cases hm
      | ct δ' => cases hm
end
/-! ### o.m(..), by the object's class -/
abbrev MTab := List (String × (Nat × (List D → Option D)))
structure MethOk (X : Cx) (cA : Kn) (k : Nat) (m : String) (c : String) (n : Nat) (mm : List D → Option D) : Prop where
  ex : ∃ f fd ps, Cls X.K (cA.c c) ∧ Meth X.K (cA.c c) (Str.ofString m) f ∧ FnOk X.prog X.w X.K X.mg X.base CX0 k f fd ps (spD cA n mm) ∧ Binds X.K fd ps []
def MTOk (X : Cx) (cA : Kn) (k : Nat) (m : String) : MTab → Prop
  | [] => True
  | (c, n, mm) :: r => MethOk X cA k m c n mm ∧ MTOk X cA k m r
theorem MTOk.get {X : Cx} {k : Nat} {m : String} : ∀ {tab : MTab} {c : String} {n : Nat} {mm : List D → Option D}, MTOk X cA k m tab → tab.lookup c = some (n, mm) → MethOk X cA k m c n mm
  | [], _, _, _, _, h => by simp at h
  | (c', n', mm') :: r, c, n, mm, T, h => by
    rw [List.lookup_cons] at h
    cases hc : c == c' with
    | true =>
      rw [hc] at h
      cases h
      have : c = c' := eq_of_beq hc
      subst this
      exact T.1
    | false =>
      rw [hc] at h
      exact MTOk.get T.2 h
def tMethP (cA : Kn) (m : String) (tab : MTab) (ta : TE) (t : TA) : TE := fun σ H Q => ta σ H fun x H1 => ∃ a dx fs c n mm, x = .ref a ∧ H1 a = some (.ins (cA.c c) dx fs) ∧ fs.lookup (Str.ofString m) = none ∧ tab.lookup c = some (n, mm) ∧ t σ H1 fun vs H2 => spD cA n mm (x :: vs) H2 Q E0
theorem pe_methP {X : Cx} {k : Nat} {m : String} {tab : MTab} {o e : Expr} {es : List Expr} {ta : TE} {t : TA} {pos apos : Pos} {pl : Sem Bool} (T : MTOk X cA k m tab) (hr : Room k X.A) (he : PE X o ta) (ha : PA X (e :: es) t)
    (hst : starEach (e :: es) X.env = (false, eval e X.env) :: starEach es X.env := by rfl) (hpl : (backTo pos (starEach es X.env)).any (·.1) = false := by rfl)
    (ht : eval (.Call (.Attribute o (Str.ofString m) apos) (e :: es) [] pos) X.env = (do
      let ov ← eval o X.env
      standAt apos.atName
      let (f, first) ← holding [ov] (getMethod ov (Str.ofString m) pl)
      callWith pos f first (backTo pos (starEach (e :: es) X.env)) (backToKw pos (keywordEach [] X.env))) := by rfl) :
    PE X (.Call (.Attribute o (Str.ofString m) apos) (e :: es) [] pos) (tMethP cA m tab ta t) := by
  intro pins s σ H Q I h
  refine PySem.W.methodCall_KW (pl := pl) (thn (he pins s σ H _ I h) fun u s1 ⟨x, H1, I1, rx, a, dx, fs, c, n, mm, ex, ea, l, tl, q⟩ => ?_) ht
  subst ex
  obtain rfl : u = Value.ref a := rx
  obtain ⟨f, fd, ps, hc, hm, F, hb⟩ := (T.get tl).ex
  refine getmeth_ok I1 ea hc hm l ?_
  refine PySem.W.callWith_K (first := [.ref a]) (h₀ := X.base) I.ok.mod.kin hm.kp (thn (ha pos pins s1 σ H1 _ I1 q) fun us s2 ⟨vs, H2, I2, r, q2⟩ => ⟨I2.kIn, ?_⟩) hst hpl
  exact run_fn (us := .ref a :: us) (vs := .ref a :: vs) (dvs := []) (ds := []) F hr hb .nil pass0 I2 (.cons rfl r) (by rw [List.append_nil]; exact q2)
theorem pe_methP0 {X : Cx} {k : Nat} {m : String} {tab : MTab} {o : Expr} {ta : TE} {pos apos : Pos} {pl : Sem Bool} (T : MTOk X cA k m tab) (hr : Room k X.A) (he : PE X o ta)
    (ht : eval (.Call (.Attribute o (Str.ofString m) apos) [] [] pos) X.env = (do
      let ov ← eval o X.env
      standAt apos.atName
      let (f, first) ← holding [ov] (getMethod ov (Str.ofString m) pl)
      callWith pos f first (backTo pos (starEach [] X.env)) (backToKw pos (keywordEach [] X.env))) := by rfl) :
    PE X (.Call (.Attribute o (Str.ofString m) apos) [] [] pos) (tMethP cA m tab ta tNil) := by
  intro pins s σ H Q I h
  refine PySem.W.methodCall_KW (pl := pl) (thn (he pins s σ H _ I h) fun u s1 ⟨x, H1, I1, rx, a, dx, fs, c, n, mm, ex, ea, l, tl, q⟩ => ?_) ht
  subst ex
  obtain rfl : u = Value.ref a := rx
  obtain ⟨f, fd, ps, hc, hm, F, hb⟩ := (T.get tl).ex
  refine getmeth_ok I1 ea hc hm l ?_
  exact PySem.W.callWith_K0 (first := [.ref a]) I1.kIn hm.kp (run_fn (us := [.ref a]) (vs := [.ref a]) (dvs := []) (ds := []) F hr hb .nil pass0 I1 (.cons rfl .nil) (by rw [List.append_nil]; exact q))
def eMeth (m : String) (tab : MTab) (a : Env → Option D) (α : Env → Option (List D)) (δ : Env) : Option D := match a δ with
  | some (.obj c ks xs) => if ks.contains m then none else (match tab.lookup c with
    | some (n, mm) => match α δ with
      | some ds => if (D.obj c ks xs :: ds).length = n then mm (.obj c ks xs :: ds) else none
      | none => none
    | none => none)
  | _ => none
theorem ve_meth {m : String} {tab : MTab} {ta : TE} {t : TA} {a : Env → Option D} {α : Env → Option (List D)} (ha : VE G ow ta .cl a) (h : VA G ow t .cl α) : VE G ow (tMethP G.1 m tab ta t) .cl (eMeth m tab a α) := fun H0 av A σ H δ E d e Q k => by
  unfold eMeth at e
  cases hx : a δ with
  | none => rw [hx] at e; cases e
  | some x =>
    rw [hx] at e
    cases x <;> first | (cases e; done) | skip
    rename_i c ks xs
    dsimp only at e
    cases hf : ks.contains m with
    | true => rw [hf, if_pos rfl] at e; cases e
    | false =>
      rw [hf, if_neg Bool.false_ne_true] at e
      cases htb : tab.lookup c with
      | none => rw [htb] at e; cases e
      | some p =>
        obtain ⟨n, mm⟩ := p
        rw [htb] at e
        dsimp only at e
        cases he : α δ with
        | none => rw [he] at e; cases e
        | some ds =>
          rw [he] at e
          dsimp only at e
          by_cases hz : (D.obj c ks xs :: ds).length = n
          · rw [if_pos hz] at e
            refine ha H0 av A σ H δ E _ hx _ fun v H1 s1 r1 => ?_
            obtain ⟨p, dx, vs, rfl, np, rd, zl, l⟩ := r1
            refine ⟨p, dx, _, c, n, mm, rfl, rd, fld_none hf, htb, h H0 av A σ H1 δ (E.mono s1) ds he _ fun ws H2 s2 r2 => ?_⟩
            have E2 := (E.mono s1).mono s2
            refine ⟨AV av A, .obj c ks xs :: ds, d, E2.avl, .cons ?_ r2.cl, hz, e, fun v H' s r => k v H' ((s1.trans s2).trans s) r.t⟩
            unfold Rep
            exact ⟨p, dx, vs, rfl, np, s2 _ _ rd, zl, l.same s2⟩
          · rw [if_neg hz] at e; cases e
/-! ### is True, is False -/
def isD : D → D → Option D
  | .bl a, .bl b => some (.bl (a == b))
  | _, _ => none
end
end DL

namespace DL
open PySem PySem.Spec L2
/-- the pairs of a number from k on and an item -/
def enumD : Nat → List D → List D
  | _, [] => []
  | k, x :: xs => .tup [.int (k : Nat), x] :: enumD (k + 1) xs
section
variable {cA : Kn} {G : Cn} {ow : List Nat}
def iotaE (k : Nat) (ε : Env → Option D) (δ : Env) : Option (List D) := match ε δ with
  | some (.str cs) => some (enumD k (cs.map fun c => .str [c]))
  | _ => none
end
end DL

namespace DL
open PySem PySem.Spec L2
section
variable {cA : Kn} {P : Program} {w : World} {K : PySem.W.Frag} {mg : Str → Option Value} {base : Heap}
/-- a def by its body, written out -/
theorem fn_DB {x qual : Str} {st : Stmt} {f : Addr} {fd : FuncData} {N ps : List Str} {k : Nat} {φ : Env → Option Out} {body : List Stmt} {scope : Scope} {n : Nat} {m : List D → Option D} (F : FunX K x qual st f fd) (S : FnScope N ps (defScope st)) (hS : defScope st = scope) (hB : defBody st = body)
    (hbody : ∀ (cdv : Value) (A : Around) (outer : List PySem.Env) (s : Shared) (H : Hp) (E : XK), Room k (A.deeper (PyProof.Rows.envOfC qual scope s.heap.objs.size f cdv)) →
      ∃ t, PSs (cxOf CX0 P w K mg base N qual scope f cdv A outer s H E).nox body t ∧ ∃ owN, VS ⟨cA, fun _ => none⟩ [] owN [] [] t φ)  (hm : m = run N.length φ) (hn : ps.length = n) : FnOk P w K mg base CX0 (k + 1) f fd ps (spD cA n m) := by
  subst hS hB hm hn
  exact fn_DX F S hbody
theorem fn_IB {x qual : Str} {st : Stmt} {f : Addr} {fd : FuncData} {N ps : List Str} {k : Nat} {φ : Env → Option Out} {body : List Stmt} {scope : Scope} {n : Nat} {m : List D → Option D} (F : FunX K x qual st f fd) (S : FnScope N ps (defScope st)) (hS : defScope st = scope) (hB : defBody st = body)
    (hbody : ∀ (cdv : Value) (A : Around) (outer : List PySem.Env) (s : Shared) (H : Hp) (E : XK) (a : Addr), Room k (A.deeper (PyProof.Rows.envOfC qual scope s.heap.objs.size f cdv)) →
      ∃ t, PSs (cxOf CX0 P w K mg base N qual scope f cdv A outer s H E).nox body t ∧ VS ⟨cA, fun j => if j = 0 then some (.inl a) else none⟩ [0] [0] [] [] t φ)  (hm : m = runI N.length φ) (hn : ps.length = n) : FnOk P w K mg base CX0 (k + 1) f fd ps (spI cA n m) := by
  subst hS hB hm hn
  exact fn_I F S hbody
end
end DL

namespace DL
open PySem PySem.Spec L2 PyProof.Rows
/-! ### sum, max, min of a list of ints -/
def intsD : List D → Option (List Int)
  | [] => some []
  | .int b :: r => match intsD r with
    | some bs => some (b :: bs)
    | none => none
  | _ => none
theorem intsD_of : ∀ {xs : List D} {bs : List Int}, intsD xs = some bs → xs = bs.map D.int
  | [], bs, h => by cases h; rfl
  | x :: xs, bs, h => by
    cases x <;> first | (cases h; done) | skip
    rename_i b
    unfold intsD at h
    cases hr : intsD xs with
    | none => rw [hr] at h; cases h
    | some cs =>
      rw [hr] at h
      cases h
      rw [List.map_cons, intsD_of hr]
theorem intsD_map (bs : List Int) : intsD (bs.map D.int) = some bs := by
  induction bs with
  | nil => rfl
  | cons b bs ih => rw [List.map_cons, intsD, ih]
theorem run_ints : ∀ (ns : List Int) (its : List Value), Vals (ns.map V.int) its → IntsAre its ns
  | [], its, h => by cases h; exact .nil
  | n :: ns, its, h => by
    cases h with
    | cons r1 r2 =>
      obtain ⟨t, rfl⟩ := r1
      exact .cons _ _ (run_ints ns _ r2)
def maxZ : List Int → Int
  | [] => 0
  | n :: ns => ns.foldl max n
def rMaxL (K : PySem.W.Frag) : List V → Hp → VK → Prop := fun xs H Q => ∃ (p : Addr) (ns : List Int), xs = [.ref p] ∧ SqL K H p (ns.map V.int) ∧ 0 < ns.length ∧ Q (.int (maxZ ns)) H
def rSumL (K : PySem.W.Frag) : List V → Hp → VK → Prop := fun xs H Q => ∃ (p : Addr) (ns : List Int), xs = [.ref p] ∧ SqL K H p (ns.map V.int) ∧ Q (.int ns.sum) H
section
variable {X : Cx} {K : PySem.W.Frag} {cA : Kn}
theorem call_sumL (hc : X.calm = true) : CallR X (.builtin "sum") (rSumL X.K) := by
  intro pins s σ H xs us Q I rs h
  obtain ⟨p, ns, rfl, hq, q⟩ := h
  obtain ⟨u, rfl, rx⟩ := vals1 rs
  cases rx
  obtain ⟨its, rv, pl, hz⟩ := I.list hq
  have hi := run_ints ns its rv
  obtain ⟨ys, e⟩ := hi.allInts.items
  have hns : ns = ys.toList.map (·.1) := by
    rw [← hi.numsOf, ← nums_intItems, ← e]
  have hl := pl.isList
  rw [e] at hl
  refine sum_intListG (I.ok.hd hc) hl fun h' tk t' hk => ?_
  have e2 : preSum (numAt ys) ys.size = ns.sum := by
    rw [preSum_eq, List.take_of_length_le (by simp), hns]
  exact ⟨.int ns.sum, H, I.kept hk, ⟨t', by rw [e2]⟩, q⟩
theorem k_sumL (hc : X.calm = true := by rfl) (hK : X.K = K := by rfl) : CallR X (.builtin "sum") (rSumL K) := hK ▸ call_sumL hc
def maxLD : List D → Option D
  | [.lst xs] => match intsD xs with
    | some ns => if 0 < ns.length then some (.int (maxZ ns)) else none
    | none => none
  | _ => none
def sumLD : List D → Option D
  | [.lst xs] => match intsD xs with
    | some ns => some (.int ns.sum)
    | none => none
  | _ => none
theorem cb_sumL : CbOk cA (rSumL cA.K) sumLD := fun i H ds vs d _ h e Q k => by
  unfold sumLD at e
  split at e
  · rename_i xs
    cases hb : intsD xs with
    | none => rw [hb] at e; cases e
    | some bs =>
      rw [hb] at e
      cases e
      obtain ⟨v, t, rfl, a, ws, rfl, _, rd, l⟩ := il1 h
      have ex := intsD_of hb
      subst ex
      have ev := l.vals (by rw [List.all_map]; exact List.all_eq_true.mpr fun _ _ => rfl)
      rw [List.map_map] at ev
      subst ev
      exact ⟨a, bs, rfl, rd, k _ H (Same.refl H) rfl⟩
  · cases e
end
end DL

namespace L2
open PySem PySem.Spec PyProof.Rows
section
variable {X : Cx} {scope : Scope} {tn cn : List Str} {js : List Nat} {tg iter elt : Expr} {ifs : List Expr} {pos spos pos' : Pos} {wi : TI} {g : TG} {tt : TT} {te : TE}
/-- name = [.. for ..]: the store comes before the block's own names go -/
theorem ps_setC {i : Nat} {x : Str} (hN : X.N.Nodup) (hi : X.N[i]? = some x) (hx : X.env.scope.names.lookup x = some .local) (hc : X.calm = true) (S : CompSc X scope tn cn js) (hI : PI X tg iter wi)
    (hg : ∀ C s₂ H₂ fp, PG (compX X scope (tn ++ cn) C s₂ H₂ fp) tg g) (ht : ∀ C s₂ H₂ fp, PTs (compX X scope (tn ++ cn) C s₂ H₂ fp) ifs tt) (he : ∀ C s₂ H₂ fp, PE (compX X scope (tn ++ cn) C s₂ H₂ fp) elt te)
    (hsw : swapsWith (.ListComp elt [⟨tg, iter, ifs, 0⟩] scope pos) (some (.Name x pos')) spos.line X.env = pure true := by rfl)
    (hs : ∀ x, foldedSetIterable iter X.env x = pure x := by intro _; rfl) :
    PS X (.Assign [.Name x pos'] (.ListComp elt [⟨tg, iter, ifs, 0⟩] scope pos) spos) (tAsg (tComp wi g tt te tn.length js) (gName i)) := by
  intro pins s σ H D I h
  rw [exec_Assign_Name_used _ _ _ _ hsw]
  refine wpAny_bind (wpAny_standAt (wpAny_bind ?_))
  show wpAny _ X.A (do let _ ← comprehension (.ListComp elt [⟨tg, iter, ifs, 0⟩] scope pos) scope X.env _ (newList []) false (eval iter X.env) (some (assign (.Name x pos') X.env))) _ _ s
  refine wpAny_bind (wpAny_mono (wpAny_comprehension_free (use := some (assign (.Name x pos') X.env)) (Q := fun _ s' => SP X pins D .next s') (cl := closL X.env.cells scope.names []) rfl hs (closureFor_eq (S.clos I.ok)) S.kind S.names
    (thn (hI pins s σ H _ I h) fun v s1 h1 => thn h1 fun itv s2 h2 => ?_)) (fun _ s' hq => wpAny_pure (wpAny_pure hq)) fun _ _ e => e)
  obtain ⟨it, fp, tnx, J, H2, e, I2, T, st2, f2, W, ⟨m0, w0⟩, turn⟩ := h2
  subst e
  refine comp_block (RR := fun acc C => compPost (model X.prog X.w) X.A X.xe (some (assign (.Name x pos') X.env)) (fun _ s' => SP X pins D .next s') acc C) (W := W) (m0 := m0) hc S hg ht he I2 T st2 f2 w0 fun i' m ys H w => ?_
  rcases turn i' m ys H w with ⟨stop, qn⟩ | r
  · refine .inl ⟨stop, fun C D' s its n σ' hC hD hDC hv hz I' => ?_⟩
    obtain ⟨m', hn, _⟩ := id I'.loc
    have pd := I'.pin (D', { cls := .type "list", data := .seq its.toArray n }) (List.mem_append_right _ List.mem_cons_self)
    have hCf : H C = none := I'.free
    have I1 : Inv X pins σ (upd H D' (.lst ys)) { s with heap := s.heap } := comp_end S I2 hC hD hDC f2 I' hv hz (Heap.SameBut.refl _ _)
    show wpAny _ X.A (assign (.Name x pos') X.env (.ref D')) _ _ _
    have hlC : X.env.locals ≠ C := fun z => absurd (z ▸ I2.lt) (Nat.not_lt.mpr hC)
    have hcC : ∀ y c, X.env.cells.lookup y = some c → c ≠ C := fun y c e z => by
      obtain ⟨v', o', q, _⟩ := I2.cell y c e
      exact absurd (Heap.lt_size q) (Nat.not_lt.mpr (z ▸ hC))
    refine wpAny_assign_Name (store_ok2 I1 hN hi (.inl hx) (v := .ref D') rfl (fun s3 I3 ⟨a, hsb, ha⟩ => ?_) (.inr hx))
    have hCa : C ≠ a := by
      rcases ha with rfl | ha
      · exact Ne.symm hlC
      · exact Ne.symm (hcC _ _ ha)
    refine ⟨m', hn.sameBut hsb hCa, fun h' hs' => ?_⟩
    have hCn : upd H D' (.lst ys) C = none := by rw [upd_ne (Ne.symm hDC)]; exact hCf
    have I4 : Inv X pins (σ.set i (some (.ref D'))) (upd H D' (.lst ys)) { s3 with heap := h', toks := s3.toks } := I3.turned (it := C) (fun b o hb e => (hs'.2 b hb).trans e) hCn (Ne.symm hlC) (.inr (Nat.le_trans (Nat.le_trans I2.ok.above (Nat.le_of_lt I2.lt)) hC)) (fun y c e => hcC y c e) fun p hp z => by
      have := (I2.pin p hp).1
      exact absurd (Heap.lt_size this) (Nat.not_lt.mpr (z ▸ hC))
    exact ⟨_, _, I4, qn D' pd.2.1⟩
  · exact .inr r
end
end L2

namespace DL
open PySem PySem.Spec L2 PyProof.Rows
/-! ### ints of any sign, up to some thousand bits -/
def Wd (i : Int) : Prop := i.natAbs < 2 ^ 8000
instance (i : Int) : Decidable (Wd i) := by unfold Wd; infer_instance
def CMulW (i j : Int) : Prop := (Wd i ∧ Wd j) ∨ CMul i j
instance (i j : Int) : Decidable (CMulW i j) := by unfold CMulW; infer_instance
def CDivW (_ j : Int) : Prop := j ≠ 0 ∧ Wd j
instance (i j : Int) : Decidable (CDivW i j) := by unfold CDivW; infer_instance
instance (i j : Int) : Decidable (CPow i j) := by unfold CPow; infer_instance
theorem wd_log {i : Int} (h : Wd i) (h0 : i ≠ 0) : i.natAbs.log2 < 8000 := (Nat.log2_lt (by omega)).mpr h
theorem CMulW.ok {i j : Int} (h : CMulW i j) : IntMulOk i j := by
  rcases h with ⟨h1, h2⟩ | h
  · have bits : ∀ {a : Int}, Wd a → Builtin.Int.intBits a ≤ 2 ^ 20 := fun {a} ha => by
      unfold Builtin.Int.intBits
      by_cases h0 : a = 0
      · subst h0; decide
      · have := wd_log ha h0
        have e : (2 : Nat) ^ 20 = 1048576 := by decide
        rw [e]
        split <;> omega
    exact .of_bits (bits h1) (bits h2)
  · exact h.ok
section
variable {X : Cx} {cA : Kn}
theorem op_mulW : OpR X (binaryOp .Mult) (rI CMulW fun i j => .int (i * j)) := opI fun _ _ _ _ _ _ _ hc q => mul_int q hc.ok
theorem op_fdivW : OpR X (binaryOp .FloorDiv) (rI CDivW fun i j => .int (i.fdiv j)) := opI fun _ _ _ _ _ _ _ hc q => floordiv_int hc.1 q (.inl (PyProof.noPylong_of_log2 (Nat.lt_trans (wd_log hc.2 hc.1) (by decide))))
def mulW : D → D → Option D
  | .int i, .int j => if CMulW i j then some (.int (i * j)) else none
  | _, _ => none
def fdivW : D → D → Option D
  | .int i, .int j => if CDivW i j then some (.int (i.fdiv j)) else none
  | _, _ => none
def modW : D → D → Option D
  | .int i, .int j => if j ≠ 0 then some (.int (i.fmod j)) else none
  | _, _ => none
def powW : D → D → Option D
  | .int i, .int j => if CPow i j then some (.int (i ^ j.toNat)) else none
  | _, _ => none
theorem ok_rI {C : Int → Int → Prop} [∀ i j, Decidable (C i j)] {g : Int → Int → Int} {f : D → D → Option D} (hf : ∀ x y d, f x y = some d → ∃ i j, x = .int i ∧ y = .int j ∧ C i j ∧ d = .int (g i j)) : OpOk cA (rI C fun i j => .int (g i j)) f := fun t t' i H x y vx vy d _ hx hy e Q k => by
  obtain ⟨a, b, rfl, rfl, hc, rfl⟩ := hf x y d e
  cases (show vx = _ from hx); cases (show vy = _ from hy)
  exact ⟨_, _, rfl, rfl, hc, k _ H (Same.refl H) rfl⟩
theorem ok_fdivW : OpOk cA (rI CDivW fun i j => .int (i.fdiv j)) fdivW := ok_rI fun x y d e => by
  cases x <;> cases y <;> first | (cases e; done) | skip
  rename_i a b
  dsimp only [fdivW] at e
  by_cases hz : CDivW a b
  · rw [if_pos hz] at e; cases e; exact ⟨_, _, rfl, rfl, hz, rfl⟩
  · rw [if_neg hz] at e; cases e
theorem ok_modW : OpOk cA (rI (fun _ j => j ≠ 0) fun i j => .int (i.fmod j)) modW := ok_rI fun x y d e => by
  cases x <;> cases y <;> first | (cases e; done) | skip
  rename_i a b
  dsimp only [modW] at e
  by_cases hz : b ≠ 0
  · rw [if_pos hz] at e; cases e; exact ⟨_, _, rfl, rfl, hz, rfl⟩
  · rw [if_neg hz] at e; cases e
/-! ### abs -/
def rAbs : List V → Hp → VK → Prop := fun xs H Q => ∃ i, xs = [.int i] ∧ Q (.int (if i < 0 then -i else i)) H
def absD : List D → Option D
  | [.int i] => some (.int (if i < 0 then -i else i))
  | _ => none
end
end DL

namespace L2
open PySem PySem.Spec PySem.W PyProof.Rows
/-! ### an exception on its way -/
def bmV : List Value := [.type "ValueError", .type "Exception", .type "BaseException", .type "object"]
/-- what is wanted of an exception that is made here -/
def RaiseOk (X : Cx) (E : XK) (C : Addr) : Prop := ∀ (pins : List (Addr × Obj)) (σ : St) (H : Hp) (s : Shared) (h' : Heap) (e : Addr) (us : List Value), Inv X pins σ H s → Heap.MadeExcOf s.heap h' e (.ref C) us → E (.ref C) none H → X.xe (.ref e) { s with heap := h' }
def tRaise (E : XK) (C : Addr) (t : TA) : TS := fun _ σ H => t σ H fun vs H1 => vs.length ≤ 8 ∧ E (.ref C) none H1
section
variable {X : Cx} {E : XK} {C : Addr} {x : Str} {p cpos pos : Pos} {e : Expr} {es : List Expr} {t : TA}
end
/-! ### how it lies behind a call -/
def CX1 (P : Program) (w : World) : CXT := fun outer H s E ev s' => ∃ (ea : Addr) (cls a0 : Value) (B : Heap) (H' : Hp), ev = .ref ea ∧ s'.os = s.os ∧ AllBare s'.gens ∧ Heap.FlyingW B outer ea cls a0 s'.heap ∧
  (∀ b o, s.heap.get? b = some o → H b = none → b ∉ frs outer → B.get? b = some o) ∧ HOk P w H' B ∧ Same H H' ∧ (∀ b o, s.heap.get? b = some o → H b = none → H' b = none) ∧ (∀ b o, s.heap.get? b = some o → b ∈ frs outer → ∃ sl, s'.heap.get? b = some { o with slots := sl }) ∧ E cls none H'
section
variable {P : Program} {w : World} {K : PySem.W.Frag} {mg : Str → Option Value} {base : Heap} {N : List Str} {qual : Str} {scope : Scope} {f : Addr} {cd : Value} {A : Around} {outer : List Env} {s : Shared} {H : Hp} {E : XK}
end
end L2

namespace L2
open PySem PySem.Spec PySem.W PyProof.Rows PySem.Calls PySem.Builtin PySem.Builtin.ObjectAttr PySem.Builtin.Getset_descriptor
/-! ### isinstance of an exception -/
def ExcAt (e : Addr) (C : Value) (hp : Heap) : Prop := ∃ o : Obj, hp.get? e = some o ∧ o.cls = C
structure ExCls (K : PySem.W.Frag) (C : Addr) : Prop where
  ex : excIn K C bmV "ValueError.__new__" = true
  ga : findIn K (.ref C) "__getattribute__" = some (some (.builtin "BaseException.__getattribute__"))
  mb : mroIn K C (.type "BaseException") = some true
  gt : findIn K (.ref C) "__getattr__" = some none
  ca : findIn K (.ref C) "__class__" = some (some (.builtin "object.__class__"))
  cg : specialIn K (.builtin "object.__class__") "__get__" = some (some (.builtin "getset_descriptor.__get__"))
  ct : takesIn K (.builtin "object.__class__") = some true
  mo : mroIn K C (.type "object") = some true
  cl : (clsIn K C).isSome = true
section
variable {P : Program} {w : World} {A : Around} {E : Value → Shared → Prop} {s : Shared} {K : PySem.W.Frag} {e C : Addr}
end
end L2

namespace L2
open PySem PySem.Spec PySem.W PyProof.Rows
/-! ### an exception is caught -/
theorem ObjOk.there {P : Program} {w : World} {H : Hp} {hp : Heap} {a : Addr} {o : HO} (x : ObjOk P w H hp a o) : ∃ u, hp.get? a = some u := by
  cases o with
  | lst xs => obtain ⟨_, _, _, _, e⟩ := x; exact ⟨_, e⟩
  | tup xs => obtain ⟨_, _, _, ob, e, _⟩ := x; exact ⟨_, e⟩
  | dK kvs => obtain ⟨_, _, _, _, o, _, _, e, _⟩ := x; exact ⟨_, e⟩
  | dT kvs => obtain ⟨_, _, _, _, o, _, _, e, _⟩ := x; exact ⟨_, e⟩
  | set S n => obtain ⟨o, _, _, _, e, _⟩ := x; exact ⟨_, e⟩
  | ins C dx fs => obtain ⟨_, _, _, e, _⟩ := x; exact ⟨_, e⟩
  | own y => exact x
  | xd fs => obtain ⟨_, ⟨_, _, _, e, _⟩, _⟩ := x; exact ⟨_, e⟩
  | rng lo hi => obtain ⟨_, _, _, e⟩ := x; exact ⟨_, e⟩
  | frz ob u => obtain ⟨e, _⟩ := x; exact ⟨_, e⟩
  | tbl ps => exact ⟨_, x⟩
  | met f y => exact ⟨_, x⟩
  | ext φ => exact x.2.1
section
variable {X : Cx} {pins : List (Addr × Obj)} {σ : St} {H H' : Hp} {s s' : Shared} {B hp : Heap} {ea : Addr} {C : Value}
end
/-- within the except suite -/
abbrev Cx.suite (X : Cx) (ea : Addr) : Cx := { X with A := X.A.mark (some (.ref ea)), calm := false, xe := fun _ _ => False }
/-- what a call that may raise does: the names are as they were -/
def PEx (X : Cx) (E : XK) (e : Expr) (t : TE) : Prop := ∀ (pins : List (Addr × Obj)) (s : Shared) (σ : St) (H : Hp) (Q : VK) (xe : Value → Shared → Prop), Inv X pins σ H s → t σ H Q →
  (∀ H2 s2 ev s', Inv X pins σ H2 s2 → CX1 X.prog X.w X.stack H2 s2 E ev s' → xe ev s') → wpAny (model X.prog X.w) X.A (eval e X.env) (EP X pins σ Q) xe s
def PSx (X : Cx) (E : XK) (st : List Stmt) (t : TS) : Prop := ∀ (pins : List (Addr × Obj)) (s : Shared) (σ : St) (H : Hp) (D : Ends) (xe : Value → Shared → Prop), Inv X pins σ H s → t D σ H →
  (∀ H2 s2 ev s', Inv X pins σ H2 s2 → CX1 X.prog X.w X.stack H2 s2 E ev s' → xe ev s') → wpAny (model X.prog X.w) X.A (execs st X.env) (SP X pins D) xe s
section
variable {X : Cx} {E : XK}
end
end L2

namespace L2
open PySem PySem.Spec PySem.W PyProof.Rows
def endsOff (i : Nat) (D : Ends) : Ends := { nx := fun σ H => D.nx (σ.set i none) H, rt := D.rt, bk := fun σ H => D.bk (σ.set i none) H, ct := fun σ H => D.ct (σ.set i none) H }
/-- try: .. except G as n: .. -/
def tTry (K : PySem.W.Frag) (G : Addr) (i : Nat) (tb : XK → TS) (ts : Addr → Addr → TS) : TS := fun D σ H => ∃ E : XK, tb E D σ H ∧ ∀ cls H', E cls none H' → ∃ C, cls = .ref C ∧ ExCls K C ∧ exmOne K (.ref C) (.ref G) = some true ∧
  ∀ ea, H' ea = none → ts C ea (endsOff i D) (σ.set i (some (.ref ea))) (upd H' ea (.ext (ExcAt ea (.ref C))))
section
variable {X : Cx} {G : Addr} {g n : Str} {i : Nat} {body suite : List Stmt} {b₀ : Stmt} {gp hpos pos : Pos} {tb : XK → TS} {ts : Addr → Addr → TS}
end
end L2

namespace DL
open PySem PySem.Spec L2
/-! ### defs that may raise, as data -/
/-- m: what is told; x: the class that is raised -/
def spX (cA : Kn) (n : Nat) (m : List D → Option D) (x : List D → Option String) : Sp := fun vs H Q E => spD cA n m vs H Q E ∨
  ∃ (av : Addr → Prop) (ds : List D) (c : String), (∀ a, av a → H a ≠ none) ∧ RepL cA av H ds vs ∧ ds.length = n ∧ x ds = some c ∧ ∀ H', Same H H' → E (.ref (cA.c c)) none H'
def runX (N : Nat) (χ : Env → Option String) (ds : List D) : Option String := χ (ds.map some ++ List.replicate (N - ds.length) none)
/-- a statement that raises -/
def VX (G : Cn) (ow : List Nat) (E : XK) (ts : TS) (χ : Env → Option String) : Prop :=
  ∀ H0 av A σ H δ, ER G ow H0 av A σ H δ → ∀ c, χ δ = some c → (∀ H', Same H0 H' → E (.ref (G.1.c c)) none H') → ∀ De : Ends, ts De σ H
/-- an expression that raises; a statement that raises and has changed nothing ahead of it -/
def VXe (G : Cn) (ow : List Nat) (E : XK) (te : TE) (χ : Env → Option String) : Prop :=
  ∀ H0 av A σ H δ, ER G ow H0 av A σ H δ → ∀ c, χ δ = some c → (∀ H', Same H H' → E (.ref (G.1.c c)) none H') → ∀ Q : VK, te σ H Q
def VXs (G : Cn) (ow : List Nat) (E : XK) (ts : TS) (χ : Env → Option String) : Prop :=
  ∀ H0 av A σ H δ, ER G ow H0 av A σ H δ → ∀ c, χ δ = some c → (∀ H', Same H H' → E (.ref (G.1.c c)) none H') → ∀ De : Ends, ts De σ H
section
variable {cA : Kn} {G : Cn} {ow ow1 owB owC owN : List Nat} {E : XK}
def xNever (_ : Env) : Option String := none
def xRaise (c : String) (α : Env → Option (List D)) (δ : Env) : Option String := match α δ with
  | some ds => if ds.length ≤ 8 then some c else none
  | none => none
def xIf (τ : Env → Option Bool) (χ ψ : Env → Option String) (δ : Env) : Option String := match τ δ with
  | some true => χ δ
  | some false => ψ δ
  | none => none
/-- a row of statements: the first raises, or the others do behind it -/
def xSeq (χ : Env → Option String) (φ : Env → Option Out) (ψ : Env → Option String) (δ : Env) : Option String := match χ δ with
  | some c => some c
  | none => match φ δ with
    | some (.nx δ1) => ψ δ1
    | _ => none
def xCall (n : Nat) (x : List D → Option String) (dds : List D) (α : Env → Option (List D)) (δ : Env) : Option String := match α δ with
  | some ds => if (ds ++ dds).length = n then x (ds ++ dds) else none
  | none => none
end
section
variable {P : Program} {w : World} {K : PySem.W.Frag} {mg : Str → Option Value} {base : Heap} {cA : Kn}
end
end DL

namespace DL
open PySem PySem.Spec L2
/-! ### try, and in the suite r = [isinstance(e, ..), ..] -/
def rIsiE (K : PySem.W.Frag) (e C : Addr) : List V → Hp → VK → Prop := fun xs H Q => ∃ c cv b, xs = [.ref e, c] ∧ (∀ v, RelV c v → v = cv) ∧ H e = some (.ext (ExcAt e (.ref C))) ∧ PySem.W.kitOne K (.ref C) cv = some b ∧ Q (.bl b) H
def tIsis (K : PySem.W.Frag) (i : Nat) (C ea : Addr) : List V → TA
  | [] => tNil
  | v :: vs => tCons (tCB (rIsiE K ea C) (tCons (tVar i) (tCons (tC v) tNil))) (tIsis K i C ea vs)
def isis (c : String) : List (List (String × Bool)) → Option (List Bool)
  | [] => some []
  | t :: r => match t.lookup c, isis c r with
    | some b, some bs => some (b :: bs)
    | _, _ => none
/-- what isinstance tells of the exceptions' classes -/
def IsiE (K : PySem.W.Frag) (cA : Kn) (v : V) (tab : List (String × Bool)) : Prop := ∀ c b, tab.lookup c = some b → ∃ cv, (∀ u, RelV v u → u = cv) ∧ PySem.W.kitOne K (.ref (cA.c c)) cv = some b
inductive IsiEs (K : PySem.W.Frag) (cA : Kn) : List V → List (List (String × Bool)) → Prop where
  | nil : IsiEs K cA [] []
  | cons {v : V} {t : List (String × Bool)} {vs : List V} {ts : List (List (String × Bool))} : IsiE K cA v t → IsiEs K cA vs ts → IsiEs K cA (v :: vs) (t :: ts)
section
variable {cA : Kn} {G : Cn} {ow owB owC : List Nat}
theorem ER.none {H0 H : Hp} {av : Addr → Prop} {A : Nat → Option Addr} {σ : L2.St} {δ : Env} {i : Nat} {x : Option V} (R : ER G ow H0 av A σ H δ) (hi : ow.contains i = false) (hn : G.2 i = Option.none) : ER G ow H0 av A (σ.set i x) H (δ.set i Option.none) :=
  ⟨R.same, R.avd, R.fr, R.inj, R.live, R.dom, R.dom', by rw [List.length_set, List.length_set]; exact R.len, R.pin, (fun j v' e => by
      have q : j ≠ i := fun z => by rw [z, hn] at e; cases e
      rw [List.getElem?_set_ne (Ne.symm q)]; exact R.kept j v' e), fun j d e => by
    have hj : j ≠ i := by
      intro z
      subst z
      by_cases hl : j < δ.length
      · rw [List.getElem?_set_self hl] at e; cases e
      · rw [List.getElem?_eq_none (by rw [List.length_set]; omega)] at e; cases e
    rw [List.getElem?_set_ne (Ne.symm hj)] at e
    obtain ⟨v, h1, h2⟩ := R.var j d e
    exact ⟨v, by rw [List.getElem?_set_ne (Ne.symm hj)]; exact h1, h2⟩⟩
def sTry (φb : Env → Option Out) (χb : Env → Option String) (cl : List String) (i r : Nat) (tabs : List (List (String × Bool))) (δ : Env) : Option Out := match χb δ with
  | some c => if cl.contains c = true ∧ i < δ.length then (match isis c tabs with
    | some bs => if bs.length ≤ 1000 then some (.nx ((δ.set r (some (.lst (bs.map D.bl)))).set i none)) else none
    | none => none) else none
  | none => φb δ
end
end DL

namespace L2
open PySem PySem.Spec PyProof.Rows
section
variable {X : Cx}
/-! ### lists of any kind, put together and repeated -/
def rCatS (K : PySem.W.Frag) : R2 := fun x y H Q => ∃ l b xs zs, x = .ref l ∧ y = .ref b ∧ SqL K H l xs ∧ SqL K H b zs ∧ xs.length + zs.length ≤ sizeLine ∧ ∀ p, H p = none → Q (.ref p) (upd H p (.lst (xs ++ zs)))
theorem op_catS : OpR X (binaryOp .Add) (rCatS X.K) := by
  intro pins s σ H x y v u Q I rx ry h
  obtain ⟨l, b, xs, zs, rfl, rfl, hH, hB, hz, q⟩ := h
  cases rx
  cases ry
  obtain ⟨its, r, pl, _⟩ := I.list hH
  obtain ⟨its2, r2, pl2, _⟩ := I.list hB
  obtain ⟨⟨c1, d1, da1, sl1⟩, n1, g1, e1, e2, e3⟩ := pl
  obtain ⟨⟨c2, d2, da2, sl2⟩, n2, g2, f1, f2, f3⟩ := pl2
  dsimp only at e1 e2 e3 f1 f2 f3
  subst e1 e2 e3 f1 f2 f3
  have hl := r.length
  have hl2 := r2.length
  refine concat_meets ⟨_, g1, rfl⟩ ⟨_, g2, rfl⟩ noFill_list_add seq_list_add PySem.F.slot_list_add PySem.F.entry_list_add (PySem.F.args_list_add_2 _ _) (list_addW l b its.toArray its2.toArray n1 n2 none none sl1 sl2 (by rw [List.size_toArray, List.size_toArray]; omega)) ⟨g1, g2, ?_⟩
  have ea : its.toArray ++ its2.toArray = (its ++ its2).toArray := by simp
  rw [ea]
  exact ⟨.ref _, _, I.lnew (t' := s.toks) (r.append r2) (by rw [List.length_append]; omega), rfl, q _ I.fresh⟩
def rRepS (K : PySem.W.Frag) : R2 := fun x y H Q => ∃ l k xs, x = .ref l ∧ y = .int k ∧ SqL K H l xs ∧ -(2 ^ 63) ≤ k ∧ k < 2 ^ 63 ∧ xs.length * k.toNat ≤ sizeLine ∧ ∀ p, H p = none → Q (.ref p) (upd H p (.lst (List.replicate k.toNat xs).flatten))
theorem op_repS : OpR X (binaryOp .Mult) (rRepS X.K) := by
  intro pins s σ H x y v u Q I rx ry h
  obtain ⟨l, k, xs, rfl, rfl, hH, h1, h2, hz, q⟩ := h
  cases rx
  obtain ⟨t, rfl⟩ := ry
  obtain ⟨its, r, pl, _⟩ := I.list hH
  obtain ⟨⟨c1, d1, da1, sl1⟩, n1, g1, e1, e2, e3⟩ := pl
  dsimp only at e1 e2 e3
  subst e1 e2 e3
  have hl := r.length
  have hlen : its.toArray.size * k.toNat ≤ sizeLine := by rw [List.size_toArray, ← hl]; exact hz
  have hcap : ¬ its.toArray.size * k.toNat > (2 ^ 63 - 1) / 8 := by
    have : (sizeLine : Nat) ≤ (2 ^ 63 - 1) / 8 := by decide
    omega
  have hfit : ¬ (!Builtin.List.listFitsIndex k) = true := by
    rw [fitsIndex_both h1 h2]
    exact Bool.false_ne_true
  have hlong : ¬ Builtin.List.listTooLong (its.toArray.size * k.toNat) = true := by
    rw [notLongL hlen]
    exact Bool.false_ne_true
  have hnew : List.foldl (fun x1 x2 => x1 ++ x2) #[] (List.replicate (if its.toArray.isEmpty = true then 0 else k.toNat) its.toArray) = (List.replicate k.toNat its).flatten.toArray := by
    have f0 : ∀ m : Nat, List.foldl (fun x1 x2 => x1 ++ x2) #[] (List.replicate m its.toArray) = (List.replicate m its).flatten.toArray := fun m => by
      have := foldl_rep its m []
      rw [List.nil_append] at this
      exact this
    rw [f0]
    cases its with
    | nil => simp
    | cons a r' => rw [if_neg (by simp)]
  refine wpAny_binaryOp_repeat_ref (T := "list") (U := "int") (by decide) ⟨_, g1, rfl⟩ (fun s' => typeIs_int s' k t) noFill_list_mul F.fills_int_mul F.slot_int_rmul repeat_list F.slot_int_index.lookup
    (call_meets F.slot_int_rmul (typeIs_int s k t) F.entry_int_rmul (F.args_int_rmul_2 _ _) (lm_int_rmul_list_any k t l its.toArray n1 none sl1)
      ⟨g1, rfl, ⟨_, g1, rfl⟩, call_meets F.slot_list_mul ⟨_, g1, rfl⟩ F.entry_list_mul (F.args_list_mul_2 _ _) (lm_list_mul_any l its.toArray n1 none sl1 k t hfit hcap hlong) ⟨g1, ?_⟩⟩)
  rw [hnew]
  exact ⟨.ref _, _, I.lnew (t' := s.toks) (r.rep k.toNat) (by rw [len_rep, Nat.mul_comm]; exact hz), rfl, q _ I.fresh⟩
def rAddZ (K : PySem.W.Frag) : R2 := fun x y H Q => rI0 (fun i j => .int (i + j)) x y H Q ∨ rAddS x y H Q ∨ rCatS K x y H Q
theorem op_addZ : OpR X (binaryOp .Add) (rAddZ X.K) := op_add.or (op_addS.or op_catS)
theorem k_addZ {K : PySem.W.Frag} (hK : X.K = K := by rfl) : OpR X (binaryOp .Add) (rAddZ K) := hK ▸ op_addZ
def rMulZ (K : PySem.W.Frag) : R2 := fun x y H Q => rI DL.CMulW (fun i j => .int (i * j)) x y H Q ∨ DL.rMulS x y H Q ∨ rRepS K x y H Q
theorem op_mulZ : OpR X (binaryOp .Mult) (rMulZ X.K) := DL.op_mulW.or (DL.op_mulS.or op_repS)
theorem k_mulZ {K : PySem.W.Frag} (hK : X.K = K := by rfl) : OpR X (binaryOp .Mult) (rMulZ K) := hK ▸ op_mulZ
end
end L2
namespace DL
open PySem PySem.Spec L2
section
variable {cA : Kn} {G : Cn} {ow owB owC : List Nat}
/-- a new list of what is known -/
theorem rep_new {i : Addr → Prop} {H : Hp} {p : Addr} {xs : List D} {vs : List V} (hi : ∀ a, i a → H a ≠ none) (hp : H p = none) (l : RepL cA i H xs vs) : Rep cA i (upd H p (.lst vs)) (.lst xs) (.ref p) := by
  unfold Rep
  exact ⟨p, vs, rfl, fun z => (hi p z hp).elim, SqL.of upd_same, l.same (same_upd hp)⟩
def addX : D → D → Option D
  | .lst a, .lst b => if a.length + b.length ≤ sizeLine then some (.lst (a ++ b)) else none
  | x, y => addD x y
theorem ok_addX : OpOk cA (rAddZ cA.K) addX := fun t t' i H x y vx vy d hi hx hy e Q k => by
  have old : addD x y = some d → rAddZ cA.K vx vy H Q := fun e => by
    rcases (ok_add (cA := cA) t t' i H x y vx vy d hi hx hy e Q k) with h | h | h
    · exact .inl h
    · exact .inr (.inl h)
    · obtain ⟨l, b, xs, zs, e1, e2, h1, h2, h3, h4⟩ := h
      exact .inr (.inr ⟨l, b, xs, zs, e1, e2, SqL.of h1, SqL.of h2, h3, h4⟩)
  cases x with
  | lst a =>
    cases y with
    | lst b =>
      dsimp only [addX] at e
      by_cases hz : a.length + b.length ≤ sizeLine
      · rw [if_pos hz] at e
        cases e
        obtain ⟨a1, vs1, rfl, _, r1, l1⟩ := hx
        obtain ⟨a2, vs2, rfl, _, r2, l2⟩ := hy
        exact .inr (.inr ⟨a1, a2, vs1, vs2, rfl, rfl, r1, r2, by rw [← l1.length, ← l2.length]; exact hz, fun p hp => k _ _ (same_upd hp) (rep_new hi hp (l1.append l2))⟩)
      · rw [if_neg hz] at e; cases e
    | _ => exact old e
  | _ => exact old e
theorem RepL.rep {av : Addr → Prop} {H : Hp} {xs : List D} {vs : List V} (l : RepL cA av H xs vs) : ∀ n : Nat, RepL cA av H (List.replicate n xs).flatten (List.replicate n vs).flatten
  | 0 => .nil
  | n + 1 => by
    rw [List.replicate_succ, List.replicate_succ, List.flatten_cons, List.flatten_cons]
    exact l.append (RepL.rep l n)
def mulX : D → D → Option D
  | .int i, .int j => if CMulW i j then some (.int (i * j)) else none
  | .str a, .int n => if n < 2 ^ 63 ∧ -(2 ^ 63) ≤ n ∧ a.length * n.toNat ≤ sizeLine then some (.str (mulL a n)) else none
  | .lst a, .int n => if n < 2 ^ 63 ∧ -(2 ^ 63) ≤ n ∧ a.length * n.toNat ≤ sizeLine then some (.lst (List.replicate n.toNat a).flatten) else none
  | _, _ => none
theorem ok_mulX : OpOk cA (rMulZ cA.K) mulX := fun t t' i H x y vx vy d hi hx hy e Q k => by
  cases x <;> cases y <;> first | (cases e; done) | skip
  · cases (show vx = _ from hx); cases (show vy = _ from hy)
    rename_i a b
    dsimp only [mulX] at e
    by_cases hz : CMulW a b
    · rw [if_pos hz] at e
      cases e
      exact .inl ⟨_, _, rfl, rfl, hz, k _ H (Same.refl H) rfl⟩
    · rw [if_neg hz] at e; cases e
  · cases (show vx = _ from hx); cases (show vy = _ from hy)
    rename_i a n
    dsimp only [mulX] at e
    by_cases hz : n < 2 ^ 63 ∧ -(2 ^ 63) ≤ n ∧ a.length * n.toNat ≤ sizeLine
    · rw [if_pos hz] at e
      cases e
      exact .inr (.inl ⟨_, _, rfl, rfl, hz, k _ H (Same.refl H) rfl⟩)
    · rw [if_neg hz] at e; cases e
  · rename_i a n
    cases (show vy = _ from hy)
    dsimp only [mulX] at e
    by_cases hz : n < 2 ^ 63 ∧ -(2 ^ 63) ≤ n ∧ a.length * n.toNat ≤ sizeLine
    · rw [if_pos hz] at e
      cases e
      obtain ⟨a1, vs1, rfl, _, r1, l1⟩ := hx
      exact .inr (.inr ⟨a1, n, vs1, rfl, rfl, r1, hz.2.1, hz.1, by rw [← l1.length]; exact hz.2.2, fun p hp => k _ _ (same_upd hp) (rep_new hi hp (l1.rep n.toNat))⟩)
    · rw [if_neg hz] at e; cases e
/-! ### xs[k] = v, xs the name's own -/
def sSetI (i : Nat) (κ ε : Env → Option D) (δ : Env) : Option Out := match ε δ with
  | some d => match eVar i δ with
    | some (.lst xs) => match κ δ with
      | some (.int k) => match ixN xs.length k with
        | some j => some (.nx (δ.set i (some (.lst (xs.set j d)))))
        | none => none
      | _ => none
    | _ => none
  | none => none
theorem vs_setI {te ti : TE} {q : Ql} {ε κ : Env → Option D} (i : Nat) (hi : ow.contains i = true) (h : VE G ow te .cl ε) (hk : VE G ow ti q κ) : VS G ow ow owB owC (tAsg te (gSub (tVar i) ti rSetL)) (sSetI i κ ε) := fun H0 av A σ H δ E o e De k => by
  unfold sSetI at e
  cases he : ε δ with
  | none => rw [he] at e; cases e
  | some d =>
    rw [he] at e
    dsimp only at e
    cases hv : eVar i δ with
    | none => rw [hv] at e; cases e
    | some x =>
      rw [hv] at e
      cases x <;> first | (cases e; done) | skip
      rename_i xs
      dsimp only at e
      cases hq : κ δ with
      | none => rw [hq] at e; cases e
      | some y =>
        rw [hq] at e
        cases y <;> first | (cases e; done) | skip
        rename_i n
        dsimp only at e
        cases hj : ixN xs.length n with
        | none => rw [hj] at e; cases e
        | some j =>
          rw [hj] at e
          cases e
          have hi' : i ∈ ow := by simpa using hi
          cases hA : A i with
          | none => exact absurd hA (E.dom' i hi')
          | some a =>
            refine h H0 av A σ H δ E d he _ fun v H1 s1 r1 => ?_
            have E1 := E.mono s1
            obtain ⟨v0, h1, _, h3⟩ := E1.var i _ (eVar_some hv)
            obtain ⟨rfl, vs, q1, q2⟩ := h3 a hA
            refine ⟨_, h1, hk H0 av A σ H1 δ E1 _ hq _ fun y H2 s2 r2 => ?_⟩
            have ey : y = .int n := r2.any
            subst ey
            have E2 := E1.mono s2
            have q1' := s2 _ _ q1
            refine ⟨a, vs, n, j, rfl, rfl, q1', by rw [← q2.length]; exact hj, k A σ _ (E2.put hA (eVar_some hv) (fun b o hb e => by rw [upd_ne hb]; exact e) (by rw [upd_same]; exact fun z => by cases z) ⟨_, upd_same, ?_⟩)⟩
            have ex : ∀ b o, ¬ AV av A b → H2 b = some o → upd H2 a (.lst (vs.set j v)) b = some o := fun b o nb e => by
              rw [upd_ne fun z => nb (.inr ⟨i, by rw [z]; exact hA⟩)]
              exact e
            exact (((q2.same s2).set ((RepT.r r1).same s2) j)).ext ex
end
end DL
namespace L2
open PySem PySem.W
theorem cls_of_exc {K : PySem.W.Frag} {C : Addr} {tlB : List Value} {nid : String} (q0 : excIn K C tlB nid = true) : (clsIn K C).isSome = true := by
  unfold excIn at q0
  split at q0
  · rename_i look0
    unfold clsIn
    rw [look0]
    rfl
  · cases q0
theorem ExCls.of {K : PySem.W.Frag} {C : Addr} (ex : excIn K C bmV "ValueError.__new__" = true) (ga : findIn K (.ref C) "__getattribute__" = some (some (.builtin "BaseException.__getattribute__"))) (mb : mroIn K C (.type "BaseException") = some true) (gt : findIn K (.ref C) "__getattr__" = some none) (ca : findIn K (.ref C) "__class__" = some (some (.builtin "object.__class__")))
    (cg : specialIn K (.builtin "object.__class__") "__get__" = some (some (.builtin "getset_descriptor.__get__"))) (ct : takesIn K (.builtin "object.__class__") = some true) (mo : mroIn K C (.type "object") = some true) : ExCls K C := ⟨ex, ga, mb, gt, ca, cg, ct, mo, cls_of_exc ex⟩
end L2
namespace DL
open L2
theorem VX.frz {G : Cn} {ow ow1 : List Nat} {E : XK} {t : TS} {χ : Env → Option String} (i : Nat) (h : VX G ow1 E t χ) (hn : G.2 i = none) (h1 : sub ow1 ow = true) (h2 : ow1.contains i = false) (h3 : sub ow (i :: ow1) = true) : VX G ow E t χ := fun H0 av A σ H δ R c e k De =>
  h H0 av _ σ H δ (R.freeze i (mem_minus h1 h2 h3) hn) c e k De
end DL
namespace L2
open PySem
end L2
namespace L2
open PySem
end L2

namespace L2
open PySem PySem.Spec PySem.W PyProof.Rows
/-! ### f'..' -/
def repL (cs : List Nat) : List Nat := (reprText (tx cs)).cps.toList
section
variable {X : Cx} {e : Expr} {te : TE} {pos : Pos}
def tFmtR (te : TE) : TE := fun σ H Q => te σ H fun v H1 => ∃ cs, v = S cs ∧ (repL cs).length ≤ sizeLine ∧ Q (S (repL cs)) H1
def tFmtP (te : TE) : TE := fun σ H Q => te σ H fun v H1 => (∃ cs, v = S cs ∧ cs.length ≤ sizeLine ∧ Q (S cs) H1) ∨ ∃ n : Nat, v = .int n ∧ n < 10 ^ 10 ∧ Q (S (figs n)) H1
inductive PJ (X : Cx) : List Expr → List TE → Prop where
  | nil : PJ X [] []
  | cons {e : Expr} {es : List Expr} {t : TE} {ts : List TE} : PE X e t → PJ X es ts → PJ X (e :: es) (t :: ts)
def tJs : List TE → List Nat → L2.St → Hp → (List Nat → Hp → Prop) → Prop
  | [], acc, _, H, Q => Q acc H
  | t :: r, acc, σ, H, Q => t σ H fun v H1 => ∃ cs, v = S cs ∧ (acc ++ cs).length ≤ sizeLine ∧ tJs r (acc ++ cs) σ H1 Q
def tJoin (ts : List TE) : TE := fun σ H Q => tJs ts [] σ H fun cs H1 => Q (S cs) H1
end
end L2
namespace DL
open PySem PySem.Spec L2
def fmtR : D → Option D
  | .str cs => if cs.length ≤ 1000 ∧ cs.all (fun c => decide (c < 65536)) = true then some (.str (repL cs)) else none
  | _ => none
def fmtP : D → Option D
  | .str cs => if cs.length ≤ sizeLine then some (.str cs) else none
  | .int n => if 0 ≤ n ∧ n < 10 ^ 10 then some (.str (figs n.toNat)) else none
  | _ => none
def eFmt (f : D → Option D) (a : Env → Option D) (δ : Env) : Option D := match a δ with
  | some d => f d
  | none => none
section
variable {G : Cn} {ow : List Nat}
inductive VJ (G : Cn) (ow : List Nat) : List TE → List (Env → Option D) → Prop where
  | nil : VJ G ow [] []
  | cons {t : TE} {a : Env → Option D} {ts : List TE} {as : List (Env → Option D)} : VE G ow t .cl a → VJ G ow ts as → VJ G ow (t :: ts) (a :: as)
def xJs : List (Env → Option D) → List Nat → Env → Option (List Nat)
  | [], acc, _ => some acc
  | a :: r, acc, δ => match a δ with
    | some (.str cs) => if (acc ++ cs).length ≤ sizeLine then xJs r (acc ++ cs) δ else none
    | _ => none
def eJoin (as : List (Env → Option D)) (δ : Env) : Option D := match xJs as [] δ with
  | some cs => some (.str cs)
  | none => none
end
end DL

namespace L2
open PySem PySem.Spec PySem.W PyProof.Rows
section
variable {X : Cx} {E : XK}
end
end L2
namespace DL
open PySem PySem.Spec L2
/-! ### o.m(..) that may raise -/
abbrev XTab := List (String × (Nat × (List D → Option D) × (List D → Option String)))
structure MethOkX (X : Cx) (cA : Kn) (k : Nat) (m : String) (c : String) (n : Nat) (mm : List D → Option D) (xm : List D → Option String) : Prop where
  ex : ∃ f fd ps, Cls X.K (cA.c c) ∧ Meth X.K (cA.c c) (Str.ofString m) f ∧ FnOk X.prog X.w X.K X.mg X.base (CX1 X.prog X.w) k f fd ps (spX cA n mm xm) ∧ Binds X.K fd ps []
def MTOkX (X : Cx) (cA : Kn) (k : Nat) (m : String) : XTab → Prop
  | [] => True
  | (c, n, mm, xm) :: r => MethOkX X cA k m c n mm xm ∧ MTOkX X cA k m r
def tMethX (cA : Kn) (m : String) (tab : XTab) (E : XK) (ta : TE) (t : TA) : TE := fun σ H Q => ta σ H fun x H1 => ∃ a dx fs c n mm xm, x = .ref a ∧ H1 a = some (.ins (cA.c c) dx fs) ∧ fs.lookup (Str.ofString m) = none ∧ tab.lookup c = some (n, mm, xm) ∧ t σ H1 fun vs H2 => spX cA n mm xm (x :: vs) H2 Q E
section
variable {X : Cx} {cA : Kn} {k : Nat} {m : String} {tab : XTab} {o e : Expr} {es : List Expr} {ta : TE} {t : TA} {pos apos : Pos} {pl : Sem Bool} {E : XK}
end
section
variable {cA : Kn} {G : Cn} {ow ow1 owB owC owN : List Nat} {E : XK}
def eMethX (m : String) (tab : XTab) (a : Env → Option D) (α : Env → Option (List D)) (δ : Env) : Option D := match a δ with
  | some (.obj c ks xs) => if ks.contains m then none else (match tab.lookup c with
    | some (n, mm, _) => match α δ with
      | some ds => if (D.obj c ks xs :: ds).length = n then mm (.obj c ks xs :: ds) else none
      | none => none
    | none => none)
  | _ => none
def xMeth (m : String) (tab : XTab) (a : Env → Option D) (α : Env → Option (List D)) (δ : Env) : Option String := match a δ with
  | some (.obj c ks xs) => if ks.contains m then none else (match tab.lookup c with
    | some (n, _, xm) => match α δ with
      | some ds => if (D.obj c ks xs :: ds).length = n then xm (.obj c ks xs :: ds) else none
      | none => none
    | none => none)
  | _ => none
/-! ### for, in a def that may raise -/
def forX (γ : D → Env → Option Env) (φ : Env → Option Out) (χ : Env → Option String) : List D → Env → Option String
  | [], _ => none
  | x :: r, δ => match γ x δ with
    | none => none
    | some δ1 => match χ δ1 with
      | some c => some c
      | none => match φ δ1 with
        | some (.nx δ2) => forX γ φ χ r δ2
        | some (.ct δ2) => forX γ φ χ r δ2
        | _ => none
def xFor (ι : Env → Option (List D)) (γ : D → Env → Option Env) (φ : Env → Option Out) (χ : Env → Option String) (δ : Env) : Option String := match ι δ with
  | some xs => forX γ φ χ xs δ
  | none => none
end
end DL

namespace L2
open PySem PySem.Spec PySem.W PyProof.Rows
/-! ### list(a text) -/
def rLstX (K : PySem.W.Frag) : List V → Hp → VK → Prop := fun xs H Q => rLstOf K xs H Q ∨ ∃ cs, xs = [S cs] ∧ cs.length ≤ sizeLine ∧ ∀ l, H l = none → Q (.ref l) (upd H l (.lst (cs.map fun c => S [c])))
end L2
namespace DL
open PySem PySem.Spec L2
def listX : List D → Option D
  | [.str cs] => if cs.length ≤ sizeLine then some (.lst (cs.map fun c => .str [c])) else none
  | ds => listD ds
section
variable {G : Cn} {ow : List Nat}
end
end DL

namespace L2
open PySem PySem.Spec PyProof.Rows
/-! ### zip of two lists -/
def Itz (K : PySem.W.Frag) (l1 l2 : Addr) : It :=
  ⟨fun i H => ∃ xs ys x y, SqL K H l1 xs ∧ SqL K H l2 ys ∧ xs[i]? = some x ∧ ys[i]? = some y,
   fun i H v H' => ∃ x y p, (∀ xs, SqL K H l1 xs → xs[i]? = some x) ∧ (∀ ys, SqL K H l2 ys → ys[i]? = some y) ∧ H p = none ∧ v = .ref p ∧ H' = upd H p (.tup [x, y]),
   fun i H => ∃ xs ys, SqL K H l1 xs ∧ SqL K H l2 ys ∧ (xs.length ≤ i ∨ ys.length ≤ i)⟩
section
variable {X : Cx} {elts : List Expr} {x1 : Nat} {tpos : Pos}
def iZip (K : PySem.W.Frag) (ta : TA) : TI := fun σ H R => ta σ H fun vs H1 => ∃ l1 l2 xs ys, vs = [.ref l1, .ref l2] ∧ SqL K H1 l1 xs ∧ SqL K H1 l2 ys ∧ R (Itz K l1 l2) H1
end
end L2

namespace DL
open PySem PySem.Spec L2
def zipD : List D → List D → List D
  | x :: xs, y :: ys => .tup [x, y] :: zipD xs ys
  | _, _ => []
section
variable {cA : Kn} {G : Cn} {ow : List Nat}
def iotaZ (ε1 ε2 : Env → Option D) (δ : Env) : Option (List D) := match ε1 δ, ε2 δ with
  | some (.lst xs), some (.lst ys) => some (zipD xs ys)
  | _, _ => none
end
end DL

namespace DL
open PySem PySem.Spec L2
/-! ### a list of lists that is one name's alone -/
def mat (rows : List (List D)) : D := .lst (rows.map D.lst)
structure Mx (H : Hp) (a : Addr) (bs : List Addr) (rows : List (List D)) : Prop where
  top : H a = some (.lst (bs.map V.ref))
  len : bs.length = rows.length
  nd : bs.Nodup
  na : a ∉ bs
  row : ∀ (k : Nat) (b : Addr) (r : List D), bs[k]? = some b → rows[k]? = some r → H b = some (.lst (r.map val))
  sc : ∀ r ∈ rows, r.all scalar = true
section
variable {H H' : Hp} {a : Addr} {bs : List Addr} {rows : List (List D)}
theorem Mx.mem (M : Mx H a bs rows) {b : Addr} (h : b ∈ bs) : ∃ r ∈ rows, H b = some (.lst (r.map val)) := by
  obtain ⟨k, hk, e⟩ := List.mem_iff_getElem.mp h
  have hk2 : k < rows.length := by rw [← M.len]; exact hk
  exact ⟨rows[k], List.getElem_mem hk2, M.row k b _ (by rw [List.getElem?_eq_getElem hk, e]) (List.getElem?_eq_getElem hk2)⟩
theorem Mx.there (M : Mx H a bs rows) {x : Addr} (h : x ∈ a :: bs) : ∃ vs, H x = some (.lst vs) := by
  rcases List.mem_cons.mp h with rfl | h
  · exact ⟨_, M.top⟩
  · obtain ⟨r, _, e⟩ := M.mem h
    exact ⟨_, e⟩
theorem Mx.mono (M : Mx H a bs rows) (k : Same H H') : Mx H' a bs rows := ⟨k _ _ M.top, M.len, M.nd, M.na, fun n b r h1 h2 => k _ _ (M.row n b r h1 h2), M.sc⟩
theorem Mx.rep {cA : Kn} {av : Addr → Prop} (M : Mx H a bs rows) (hn : ∀ x ∈ a :: bs, ¬ av x) : Rep cA av H (mat rows) (.ref a) := by
  have go : ∀ (bs : List Addr) (rows : List (List D)), bs.length = rows.length → (∀ x ∈ bs, ¬ av x) → (∀ (k : Nat) (b : Addr) (r : List D), bs[k]? = some b → rows[k]? = some r → H b = some (.lst (r.map val))) → (∀ r ∈ rows, r.all scalar = true) → RepL cA av H (rows.map D.lst) (bs.map V.ref) := by
    intro bs
    induction bs with
    | nil =>
      intro rows hl _ _ _
      cases rows with
      | nil => exact .nil
      | cons _ _ => simp at hl
    | cons b bs ih =>
      intro rows hl hn hr hs
      cases rows with
      | nil => simp at hl
      | cons r rows =>
        refine .cons ?_ (ih rows (by simpa using hl) (fun x hx => hn x (List.mem_cons_of_mem _ hx)) (fun k b r h1 h2 => hr (k + 1) b r (by simpa using h1) (by simpa using h2)) fun r hr => hs r (List.mem_cons_of_mem _ hr))
        unfold Rep
        exact ⟨b, r.map val, rfl, fun z => (hn b List.mem_cons_self z).elim, SqL.of (hr 0 b r rfl rfl), .of_vals (hs r List.mem_cons_self)⟩
  unfold mat Rep
  exact ⟨a, bs.map V.ref, rfl, fun z => (hn a List.mem_cons_self z).elim, SqL.of M.top, go bs rows M.len (fun x hx => hn x (List.mem_cons_of_mem _ hx)) M.row M.sc⟩
end
open Classical in
noncomputable def ovl (H0 H : Hp) (F : List Addr) : Hp := fun x => if x ∈ F then H x else H0 x
theorem ovl_in {H0 H : Hp} {F : List Addr} {x : Addr} (h : x ∈ F) : ovl H0 H F x = H x := if_pos h
theorem ovl_out {H0 H : Hp} {F : List Addr} {x : Addr} (h : x ∉ F) : ovl H0 H F x = H0 x := if_neg h
abbrev Cn.keep (G : Cn) (i : Nat) (v : V) : Cn := ⟨G.1, fun j => if j = i then some (.inr v) else G.2 j⟩
abbrev avF (av : Addr → Prop) (F : List Addr) : Addr → Prop := fun x => av x ∨ x ∈ F
/-- where the name i is to keep its value, it does -/
def PinOk (G : Cn) (i : Nat) (σ : L2.St) : Prop := ∀ z, G.2 i = some z → ∃ v, z = .inr v ∧ σ[i]? = some (some v)
theorem PinOk.none {G : Cn} {i : Nat} {σ : L2.St} (h : G.2 i = Option.none) : PinOk G i σ := fun z e => by rw [h] at e; cases e
theorem PinOk.set {G : Cn} {i k : Nat} {σ : L2.St} {x : Option V} (h : PinOk G i σ) (hk : k ≠ i) : PinOk G i (σ.set k x) := fun z e => by
  obtain ⟨v, h1, h2⟩ := h z e
  exact ⟨v, h1, by rw [List.getElem?_set_ne hk]; exact h2⟩
/-- the name i holds such a list; all others' data avoid it -/
structure MR (G : Cn) (ow : List Nat) (i : Nat) (H0 : Hp) (av : Addr → Prop) (A : Nat → Option Addr) (σ : L2.St) (H : Hp) (δ : Env) : Prop where
  ni : i ∉ ow
  nn : PinOk G i σ
  avd : ∀ x, av x → H0 x ≠ none
  ex : ∃ a bs rows, δ[i]? = some (some (mat rows)) ∧ Mx H a bs rows ∧ (∀ x ∈ a :: bs, H0 x = none) ∧ ER (G.keep i (.ref a)) ow (ovl H0 H (a :: bs)) (avF av (a :: bs)) A σ H (δ.set i none)
section
variable {cA : Kn} {G : Cn} {ow owN owB owC ow1 : List Nat} {i : Nat} {H0 H H' : Hp} {av : Addr → Prop} {A : Nat → Option Addr} {σ : L2.St} {δ : Env}
theorem keep_ne {j : Nat} {v : V} (h : j ≠ i) : (G.keep i v).2 j = G.2 j := if_neg h
theorem keep_eq {v : V} : (G.keep i v).2 i = some (.inr v) := if_pos rfl
/-- as if it were none's alone: for reading -/
theorem MR.view (R : MR G ow i H0 av A σ H δ) : ER G ow H0 av A σ H δ := by
  obtain ⟨a, bs, rows, hd, M, h0, E⟩ := R.ex
  have nF : ∀ j x, A j = some x → x ∉ a :: bs := fun j x e z => by
    have := E.fr j x e
    rw [ovl_in z] at this
    obtain ⟨vs, q⟩ := M.there z
    rw [q] at this; cases this
  have hAi : A i = none := by
    cases q : A i with
    | none => rfl
    | some x => exact (R.ni (E.dom i (by rw [q]; exact fun z => by cases z))).elim
  have less : ∀ b, AV av A b → AV (avF av (a :: bs)) A b := fun b z => z.elim (fun z => .inl (.inl z)) .inr
  have hil : i < δ.length := (List.getElem?_eq_some_iff.mp hd).1
  refine ⟨fun b o e => ?_, R.avd, fun j x e => ?_, E.inj, E.live, E.dom, E.dom', by rw [E.len, List.length_set], fun j x e => ?_, fun j v e => ?_, fun j d e => ?_⟩
  · have nb : b ∉ a :: bs := fun z => by rw [h0 b z] at e; cases e
    exact E.same b o (by rw [ovl_out nb]; exact e)
  · have := E.fr j x e
    rw [ovl_out (nF j x e)] at this
    exact this
  · have q : j ≠ i := fun z => by
      obtain ⟨v, h1, _⟩ := R.nn _ (z ▸ e)
      cases h1
    exact E.pin j x (by rw [keep_ne q]; exact e)
  · by_cases q : j = i
    · obtain ⟨v', h1, h2⟩ := R.nn _ (q ▸ e)
      cases h1
      rw [q]
      exact h2
    · exact E.kept j v (by rw [keep_ne q]; exact e)
  · by_cases q : j = i
    · subst q
      rw [hd] at e
      cases e
      refine ⟨.ref a, E.kept j _ keep_eq, fun _ => M.rep fun x hx z => ?_, fun b z => by rw [hAi] at z; cases z⟩
      rcases z with z | ⟨k, z⟩
      · exact R.avd x z (h0 x hx)
      · exact nF k x z hx
    · obtain ⟨v, h1, h2, h3⟩ := E.var j d (by rw [List.getElem?_set_ne (Ne.symm q)]; exact e)
      refine ⟨v, h1, fun z => (h2 z).av fun b z => .inl (less b z), fun b z => ?_⟩
      obtain ⟨r1, r2⟩ := h3 b z
      refine ⟨r1, ?_⟩
      cases d with
      | lst xs => obtain ⟨vs, q1, q2⟩ := r2; exact ⟨vs, q1, q2.av fun b z => .inl (less b z)⟩
      | obj c ks xs => obtain ⟨dx, vs, q1, q0, q2⟩ := r2; exact ⟨dx, vs, q1, q0, q2.av fun b z => .inl (less b z)⟩
      | dct ks xs => obtain ⟨vs, q1, q0, q2⟩ := r2; exact ⟨vs, q1, q0, q2.av fun b z => .inl (less b z)⟩
      | _ => exact r2
theorem ovl_same {a : Addr} {bs : List Addr} {rows : List (List D)} (M : Mx H a bs rows) (k : Same H H') : ovl H0 H' (a :: bs) = ovl H0 H (a :: bs) := by
  funext x
  by_cases h : x ∈ a :: bs
  · rw [ovl_in h, ovl_in h]
    obtain ⟨vs, q⟩ := M.there h
    rw [q, k _ _ q]
  · rw [ovl_out h, ovl_out h]
theorem MR.mono (R : MR G ow i H0 av A σ H δ) (k : Same H H') : MR G ow i H0 av A σ H' δ := by
  obtain ⟨a, bs, rows, hd, M, h0, E⟩ := R.ex
  exact ⟨R.ni, R.nn, R.avd, a, bs, rows, hd, M.mono k, h0, by rw [ovl_same M k]; exact E.mono k⟩
/-- a name takes a scalar -/
theorem MR.set {k : Nat} {d : D} (R : MR G ow i H0 av A σ H δ) (hs : scalar d = true) (hk : k ≠ i) (hw : ∀ j, j ∈ owN ↔ j ∈ ow ∧ j ≠ k) (hn : G.2 k = none) : MR G owN i H0 av (fun j => if j = k then none else A j) (σ.set k (some (val d))) H (δ.set k (some d)) := by
  obtain ⟨a, bs, rows, hd, M, h0, E⟩ := R.ex
  refine ⟨fun z => R.ni ((hw i).mp z).1, R.nn.set hk, R.avd, a, bs, rows, by rw [List.getElem?_set_ne hk]; exact hd, M, h0, ?_⟩
  rw [List.set_comm _ _ hk]
  exact E.set (.of_val hs) hw (by rw [keep_ne hk]; exact hn)
/-- what it holds turns -/
theorem MR.turn {a : Addr} {bs : List Addr} {rows rows' : List (List D)} (ni : i ∉ ow) (nn : PinOk G i σ) (havd : ∀ x, av x → H0 x ≠ none) (hd : δ[i]? = some (some (mat rows))) (M : Mx H a bs rows) (h0 : ∀ x ∈ a :: bs, H0 x = none) (E : ER (G.keep i (.ref a)) ow (ovl H0 H (a :: bs)) (avF av (a :: bs)) A σ H (δ.set i none))
    (M' : Mx H' a bs rows') (hk : ∀ x, x ∉ a :: bs → H' x = H x) : MR G ow i H0 av A σ H' (δ.set i (some (mat rows'))) := by
  have hil : i < δ.length := (List.getElem?_eq_some_iff.mp hd).1
  have nF : ∀ j x, A j = some x → x ∉ a :: bs := fun j x e z => by
    have := E.fr j x e
    rw [ovl_in z] at this
    obtain ⟨vs, q⟩ := M.there z
    rw [q] at this; cases this
  refine ⟨ni, nn, havd, a, bs, rows', List.getElem?_set_self hil, M', h0, ?_⟩
  have e1 : (δ.set i (some (mat rows'))).set i none = δ.set i none := List.set_set ..
  rw [e1]
  refine ⟨fun b o e => ?_, fun x z => ?_, fun j x e => ?_, E.inj, fun j x e => ?_, E.dom, E.dom', E.len, E.pin, E.kept, fun j d e => ?_⟩
  · by_cases h : b ∈ a :: bs
    · rw [ovl_in h] at e; exact e
    · rw [ovl_out h] at e
      rw [hk b h]
      exact E.same b o (by rw [ovl_out h]; exact e)
  · by_cases h : x ∈ a :: bs
    · rw [ovl_in h]
      obtain ⟨vs, q⟩ := M'.there h
      rw [q]; exact fun z => by cases z
    · rw [ovl_out h]
      exact havd x (z.resolve_right h)
  · have := E.fr j x e
    rw [ovl_out (nF j x e)] at this ⊢
    exact this
  · rw [hk x (nF j x e)]
    exact E.live j x e
  · have ex : ∀ b o, ¬ AV (avF av (a :: bs)) A b → H b = some o → H' b = some o := fun b o n e => by
      rw [hk b fun z => n (.inl (.inr z))]; exact e
    obtain ⟨v, h1, h2, h3⟩ := E.var j d e
    refine ⟨v, h1, fun z => (h2 z).ext ex, fun b z => ?_⟩
    obtain ⟨r1, r2⟩ := h3 b z
    refine ⟨r1, ?_⟩
    cases d with
    | lst xs => obtain ⟨vs, q1, q2⟩ := r2; exact ⟨vs, by rw [hk b (nF j b z)]; exact q1, q2.ext ex⟩
    | obj c ks xs => obtain ⟨dx, vs, q1, q0, q2⟩ := r2; exact ⟨dx, vs, by rw [hk b (nF j b z)]; exact q1, q0, q2.ext ex⟩
    | dct ks xs => obtain ⟨vs, q1, q0, q2⟩ := r2; exact ⟨vs, by rw [hk b (nF j b z)]; exact q1, q0, q2.ext ex⟩
    | _ => exact r2
end
end DL

namespace DL
open PySem PySem.Spec L2
def WantsM (G : Cn) (owN owB owC : List Nat) (i : Nat) (H0 : Hp) (av : Addr → Prop) (De : Ends) : Out → Prop
  | .nx δ' => ∀ A' σ' H', MR G owN i H0 av A' σ' H' δ' → De.nx σ' H'
  | .rt d => ∀ v H', Same H0 H' → Rep G.1 av H' d v → De.rt v H'
  | .bk δ' => ∀ A' σ' H', MR G owB i H0 av A' σ' H' δ' → De.bk σ' H'
  | .ct δ' => ∀ A' σ' H', MR G owC i H0 av A' σ' H' δ' → De.ct σ' H'
def VM (G : Cn) (ow owN owB owC : List Nat) (i : Nat) (ts : TS) (φ : Env → Option Out) : Prop :=
  ∀ H0 av A σ H δ, MR G ow i H0 av A σ H δ → ∀ o, φ δ = some o → ∀ De : Ends, WantsM G owN owB owC i H0 av De o → ts De σ H
section
variable {cA : Kn} {G : Cn} {ow owN owB owC ow1 : List Nat} {i : Nat}
theorem vm_next : VM G ow ow owB owC i tNext sNext := fun H0 av A σ H δ R o e De k => by
  cases e
  exact k A σ H R
theorem vm_seq {t u : TS} {φ ψ : Env → Option Out} (h1 : VM G ow ow1 owB owC i t φ) (h2 : VM G ow1 owN owB owC i u ψ) : VM G ow owN owB owC i (tSeq t u) (sSeq φ ψ) := fun H0 av A σ H δ R o e De k => by
  unfold sSeq at e
  cases he : φ δ with
  | none => rw [he] at e; cases e
  | some o1 =>
    rw [he] at e
    refine h1 H0 av A σ H δ R o1 he _ ?_
    cases o1 with
    | nx δ' => exact fun A' σ' H' R' => h2 H0 av A' σ' H' δ' R' o e De k
    | rt d => cases e; exact k
    | bk δ' => cases e; exact k
    | ct δ' => cases e; exact k
theorem vm_if {c : TT} {t u : TS} {τ : Env → Option Bool} {φ ψ : Env → Option Out} (hc : VT G ow c τ) (h1 : VM G ow owN owB owC i t φ) (h2 : VM G ow owN owB owC i u ψ) : VM G ow owN owB owC i (tIfS c t u) (sIf τ φ ψ) := fun H0 av A σ H δ R o e De k => by
  unfold sIf at e
  cases he : τ δ with
  | none => rw [he] at e; cases e
  | some b =>
    rw [he] at e
    refine hc H0 av A σ H δ R.view b he _ fun H' s => ?_
    cases b with
    | true => exact iteT (h1 H0 av A σ H' δ (R.mono s) o e De k)
    | false => exact iteF (h2 H0 av A σ H' δ (R.mono s) o e De k)
theorem vm_ret {te : TE} {q : Ql} {ε : Env → Option D} (h : VE G ow te q ε) : VM G ow owN owB owC i (tRet te) (sRet ε) := fun H0 av A σ H δ R o e De k => by
  unfold sRet at e
  cases he : ε δ with
  | none => rw [he] at e; cases e
  | some d =>
    rw [he] at e
    cases e
    exact h H0 av A σ H δ R.view d he _ fun v H' s r => k v H' (R.view.same.trans s) r.any
theorem vm_asg {te : TE} {q : Ql} {ε : Env → Option D} (k' : Nat) (hk : k' ≠ i) (h : VE G ow te q ε) (hn : G.2 k' = none) (h1 : sub owN ow = true) (h2 : owN.contains k' = false) (h3 : sub ow (k' :: owN) = true) : VM G ow owN owB owC i (tAsg te (gName k')) (sAsg k' (eScal ε)) := fun H0 av A σ H δ R o e De k => by
  unfold sAsg at e
  cases he : eScal ε δ with
  | none => rw [he] at e; cases e
  | some d =>
    rw [he] at e
    cases e
    have hs : scalar d = true := by
      unfold eScal at he
      cases hx : ε δ with
      | none => rw [hx] at he; cases he
      | some d' =>
        rw [hx] at he
        by_cases hs : scalar d' = true
        · have e' : d' = d := by simpa [hs] using he
          rw [← e']; exact hs
        · simp [hs] at he
    refine h.scal H0 av A σ H δ R.view d he _ fun v H' s r => ?_
    have ev : v = val d := (RepT.r r).val hs
    subst ev
    exact k _ _ H' ((R.mono s).set hs hk (mem_minus h1 h2 h3) hn)
/-! ### loops -/
def VIr (G : Cn) (ow : List Nat) (wi : TI) (ι : Env → Option (List D)) : Prop :=
  ∀ H0 av A σ H δ, ER G ow H0 av A σ H δ → ∀ xs, ι δ = some xs → ∀ R : It → Hp → Prop, (∀ J H1, Same H H1 → WalkD G.1 (fun _ => True) J xs (fun _ => none) → (∀ x ∈ xs, scalar x = true) → R J H1) → wi σ H R
theorem rngI_sc {lo c : Int} {n : Nat} : ∀ x ∈ rngI lo c n, scalar x = true := fun x hx => by
  obtain ⟨k, _, rfl⟩ := List.mem_map.mp hx
  rfl
theorem vir_rng1 {ta : TA} {q : Ql} {a : Env → Option (List D)} (h : VA G ow ta q a) (hl : ∀ δ ds, a δ = some ds → ds.length = 1) : VIr G ow (iRng1 ta) (iotaR a) := fun H0 av A σ H δ E xs e R k => by
  unfold iotaR at e
  cases he : a δ with
  | none => rw [he] at e; cases e
  | some ds =>
    rw [he] at e
    refine h H0 av A σ H δ E ds he _ fun vs H1 s r => ?_
    have hln := hl δ ds he
    split at e
    · rename_i j he2
      cases he2
      by_cases hz : -(2 ^ 62) ≤ j ∧ j < 2 ^ 62
      · rw [if_pos hz] at e
        cases e
        exact ⟨j, ql1 r, hz.1, hz.2, k _ H1 s walkD_rng rngI_sc⟩
      · rw [if_neg hz] at e; cases e
    · rename_i he2; cases he2; simp at hln
    · rename_i he2; cases he2; simp at hln
    · cases e
theorem vir_rng2 {ta : TA} {q : Ql} {a : Env → Option (List D)} (h : VA G ow ta q a) (hl : ∀ δ ds, a δ = some ds → ds.length = 2) : VIr G ow (iRng2 ta) (iotaR a) := fun H0 av A σ H δ E xs e R k => by
  unfold iotaR at e
  cases he : a δ with
  | none => rw [he] at e; cases e
  | some ds =>
    rw [he] at e
    refine h H0 av A σ H δ E ds he _ fun vs H1 s r => ?_
    have hln := hl δ ds he
    split at e
    · rename_i he2; cases he2; simp at hln
    · rename_i i j he2
      cases he2
      by_cases hz : -(2 ^ 62) ≤ i ∧ i < 2 ^ 62 ∧ -(2 ^ 62) ≤ j ∧ j < 2 ^ 62
      · rw [if_pos hz] at e
        cases e
        exact ⟨i, j, ql2 r, hz, k _ H1 s walkD_rng rngI_sc⟩
      · rw [if_neg hz] at e; cases e
    · rename_i he2; cases he2; simp at hln
    · cases e
theorem vm_for {wi : TI} {tb : TS} {ι : Env → Option (List D)} {φ : Env → Option Out} (k' : Nat) (hk : k' ≠ i) (hko : ow.contains k' = false) (hn : G.2 k' = none) (hi : VIr G ow wi ι) (hb : VM G ow ow ow ow i tb φ) : VM G ow ow owB owC i (tFor wi (gName k') tb) (sFor ι (gSet k') φ) := fun H0 av A σ H δ R o e De k => by
  unfold sFor at e
  cases he : ι δ with
  | none => rw [he] at e; cases e
  | some xs =>
    rw [he] at e
    have e : forD (gSet k') φ xs δ = some o := e
    refine hi H0 av A σ H δ R.view xs he _ fun J H1 s1 W hsc => ?_
    refine ⟨fun j m σ' H' => m = xs.length - j ∧ j ≤ xs.length ∧ ∃ A' δ', MR G ow i H0 av A' σ' H' δ' ∧ forD (gSet k') φ (xs.drop j) δ' = some o, ⟨xs.length, by simp, Nat.zero_le _, A, δ, R.mono s1, e⟩, ?_⟩
    rintro j m σ' H' ⟨rfl, hle, A', δ', R', e'⟩
    obtain ⟨w1, w2, w3⟩ := W H' (fun b o z => by cases z)
    by_cases hlt : j < xs.length
    · refine .inr ⟨w1 j hlt, fun σ2 H2 => ∃ A2 δ2, MR G ow i H0 av A2 σ2 H2 δ2 ∧ forD (gSet k') φ (xs.drop (j + 1)) δ2 = some o, fun σ2 H2 ⟨A2, δ2, E2, e2⟩ => ⟨xs.length - (j + 1), by omega, rfl, hlt, A2, δ2, E2, e2⟩, fun v H2 y => ?_⟩
      have hx : xs[j]? = some xs[j] := List.getElem?_eq_getElem hlt
      obtain ⟨s2, rep⟩ := w2 j _ v H2 hx y
      have hs := hsc xs[j] (List.getElem_mem hlt)
      have ev : v = val xs[j] := (rep (fun _ => False) (fun _ z => z.elim) (fun _ z => z.elim)).val hs
      subst ev
      rw [List.drop_eq_getElem_cons hlt] at e'
      unfold forD at e'
      have e' : (match φ (δ'.set k' (some xs[j])) with
        | none => none
        | some (.nx δ2) => forD (gSet k') φ (xs.drop (j + 1)) δ2
        | some (.ct δ2) => forD (gSet k') φ (xs.drop (j + 1)) δ2
        | some (.bk δ2) => some (.nx δ2)
        | some (.rt d) => some (.rt d)) = some o := e'
      have R2 := (R'.mono s2).set (owN := ow) hs hk (fun j => by
        have : k' ∉ ow := by simpa using hko
        exact ⟨fun h => ⟨h, fun z => this (z ▸ h)⟩, fun h => h.1⟩) hn
      cases hφ : φ (δ'.set k' (some xs[j])) with
      | none => rw [hφ] at e'; cases e'
      | some o1 =>
        rw [hφ] at e'
        refine hb _ av _ _ H2 _ R2 o1 hφ _ ?_
        cases o1 with
        | nx δ2 => exact fun A4 σ4 H4 E4 => ⟨A4, δ2, E4, e'⟩
        | ct δ2 => exact fun A4 σ4 H4 E4 => ⟨A4, δ2, E4, e'⟩
        | bk δ2 => cases e'; exact fun A4 σ4 H4 E4 => k A4 σ4 H4 E4
        | rt d => cases e'; exact k
    · have ei : j = xs.length := by omega
      subst ei
      rw [List.drop_length] at e'
      cases e'
      exact .inl ⟨w3 _ (Nat.le_refl _), k A' σ' H' R'⟩
/-! ### what does not touch it -/
def sHide (i : Nat) (φ : Env → Option Out) (δ : Env) : Option Out := match φ (δ.set i none) with
  | some (.nx δ') => match δ'[i]? with
    | some none => some (.nx (δ'.set i ((δ[i]?).getD none)))
    | _ => none
  | some (.rt d) => some (.rt d)
  | _ => none
theorem vm_hide {t : TS} {φ : Env → Option Out} (h : ∀ v, VS (G.keep i v) ow owN [] [] t φ) (ho : owN.contains i = false) : VM G ow owN owB owC i t (sHide i φ) := fun H0 av A σ H δ R o e De k => by
  obtain ⟨a, bs, rows, hd, M, h0, E⟩ := R.ex
  unfold sHide at e
  cases hp : φ (δ.set i none) with
  | none => rw [hp] at e; cases e
  | some o1 =>
    rw [hp] at e
    refine h (.ref a) _ _ A σ H _ E o1 hp De ?_
    cases o1 with
    | nx δ1 =>
      dsimp only at e
      intro A' σ' H' E'
      have hs : Same (ovl H0 H (a :: bs)) H' := E'.same
      have hF : ∀ x ∈ a :: bs, H' x = H x := fun x hx => by
        obtain ⟨vs, q⟩ := M.there hx
        rw [q]
        exact hs x _ (by rw [ovl_in hx]; exact q)
      cases hi : δ1[i]? with
      | none => rw [hi] at e; cases e
      | some z =>
        rw [hi] at e
        cases z with
        | some y => cases e
        | none =>
          dsimp only at e
          rw [hd] at e
          have e : some (Out.nx (δ1.set i (some (mat rows)))) = some o := e
          cases e
          have hil : i < δ1.length := (List.getElem?_eq_some_iff.mp hi).1
          have M' : Mx H' a bs rows := ⟨(hF a List.mem_cons_self).trans M.top, M.len, M.nd, M.na, fun k b r h1 h2 => (hF b (List.mem_cons_of_mem _ (List.mem_of_getElem? h1))).trans (M.row k b r h1 h2), M.sc⟩
          have eo : ovl H0 H' (a :: bs) = ovl H0 H (a :: bs) := by
            funext x
            by_cases hx : x ∈ a :: bs
            · rw [ovl_in hx, ovl_in hx, hF x hx]
            · rw [ovl_out hx, ovl_out hx]
          have es : (δ1.set i (some (mat rows))).set i none = δ1 := by
            rw [List.set_set]
            apply List.ext_getElem?
            intro j
            by_cases hj : j = i
            · subst hj
              rw [List.getElem?_set_self hil, hi]
            · rw [List.getElem?_set_ne (Ne.symm hj)]
          exact k A' σ' H' ⟨by simpa using ho, (fun z e => by
            obtain ⟨v, h1, h2⟩ := R.nn z e
            have h3 := E.kept i _ keep_eq
            rw [h2] at h3
            cases h3
            exact ⟨_, h1, E'.kept i _ keep_eq⟩), R.avd, a, bs, rows, List.getElem?_set_self hil, M', h0, by rw [eo, es]; exact E'⟩
    | rt d =>
      cases e
      intro v H' s r
      refine k v H' (fun b o q => s b o ?_) (r.av fun b z => .inl (.inl z))
      have nb : b ∉ a :: bs := fun z => by rw [h0 b z] at q; cases q
      rw [ovl_out nb]
      exact q
    | bk δ1 => cases e
    | ct δ1 => cases e
end
end DL

namespace DL
open PySem PySem.Spec L2
theorem atI_ixN {α : Type} {xs : List α} {n : Int} {j : Nat} {x : α} (h : ixN xs.length n = some j) (hx : xs[j]? = some x) : atI xs n = some x := by
  unfold atI
  rw [h]
  exact hx
section
variable {H : Hp} {a b : Addr} {bs : List Addr} {rows : List (List D)} {j : Nat} {r r' : List D}
theorem Mx.put (M : Mx H a bs rows) (hb : bs[j]? = some b) (hr : rows[j]? = some r) (hs : r'.all scalar = true) : Mx (upd H b (.lst (r'.map val))) a bs (rows.set j r') := by
  have hbm : b ∈ bs := List.mem_of_getElem? hb
  have hab : a ≠ b := fun z => M.na (z ▸ hbm)
  have hjl : j < rows.length := (List.getElem?_eq_some_iff.mp hr).1
  refine ⟨by rw [upd_ne hab]; exact M.top, by rw [List.length_set]; exact M.len, M.nd, M.na, fun k b' r1 h1 h2 => ?_, fun r1 h1 => ?_⟩
  · by_cases hk : k = j
    · subst hk
      rw [hb] at h1
      cases h1
      rw [List.getElem?_set_self hjl] at h2
      cases h2
      exact upd_same
    · rw [List.getElem?_set_ne (Ne.symm hk)] at h2
      have : b' ≠ b := fun z => hk (by
        subst z
        obtain ⟨p1, k1⟩ := (List.getElem?_eq_some_iff.mp h1)
        obtain ⟨p2, k2⟩ := (List.getElem?_eq_some_iff.mp hb)
        rcases Nat.lt_trichotomy k j with h | h | h
        · exact absurd (k1.trans k2.symm) (List.pairwise_iff_getElem.mp M.nd k j p1 p2 h)
        · exact h
        · exact absurd (k2.trans k1.symm) (List.pairwise_iff_getElem.mp M.nd j k p2 p1 h))
      rw [upd_ne this]
      exact M.row k b' r1 h1 h2
  · rcases List.mem_or_eq_of_mem_set h1 with h1 | rfl
    · exact M.sc r1 h1
    · exact hs
theorem map_set_lst : (rows.map D.lst).set j (.lst r') = (rows.set j r').map D.lst := by rw [List.map_set]
theorem get_mat {d : D} (h : (rows.map D.lst)[j]? = some d) : ∃ r, rows[j]? = some r ∧ d = .lst r := by
  rw [List.getElem?_map] at h
  cases hr : rows[j]? with
  | none => rw [hr] at h; cases h
  | some r => rw [hr] at h; cases h; exact ⟨r, rfl, rfl⟩
theorem Mx.at (M : Mx H a bs rows) (hr : rows[j]? = some r) : ∃ b, bs[j]? = some b ∧ H b = some (.lst (r.map val)) := by
  have hjl : j < bs.length := by rw [M.len]; exact (List.getElem?_eq_some_iff.mp hr).1
  exact ⟨bs[j], List.getElem?_eq_getElem hjl, M.row j _ r (List.getElem?_eq_getElem hjl) hr⟩
end
section
variable {cA : Kn} {G : Cn} {ow owN owB owC ow1 : List Nat} {i : Nat}
theorem scal_of {ε : Env → Option D} {δ : Env} {d : D} (h : eScal ε δ = some d) : scalar d = true := by
  unfold eScal at h
  cases hx : ε δ with
  | none => rw [hx] at h; cases h
  | some d' =>
    rw [hx] at h
    by_cases hs : scalar d' = true
    · have e' : d' = d := by simpa [hs] using h
      rw [← e']; exact hs
    · simp [hs] at h
theorem set_all {r : List D} {l : Nat} {d : D} (h : r.all scalar = true) (hd : scalar d = true) : (r.set l d).all scalar = true := by
  rw [List.all_eq_true] at h ⊢
  intro x hx
  rcases List.mem_or_eq_of_mem_set hx with hx | rfl
  · exact h x hx
  · exact hd
/-- xs[k][l] = e -/
def sSet2 (i : Nat) (κ1 κ2 ε : Env → Option D) (δ : Env) : Option Out := match eScal ε δ, eVar i δ, κ1 δ, κ2 δ with
  | some d, some (.lst xs), some (.int n), some (.int m) => match ixN xs.length n with
    | some j => match xs[j]? with
      | some (.lst r) => match ixN r.length m with
        | some l => some (.nx (δ.set i (some (.lst (xs.set j (.lst (r.set l d)))))))
        | none => none
      | _ => none
    | none => none
  | _, _, _, _ => none
theorem sSet2_some {κ1 κ2 ε : Env → Option D} {δ : Env} {o : Out} (h : sSet2 i κ1 κ2 ε δ = some o) : ∃ d xs n m j r l, eScal ε δ = some d ∧ eVar i δ = some (.lst xs) ∧ κ1 δ = some (.int n) ∧ κ2 δ = some (.int m) ∧ ixN xs.length n = some j ∧ xs[j]? = some (.lst r) ∧ ixN r.length m = some l ∧ o = .nx (δ.set i (some (.lst (xs.set j (.lst (r.set l d)))))) := by
  unfold sSet2 at h
  split at h
  · rename_i d xs n m h1 h2 h3 h4
    split at h
    · rename_i j hj
      split at h
      · rename_i r hr
        split at h
        · rename_i l hl
          exact ⟨d, xs, n, m, j, r, l, h1, h2, h3, h4, hj, hr, hl, (Option.some.inj h).symm⟩
        · cases h
      · cases h
    · cases h
  · cases h
theorem vm_set2 {te t1 t2 : TE} {q q1 q2 : Ql} {ε κ1 κ2 : Env → Option D} (h : VE G ow te q ε) (h1 : VE G ow t1 q1 κ1) (h2 : VE G ow t2 q2 κ2) : VM G ow ow owB owC i (tAsg te (gSub (tOp (rIxX G.1.K) (tVar i) t1) t2 rSetL)) (sSet2 i κ1 κ2 ε) := fun H0 av A σ H δ R o e De k => by
  obtain ⟨d, xs, n, m, j, r, l, e1, e2, e3, e4, e5, e6, e7, rfl⟩ := sSet2_some e
  refine h.scal H0 av A σ H δ R.view d e1 _ fun v H1 s1 r1 => ?_
  have hs := scal_of e1
  have ev : v = val d := (RepT.r r1).val hs
  subst ev
  have R1 := R.mono s1
  obtain ⟨a, bs, rows, hd, M, h0, E⟩ := R1.ex
  have ex : xs = rows.map D.lst := by
    have := eVar_some e2
    rw [hd] at this
    cases this
    rfl
  subst ex
  obtain ⟨r0, hr, er⟩ := get_mat e6
  cases er
  obtain ⟨b, hb, hH⟩ := M.at hr
  refine ⟨.ref a, E.kept i _ keep_eq, h1 H0 av A σ H1 δ R1.view _ e3 _ fun y H2 s2 r2 => ?_⟩
  have ey : y = .int n := r2.any
  subst ey
  refine .inl ⟨a, bs.map V.ref, n, .ref b, rfl, rfl, SqL.of (s2 _ _ M.top), atI_ixN (j := j) (by rw [List.length_map] at e5 ⊢; rw [M.len]; exact e5) (by rw [List.getElem?_map, hb]; rfl), ?_⟩
  have R2 := R1.mono s2
  refine h2 H0 av A σ H2 δ R2.view _ e4 _ fun z H3 s3 r3 => ?_
  have ez : z = .int m := r3.any
  subst ez
  have s23 := s2.trans s3
  have M3 := M.mono s23
  refine ⟨b, r.map val, m, l, rfl, rfl, s23 _ _ hH, by rw [List.length_map]; exact e7, k A σ _ ?_⟩
  rw [map_set_lst]
  rw [← List.map_set]
  have hrs : (r.set l d).all scalar = true := set_all (M.sc r (List.mem_of_getElem? hr)) hs
  refine MR.turn R.ni R.nn R.avd hd M3 h0 (by rw [ovl_same M s23]; exact E.mono s23) (M3.put hb hr hrs) fun x hx => upd_ne fun z => hx (z ▸ List.mem_cons_of_mem _ (List.mem_of_getElem? hb))
/-- xs[k].append(e) -/
def sApp2 (i : Nat) (κ1 ε : Env → Option D) (δ : Env) : Option Out := match eVar i δ, κ1 δ, eScal ε δ with
  | some (.lst xs), some (.int n), some d => match ixN xs.length n with
    | some j => match xs[j]? with
      | some (.lst r) => if r.length < sizeLine then some (.nx (δ.set i (some (.lst (xs.set j (.lst (r ++ [d]))))))) else none
      | _ => none
    | none => none
  | _, _, _ => none
/-- xs.append(r), r a list of the name k's own: it is so no longer -/
def sPush (i k : Nat) (δ : Env) : Option Out := match eVar i δ, eVar k δ with
  | some (.lst xs), some (.lst r) => if xs.length < sizeLine ∧ r.all scalar = true then some (.nx ((δ.set k none).set i (some (.lst (xs ++ [.lst r]))))) else none
  | _, _ => none
theorem vm_push (k' : Nat) (hk : k' ≠ i) (hi : ow.contains k' = true) (hn : G.2 k' = none) (h1 : sub owN ow = true) (h2 : owN.contains k' = false) (h3 : sub ow (k' :: owN) = true) : VM G ow owN owB owC i (tDrop (tBM G.1.K "list" rAppend (tVar i) (tCons (tVar k') tNil))) (sPush i k') := fun H0 av A σ H δ R o e De k => by
  obtain ⟨a, bs, rows, hd, M, h0, E⟩ := R.ex
  unfold sPush at e
  split at e
  · rename_i xs r e1 e2
    by_cases hz : xs.length < sizeLine ∧ r.all scalar = true
    · rw [if_pos hz] at e
      cases e
      have ex : xs = rows.map D.lst := by
        have := eVar_some e1
        rw [hd] at this
        cases this
        rfl
      subst ex
      have hw := mem_minus h1 h2 h3
      have hi' : k' ∈ ow := by simpa using hi
      have hil : i < δ.length := (List.getElem?_eq_some_iff.mp hd).1
      have nF : ∀ j x, A j = some x → x ∉ a :: bs := fun j x e z => by
        have := E.fr j x e
        rw [ovl_in z] at this
        obtain ⟨vs, q⟩ := M.there z
        rw [q] at this; cases this
      cases hA : A k' with
      | none => exact absurd hA (E.dom' k' hi')
      | some b =>
        have e2' : (δ.set i none)[k']? = some (some (.lst r)) := by rw [List.getElem?_set_ne (Ne.symm hk)]; exact eVar_some e2
        obtain ⟨v, g1, _, g3⟩ := E.var k' _ e2'
        obtain ⟨rfl, vs, q1, q2⟩ := g3 b hA
        have ev : vs = r.map val := q2.vals hz.2
        subst ev
        have hbF : b ∉ a :: bs := nF k' b hA
        have hba : b ≠ a := fun z => hbF (z ▸ List.mem_cons_self)
        have hbb : b ∉ bs := fun z => hbF (List.mem_cons_of_mem _ z)
        refine ⟨.ref a, E.kept i _ keep_eq, .inl ⟨rfl, _, SqL.of M.top⟩, .ref b, g1, a, bs.map V.ref, .ref b, rfl, rfl, M.top, ?_, k (fun j => if j = k' then none else A j) σ _ ?_⟩
        · have := hz.1
          rw [List.length_map] at this ⊢
          rw [M.len]
          exact this
        · have hM' : Mx (upd H a (.lst (bs.map V.ref ++ [V.ref b]))) a (bs ++ [b]) (rows ++ [r]) := by
            refine ⟨by rw [upd_same, List.map_append]; rfl, by rw [List.length_append, List.length_append, M.len]; rfl, ?_, ?_, fun n b' r' g1 g2 => ?_, fun r' hr' => ?_⟩
            · rw [List.nodup_append]
              refine ⟨M.nd, by simp, fun x hx y hy => ?_⟩
              rw [List.mem_singleton.mp hy]
              exact fun z => hbb (z ▸ hx)
            · intro z
              rcases List.mem_append.mp z with z | z
              · exact M.na z
              · exact hba (List.mem_singleton.mp z).symm
            · by_cases hn' : n < bs.length
              · rw [List.getElem?_append_left hn'] at g1
                rw [List.getElem?_append_left (by rw [← M.len]; exact hn')] at g2
                have : b' ≠ a := fun z => M.na (z ▸ List.mem_of_getElem? g1)
                rw [upd_ne this]
                exact M.row n b' r' g1 g2
              · rw [List.getElem?_append_right (by omega)] at g1
                rw [List.getElem?_append_right (by rw [← M.len]; omega), ← M.len] at g2
                have hnn : n - bs.length = 0 := by
                  by_cases z : n - bs.length = 0
                  · exact z
                  · rw [List.getElem?_eq_none (by simp; omega)] at g1; cases g1
                rw [hnn] at g1 g2
                cases g1
                cases g2
                rw [upd_ne hba]
                exact q1
            · rcases List.mem_append.mp hr' with z | z
              · exact M.sc r' z
              · rw [List.mem_singleton.mp z]; exact hz.2
          have h0b : H0 b = none := by
            have := E.fr k' b hA
            rw [ovl_out hbF] at this
            exact this
          have hF' : ∀ x, x ∈ a :: (bs ++ [b]) ↔ x ∈ a :: bs ∨ x = b := fun x => by simp [or_assoc]
          have em : D.lst (rows.map D.lst ++ [.lst r]) = mat (rows ++ [r]) := by unfold mat; rw [List.map_append]; rfl
          rw [em]
          have hdl : i < (δ.set k' none).length := by rw [List.length_set]; exact hil
          refine ⟨fun z => R.ni ((hw i).mp z).1, R.nn, R.avd, a, bs ++ [b], rows ++ [r], List.getElem?_set_self hdl, hM', fun x hx => ?_, ?_⟩
          · rcases (hF' x).mp hx with z | rfl
            · exact h0 x z
            · exact h0b
          · rw [List.set_set, List.set_comm _ _ hk]
            have less : ∀ x, AV (avF av (a :: (bs ++ [b]))) (fun j => if j = k' then none else A j) x → AV (avF av (a :: bs)) A x := fun x z => by
              rcases z with (z | z) | ⟨j, z⟩
              · exact .inl (.inl z)
              · rcases (hF' x).mp z with z | rfl
                · exact .inl (.inr z)
                · exact .inr ⟨k', hA⟩
              · by_cases q : j = k'
                · simp [q] at z
                · simp [q] at z; exact .inr ⟨j, z⟩
            have hkp : ∀ x o, ¬ AV (avF av (a :: bs)) A x → H x = some o → upd H a (.lst (bs.map V.ref ++ [V.ref b])) x = some o := fun x o n e => by
              rw [upd_ne fun (z : x = a) => n (.inl (.inr (by rw [z]; exact List.mem_cons_self)))]; exact e
            have oj : ∀ j x, j ≠ k' → A j = some x → x ≠ b := fun j x hj e z => hj (E.inj j k' b (z ▸ e) hA)
            refine ⟨fun x o e => ?_, fun x z => ?_, fun j x e => ?_, fun j l x e1 e2 => ?_, fun j x e => ?_, fun j e => ?_, fun j hj => ?_, by rw [List.length_set]; exact E.len, fun j x e => ?_, E.kept, fun j d e => ?_⟩
            · by_cases hx : x ∈ a :: (bs ++ [b])
              · rw [ovl_in hx] at e; exact e
              · rw [ovl_out hx] at e
                have hx2 : x ∉ a :: bs := fun z => hx ((hF' x).mpr (.inl z))
                rw [upd_ne fun (z : x = a) => hx2 (by rw [z]; exact List.mem_cons_self)]
                exact E.same x o (by rw [ovl_out hx2]; exact e)
            · by_cases hx : x ∈ a :: (bs ++ [b])
              · rw [ovl_in hx]
                obtain ⟨vs, q⟩ := hM'.there hx
                rw [q]; exact fun z => by cases z
              · rw [ovl_out hx]
                exact R.avd x (z.resolve_right hx)
            · by_cases q : j = k'
              · simp [q] at e
              · simp [q] at e
                have nx : x ∉ a :: (bs ++ [b]) := fun z => ((hF' x).mp z).elim (nF j x e) (oj j x q e)
                rw [ovl_out nx]
                have := E.fr j x e
                rw [ovl_out (nF j x e)] at this
                exact this
            · by_cases q : j = k'
              · simp [q] at e1
              · by_cases q2 : l = k'
                · simp [q2] at e2
                · simp [q] at e1; simp [q2] at e2; exact E.inj j l x e1 e2
            · by_cases q : j = k'
              · simp [q] at e
              · simp [q] at e
                rw [upd_ne fun (z : x = a) => nF j x e (by rw [z]; exact List.mem_cons_self)]
                exact E.live j x e
            · by_cases q : j = k'
              · simp [q] at e
              · simp [q] at e; exact (hw j).mpr ⟨E.dom j e, q⟩
            · obtain ⟨g1, g2⟩ := (hw j).mp hj
              simp [g2]
              exact E.dom' j g1
            · have q : j ≠ k' := fun z => by
                rw [z] at e
                rw [keep_ne hk, hn] at e
                cases e
              simp only [q, if_false]
              exact E.pin j x e
            · have q : j ≠ k' := fun z => by
                rw [z] at e
                by_cases hl : k' < (δ.set i none).length
                · rw [List.getElem?_set_self hl] at e; cases e
                · rw [List.getElem?_eq_none (by rw [List.length_set]; omega)] at e; cases e
              obtain ⟨v, p1, p2, p3⟩ := E.var j d (by rw [List.getElem?_set_ne (Ne.symm q)] at e; exact e)
              refine ⟨v, p1, fun z => ?_, fun x z => ?_⟩
              · simp [q] at z
                exact ((p2 z).ext hkp).av fun y z => .inl (less y z)
              · simp [q] at z
                obtain ⟨r1, r2⟩ := p3 x z
                have xa : x ≠ a := fun w => nF j x z (w ▸ List.mem_cons_self)
                refine ⟨r1, ?_⟩
                cases d with
                | lst xs => obtain ⟨vs, q1, q2⟩ := r2; exact ⟨vs, by rw [upd_ne xa]; exact q1, (q2.ext hkp).av fun y z => .inl (less y z)⟩
                | obj c ks xs => obtain ⟨dx, vs, q1, q0, q2⟩ := r2; exact ⟨dx, vs, by rw [upd_ne xa]; exact q1, q0, (q2.ext hkp).av fun y z => .inl (less y z)⟩
                | dct ks xs => obtain ⟨vs, q1, q0, q2⟩ := r2; exact ⟨vs, by rw [upd_ne xa]; exact q1, q0, (q2.ext hkp).av fun y z => .inl (less y z)⟩
                | _ => exact r2
    · rw [if_neg hz] at e; cases e
  · cases e
end
end DL

namespace DL
open PySem PySem.Spec L2
/-- a new list of new lists -/
def VFM (G : Cn) (ow : List Nat) (te : TE) (ε : Env → Option D) : Prop :=
  ∀ H0 av A σ H δ, ER G ow H0 av A σ H δ → ∀ d, ε δ = some d → ∀ Q : VK, (∀ a bs rows H', Same H H' → (∀ x ∈ a :: bs, H x = none) → Mx H' a bs rows → d = mat rows → Q (.ref a) H') → te σ H Q
def sMat (i : Nat) (ε : Env → Option D) (δ : Env) : Option Out := match ε δ with
  | some d => if i < δ.length then some (.nx (δ.set i (some d))) else none
  | none => none
section
variable {cA : Kn} {G : Cn} {ow owN owB owC ow1 : List Nat} {i : Nat}
theorem mr_begin {H0 H H' : Hp} {av : Addr → Prop} {A : Nat → Option Addr} {σ : L2.St} {δ : Env} {a : Addr} {bs : List Addr} {rows : List (List D)} (E : ER G ow H0 av A σ H δ) (hi : i ∉ ow) (hn : G.2 i = none) (hil : i < δ.length) (s : Same H H') (hf : ∀ x ∈ a :: bs, H x = none) (M : Mx H' a bs rows) :
    MR G ow i H0 av A (σ.set i (some (.ref a))) H' (δ.set i (some (mat rows))) := by
  have h0 : ∀ x ∈ a :: bs, H0 x = none := fun x hx => E.same.free (hf x hx)
  have nF : ∀ j x, A j = some x → x ∉ a :: bs := fun j x e z => E.live j x e (hf x z)
  have E' := E.mono s
  refine ⟨hi, .none hn, E.avd, a, bs, rows, List.getElem?_set_self hil, M, h0, ?_⟩
  rw [List.set_set]
  refine ⟨fun b o e => ?_, fun x z => ?_, fun j x e => ?_, E.inj, E'.live, E.dom, E.dom', by rw [List.length_set, List.length_set]; exact E.len, fun j x e => ?_, fun j v e => ?_, fun j d e => ?_⟩
  · by_cases hx : b ∈ a :: bs
    · rw [ovl_in hx] at e; exact e
    · rw [ovl_out hx] at e; exact E'.same b o e
  · by_cases hx : x ∈ a :: bs
    · rw [ovl_in hx]
      obtain ⟨vs, q⟩ := M.there hx
      rw [q]; exact fun z => by cases z
    · rw [ovl_out hx]
      exact E.avd x (z.resolve_right hx)
  · rw [ovl_out (nF j x e)]
    exact E.fr j x e
  · have q : j ≠ i := fun z => by rw [z, keep_eq] at e; cases e
    exact E.pin j x (by rw [keep_ne q] at e; exact e)
  · by_cases q : j = i
    · subst q
      rw [keep_eq] at e
      cases e
      exact List.getElem?_set_self (by rw [E.len]; exact hil)
    · rw [keep_ne q] at e
      rw [List.getElem?_set_ne (Ne.symm q)]
      exact E.kept j v e
  · have q : j ≠ i := fun z => by
      rw [z, List.getElem?_set_self hil] at e
      cases e
    rw [List.getElem?_set_ne (Ne.symm q)] at e
    obtain ⟨v, h1, h2, h3⟩ := E.var j d e
    have more : ∀ b, AV (avF av (a :: bs)) A b → AV av A b ∨ H b = none := fun b z => by
      rcases z with (z | z) | z
      · exact .inl (.inl z)
      · exact .inr (hf b z)
      · exact .inl (.inr z)
    refine ⟨v, by rw [List.getElem?_set_ne (Ne.symm q)]; exact h1, fun z => ((h2 z).av more).same s, fun b z => ?_⟩
    obtain ⟨r1, r2⟩ := h3 b z
    refine ⟨r1, ?_⟩
    cases d with
    | lst xs => obtain ⟨vs, q1, q2⟩ := r2; exact ⟨vs, s _ _ q1, (q2.av more).same s⟩
    | obj c ks xs => obtain ⟨dx, vs, q1, q0, q2⟩ := r2; exact ⟨dx, vs, s _ _ q1, q0, (q2.av more).same s⟩
    | dct ks xs => obtain ⟨vs, q1, q0, q2⟩ := r2; exact ⟨vs, s _ _ q1, q0, (q2.av more).same s⟩
    | _ => exact r2
theorem WantsM.of {H0 : Hp} {av : Addr → Prop} {De : Ends} {o : Out} (k : Wants G owN owB owC H0 av De o) : WantsM G owN owB owC i H0 av De o := by
  cases o with
  | nx δ' => exact fun A' σ' H' R => k A' σ' H' R.view
  | rt d => exact k
  | bk δ' => exact fun A' σ' H' R => k A' σ' H' R.view
  | ct δ' => exact fun A' σ' H' R => k A' σ' H' R.view
/-- from here on the name i holds it -/
theorem vs_mat {te : TE} {u : TS} {ε : Env → Option D} {ψ : Env → Option Out} (i : Nat) (hi : ow.contains i = false) (hn : G.2 i = none) (h1 : VFM G ow te ε) (h2 : VM G ow owN owB owC i u ψ) : VS G ow owN owB owC (tSeq (tAsg te (gName i)) u) (sSeq (sMat i ε) ψ) := fun H0 av A σ H δ E o e De k => by
  unfold sSeq sMat at e
  cases he : ε δ with
  | none => rw [he] at e; cases e
  | some d =>
    rw [he] at e
    dsimp only at e
    by_cases hil : i < δ.length
    · rw [if_pos hil] at e
      dsimp only at e
      refine h1 H0 av A σ H δ E d he _ fun a bs rows H' s hf M hd => ?_
      subst hd
      exact h2 H0 av A _ H' _ (mr_begin E (by simpa using hi) hn hil s hf M) o e De (WantsM.of k)
    · rw [if_neg hil] at e; cases e
/-! ### defs that give such a list -/
def FW (H0 : Hp) (De : Ends) (d : D) : Prop := ∀ a bs rows H', Same H0 H' → (∀ x ∈ a :: bs, H0 x = none) → Mx H' a bs rows → d = mat rows → De.rt (.ref a) H'
def VSF (G : Cn) (ow : List Nat) (ts : TS) (φ : Env → Option Out) : Prop := ∀ H0 av A σ H δ, ER G ow H0 av A σ H δ → ∀ d, φ δ = some (.rt d) → ∀ De : Ends, FW H0 De d → ts De σ H
def VMF (G : Cn) (ow : List Nat) (i : Nat) (ts : TS) (φ : Env → Option Out) : Prop := ∀ H0 av A σ H δ, MR G ow i H0 av A σ H δ → ∀ d, φ δ = some (.rt d) → ∀ De : Ends, FW H0 De d → ts De σ H
def sSeqN (φ ψ : Env → Option Out) (δ : Env) : Option Out := match φ δ with
  | some (.nx δ') => ψ δ'
  | _ => none
def runF (N : Nat) (φ : Env → Option Out) (ds : List D) : Option D := match φ (ds.map some ++ List.replicate (N - ds.length) none) with
  | some (.rt d) => some d
  | _ => none
def spM (cA : Kn) (n : Nat) (m : List D → Option D) : Sp := fun vs H Q _ => ∃ av ds d, (∀ a, av a → H a ≠ none) ∧ RepL cA av H ds vs ∧ ds.length = n ∧ m ds = some d ∧ ∀ a bs rows H', Same H H' → (∀ x ∈ a :: bs, H x = none) → Mx H' a bs rows → d = mat rows → Q (.ref a) H'
/-! ### expressions -/
theorem vfm_nil : VFM G ow (tLst tNil) (eLst eNil) := fun H0 av A σ H δ E d e Q k => by
  refine ⟨Nat.zero_le _, fun p hp => ?_⟩
  have ed : d = mat [] := by
    have : (some (D.lst []) : Option D) = some d := e
    exact (Option.some.inj this).symm
  refine k p [] [] _ (same_upd hp) (fun x hx => ?_) ⟨upd_same, rfl, List.nodup_nil, (fun z => by cases z), (fun k b r h1 h2 => by simp at h1), (fun r h => by cases h)⟩ ed
  rw [List.mem_singleton.mp hx]
  exact hp
theorem VFM.cl {te : TE} {ε : Env → Option D} (h : VFM G ow te ε) : VE G ow te .cl ε := fun H0 av A σ H δ E d e Q k =>
  h H0 av A σ H δ E d e Q fun a bs rows H' s hf M hd => by
    subst hd
    exact k _ H' s (M.rep fun x hx z => E.avl x z (hf x hx)).t
/-- [..] * n: a new list -/
def mulF : D → D → Option D
  | .lst a, .int n => mulX (.lst a) (.int n)
  | _, _ => none
theorem vf_mul {ta tb : TE} {q : Ql} {a b : Env → Option D} (ha : VE G ow ta .cl a) (hb : VE G ow tb q b) : VF G ow (tOp (rMulZ G.1.K) ta tb) (eOp mulF a b) := fun H0 av A σ H δ E d e Q k => by
  obtain ⟨x, y, ex, ey, ed⟩ := eOp_some e
  unfold mulF at ed
  split at ed
  · rename_i xs n
    unfold mulX at ed
    dsimp only at ed
    by_cases hz : n < 2 ^ 63 ∧ -(2 ^ 63) ≤ n ∧ xs.length * n.toNat ≤ sizeLine
    · rw [if_pos hz] at ed
      cases ed
      refine ha H0 av A σ H δ E _ ex _ fun v H1 s1 r1 => hb H0 av A σ H1 δ (E.mono s1) _ ey _ fun w H2 s2 r2 => ?_
      have ew : w = .int n := r2.any
      subst ew
      obtain ⟨a1, vs1, rfl, na, rd, l1⟩ := r1
      refine .inr (.inr ⟨a1, n, vs1, rfl, rfl, s2.seq rd, hz.2.1, hz.1, by rw [← l1.length]; exact hz.2.2, fun p hp => k p _ _ H2 (s1.trans s2) hp ((l1.same s2).rep n.toNat) rfl⟩)
    · rw [if_neg hz] at ed; cases ed
  · cases ed
end
section
variable {P : Program} {w : World} {K : PySem.W.Frag} {mg : Str → Option Value} {base : Heap} {cA : Kn}
end
end DL

namespace DL
open PySem PySem.Spec L2
/-! ### a list comprehension whose items are new lists -/
def rowsOf : List D → Option (List (List D))
  | [] => some []
  | .lst r :: xs => if r.all scalar = true then (match rowsOf xs with
    | some rs => some (r :: rs)
    | none => none) else none
  | _ :: _ => none
def eMat (ε : Env → Option D) (δ : Env) : Option D := match ε δ with
  | some (.lst xs) => match rowsOf xs with
    | some _ => some (.lst xs)
    | none => none
  | _ => none
section
variable {cA : Kn} {G : Cn} {ow : List Nat}
structure RowsAt (H0 H : Hp) (bs : List Addr) (rows : List (List D)) : Prop where
  len : bs.length = rows.length
  nd : bs.Nodup
  row : ∀ (k : Nat) (b : Addr) (r : List D), bs[k]? = some b → rows[k]? = some r → H b = some (.lst (r.map val))
  fr : ∀ b ∈ bs, H0 b = none
  sc : ∀ r ∈ rows, r.all scalar = true
theorem RowsAt.snoc {H0 H H' : Hp} {bs : List Addr} {rows : List (List D)} {p : Addr} {r : List D} (R : RowsAt H0 H bs rows) (s0 : Same H0 H) (s : Same H H') (hp : H' p = none) (hs : r.all scalar = true) : RowsAt H0 (upd H' p (.lst (r.map val))) (bs ++ [p]) (rows ++ [r]) := by
  have there : ∀ b ∈ bs, H b ≠ none := fun b hb => by
    obtain ⟨k, hk, e⟩ := List.mem_iff_getElem.mp hb
    have hk2 : k < rows.length := by rw [← R.len]; exact hk
    rw [R.row k b _ (by rw [List.getElem?_eq_getElem hk, e]) (List.getElem?_eq_getElem hk2)]
    exact fun z => by cases z
  have np : ∀ b ∈ bs, b ≠ p := fun b hb z => there b hb (by rw [z]; exact s.free hp)
  refine ⟨by rw [List.length_append, List.length_append, R.len]; rfl, ?_, fun n b' r' g1 g2 => ?_, fun b hb => ?_, fun r' hr' => ?_⟩
  · rw [List.nodup_append]
    refine ⟨R.nd, by simp, fun x hx y hy => ?_⟩
    rw [List.mem_singleton.mp hy]
    exact np x hx
  · by_cases hn' : n < bs.length
    · rw [List.getElem?_append_left hn'] at g1
      rw [List.getElem?_append_left (by rw [← R.len]; exact hn')] at g2
      rw [upd_ne (np b' (List.mem_of_getElem? g1))]
      exact s _ _ (R.row n b' r' g1 g2)
    · rw [List.getElem?_append_right (by omega)] at g1
      rw [List.getElem?_append_right (by rw [← R.len]; omega), ← R.len] at g2
      have hnn : n - bs.length = 0 := by
        by_cases z : n - bs.length = 0
        · exact z
        · rw [List.getElem?_eq_none (by simp; omega)] at g1; cases g1
      rw [hnn] at g1 g2
      cases g1
      cases g2
      exact upd_same
  · rcases List.mem_append.mp hb with z | z
    · exact R.fr b z
    · rw [List.mem_singleton.mp z]
      exact s0.free (s.free hp)
  · rcases List.mem_append.mp hr' with z | z
    · exact R.sc r' z
    · rw [List.mem_singleton.mp z]; exact hs
theorem RowsAt.same {H0 H H' : Hp} {bs : List Addr} {rows : List (List D)} (R : RowsAt H0 H bs rows) (s : Same H H') : RowsAt H0 H' bs rows := ⟨R.len, R.nd, fun k b r h1 h2 => s _ _ (R.row k b r h1 h2), R.fr, R.sc⟩
end
end DL

namespace DL
open PySem PySem.Spec L2
/-! ### defs that give a new list -/
def FL (cA : Kn) (H0 : Hp) (av : Addr → Prop) (De : Ends) (d : D) : Prop := ∀ p vs xs H', Same H0 H' → H0 p = none → H' p = some (.lst vs) → RepL cA (fun x => av x ∨ x = p) H' xs vs → d = .lst xs → De.rt (.ref p) H'
def VSL (G : Cn) (ow : List Nat) (ts : TS) (φ : Env → Option Out) : Prop := ∀ H0 av A σ H δ, ER G ow H0 av A σ H δ → ∀ d, φ δ = some (.rt d) → ∀ De : Ends, FL G.1 H0 av De d → ts De σ H
def sRetL (i : Nat) (δ : Env) : Option Out := match eVar i δ with
  | some (.lst xs) => some (.rt (.lst xs))
  | _ => none
section
variable {cA : Kn} {G : Cn} {ow owN owB owC ow1 : List Nat} {i : Nat}
def spL (cA : Kn) (n : Nat) (m : List D → Option D) : Sp := fun vs H Q _ => ∃ av ds d, (∀ a, av a → H a ≠ none) ∧ RepL cA av H ds vs ∧ ds.length = n ∧ m ds = some d ∧ ∀ p vs xs H', Same H H' → H p = none → H' p = some (.lst vs) → RepL cA (fun x => av x ∨ x = p) H' xs vs → d = .lst xs → Q (.ref p) H'
open Classical in
/-! ### one name's list becomes another's -/
def sMove (i k : Nat) (δ : Env) : Option Out := match eVar k δ with
  | some d => some (.nx ((δ.set k none).set i (some d)))
  | none => none
/-! ### xs.reverse() -/
def sRev (i : Nat) (δ : Env) : Option Out := match eVar i δ with
  | some (.lst xs) => some (.nx (δ.set i (some (.lst xs.reverse))))
  | _ => none
end
section
variable {P : Program} {w : World} {K : PySem.W.Frag} {mg : Str → Option Value} {base : Heap} {cA : Kn}
end
end DL
namespace L2
open PySem PySem.Spec PySem.W PyProof.Rows
end L2

namespace DL
open PySem PySem.Spec L2
section
variable {cA : Kn} {G : Cn} {ow owN owB owC ow1 : List Nat} {i : Nat}
/-! ### while i holds a list of lists: a name takes a new list of scalars -/
theorem MR.own {H0 H : Hp} {av : Addr → Prop} {A : Nat → Option Addr} {σ : L2.St} {δ : Env} {k : Nat} {xs : List D} {p : Addr} (R : MR G ow i H0 av A σ H δ) (hs : xs.all scalar = true) (hp : H p = none) (hk : k ≠ i) (hw : ∀ j, j ∈ ow1 ↔ j ∈ ow ∨ j = k) (hn : G.2 k = none) : MR G ow1 i H0 av (fun j => if j = k then some p else A j) (σ.set k (some (.ref p))) (upd H p (.lst (xs.map val))) (δ.set k (some (.lst xs))) := by
  obtain ⟨a, bs, rows, hd, M, h0, E⟩ := R.ex
  refine ⟨fun z => ((hw i).mp z).elim R.ni fun z => hk z.symm, R.nn.set hk, R.avd, a, bs, rows, by rw [List.getElem?_set_ne hk]; exact hd, M.mono (same_upd hp), h0, ?_⟩
  rw [List.set_comm _ _ hk, ovl_same M (same_upd hp)]
  exact E.own hp (.of_vals hs) hw (by rw [keep_ne hk]; exact hn)
def eScalL (ε : Env → Option D) (δ : Env) : Option D := match ε δ with
  | some (.lst xs) => if xs.all scalar = true then some (.lst xs) else none
  | _ => none
/-! ### xs.append(r); r = a new list made of r -/
def sPushF (i k : Nat) (ε : Env → Option D) (δ : Env) : Option Out := match eVar i δ, eVar k δ with
  | some (.lst xs), some (.lst r) => if xs.length < sizeLine ∧ r.all scalar = true then (match eScalL ε (δ.set i none) with
    | some d => some (.nx (((δ.set k none).set i (some (.lst (xs ++ [.lst r])))).set k (some d)))
    | none => none) else none
  | _, _ => none
/-! ### xs[k].clear() -/
def sClr2 (i : Nat) (κ1 : Env → Option D) (δ : Env) : Option Out := match eVar i δ, κ1 δ with
  | some (.lst xs), some (.int n) => match ixN xs.length n with
    | some j => match xs[j]? with
      | some (.lst _) => some (.nx (δ.set i (some (.lst (xs.set j (.lst []))))))
      | _ => none
    | none => none
  | _, _ => none
/-! ### [r]: a new list of one new list -/
end
end DL

namespace DL
open PySem PySem.Spec L2
/-! ### dicts as data: keys and what they hold -/
def keyOf : D → Option Key
  | .int i => some (.inl i)
  | .str cs => some (.inr (tx cs))
  | _ => none
theorem keyOf_val {d : D} {k : Key} (h : keyOf d = some k) : val d = kV k ∧ scalar d = true := by
  cases d <;> first | (cases h; done) | (cases h; exact ⟨rfl, rfl⟩)
def lookK {α : Type} (k : Key) : List Key → List α → Option α
  | k0 :: ks, x :: xs => if k0 = k then some x else lookK k ks xs
  | _, _ => none
def repK {α : Type} (k : Key) (d : α) : List Key → List α → List α
  | k0 :: ks, x :: xs => (if k0 = k then d else x) :: repK k d ks xs
  | _, xs => xs
def memK (k : Key) : List Key → Bool
  | [] => false
  | k0 :: ks => decide (k0 = k) || memK k ks
def putD (ks : List Key) (xs : List D) (k : Key) (d : D) : D := if memK k ks = true then .dct ks (repK k d ks xs) else .dct (ks ++ [k]) (xs ++ [d])
theorem repK_len {α : Type} (k : Key) (d : α) : ∀ (ks : List Key) (xs : List α), (repK k d ks xs).length = xs.length
  | [], _ => rfl
  | _ :: _, [] => rfl
  | k0 :: ks, x :: xs => by rw [repK, List.length_cons, List.length_cons, repK_len k d ks xs]
theorem any_zip (k : Key) : ∀ (ks : List Key) (vs : List V), ks.length = vs.length → ((ks.zip vs).any fun kv => decide (kv.1 = k)) = memK k ks
  | [], _, _ => rfl
  | k0 :: ks, [], h => by simp at h
  | k0 :: ks, v :: vs, h => by
    rw [List.zip_cons_cons, List.any_cons, any_zip k ks vs (by simpa using h)]
    rfl
theorem some_zip (k : Key) {ks : List Key} {vs : List V} (h : ks.length = vs.length) : (valV (ks.zip vs) k).isSome = memK k ks := by rw [← valV_any, any_zip k ks vs h]
theorem map_zip (k : Key) (v : V) : ∀ (ks : List Key) (vs : List V), ks.length = vs.length → (ks.zip vs).map (fun kv => if kv.1 = k then (kv.1, v) else kv) = ks.zip (repK k v ks vs)
  | [], _, _ => by simp
  | k0 :: ks, [], h => by simp at h
  | k0 :: ks, x :: vs, h => by
    rw [List.zip_cons_cons, List.map_cons, repK, List.zip_cons_cons, map_zip k v ks vs (by simpa using h)]
    by_cases e : k0 = k
    · simp [e]
    · simp [e]
section
variable {cA : Kn} {av : Addr → Prop} {H : Hp}
theorem rep_repK (k : Key) {d : D} {v : V} (hd : Rep cA av H d v) : ∀ (ks : List Key) {xs : List D} {vs : List V}, RepL cA av H xs vs → RepL cA av H (repK k d ks xs) (repK k v ks vs)
  | [], xs, vs, l => l
  | k0 :: ks, [], vs, l => by rw [l.nil_of]; exact .nil
  | k0 :: ks, y :: xs, vs, l => by
    obtain ⟨u, r, rfl, h1, h2⟩ := l.uncons
    rw [repK, repK]
    refine .cons ?_ (rep_repK k hd ks h2)
    by_cases e : k0 = k
    · rw [if_pos e, if_pos e]; exact hd
    · rw [if_neg e, if_neg e]; exact h1
/-- the dict behind d[k] = v -/
theorem own_put (k : Key) {d : D} {v : V} {ks : List Key} {xs : List D} {vs : List V} {a : Addr} {H' : Hp} (hks : ks.length = xs.length) (l : RepL cA av H' xs vs) (hd : Rep cA av H' d v) (e : H' a = some (.dK (putK (ks.zip vs) k v))) : Own cA av H' (putD ks xs k d) a := by
  have hl : ks.length = vs.length := by rw [hks, l.length]
  unfold putK at e
  rw [any_zip k ks vs hl] at e
  unfold putD
  by_cases h : memK k ks = true
  · rw [if_pos h, map_zip k v ks vs hl] at e
    rw [if_pos h]
    exact ⟨_, e, by rw [repK_len]; exact hks, rep_repK k hd ks l⟩
  · rw [if_neg h] at e
    rw [if_neg h]
    refine ⟨vs ++ [v], ?_, by rw [List.length_append, List.length_append, hks]; rfl, l.append (.cons hd .nil)⟩
    rw [e, List.zip_append hl]
    rfl
end
section
variable {G : Cn} {ow owN owB owC ow1 : List Nat} {H0 H : Hp} {av : Addr → Prop} {A : Nat → Option Addr} {σ : L2.St} {δ : Env}
theorem er_ownD {i : Nat} {ks : List Key} {xs : List D} {vs : List V} {p : Addr} (E : ER G ow H0 av A σ H δ) (hp : H p = none) (hks : ks.length = xs.length) (l : RepL G.1 (AV av A) H xs vs) (hw : ∀ j, j ∈ ow1 ↔ j ∈ ow ∨ j = i) (hn : G.2 i = none) :
    ER G ow1 H0 av (fun j => if j = i then some p else A j) (σ.set i (some (.ref p))) (upd H p (.dK (ks.zip vs))) (δ.set i (some (.dct ks xs))) := by
  have hs : Same H (upd H p (.dK (ks.zip vs))) := same_upd hp
  have less : ∀ b, AV av (fun j => if j = i then some p else A j) b → AV av A b ∨ H b = none := fun b z => by
    rcases z with z | ⟨j, z⟩
    · exact .inl (.inl z)
    · by_cases e : j = i
      · simp [e] at z; subst z; exact .inr hp
      · simp [e] at z; exact .inl (.inr ⟨j, z⟩)
  have np : ∀ j a, A j = some a → a ≠ p := fun j a e z => by subst z; exact E.live j a e hp
  have h0 : H0 p = none := by
    cases q : H0 p with
    | none => rfl
    | some o => rw [E.same p o q] at hp; cases hp
  refine ⟨E.same.trans hs, E.avd, fun j a e => ?_, fun j k a e1 e2 => ?_, fun j a e => ?_, fun j e => ?_, fun j hj => ?_, by simp [E.len], fun j a e => (by
      have q : j ≠ i := fun z => by rw [z, hn] at e; cases e
      simp only [q, if_false]; exact E.pin j a e), (fun j v' e => by
      have q : j ≠ i := fun z => by rw [z, hn] at e; cases e
      rw [List.getElem?_set_ne (Ne.symm q)]; exact E.kept j v' e), fun j d' e => ?_⟩
  · by_cases q : j = i
    · simp [q] at e; subst e; exact h0
    · simp [q] at e; exact E.fr j a e
  · by_cases q : j = i
    · by_cases q2 : k = i
      · rw [q, q2]
      · simp [q] at e1; simp [q2] at e2
        exact absurd e1.symm (np k a e2)
    · by_cases q2 : k = i
      · simp [q] at e1; simp [q2] at e2
        exact absurd e2.symm (np j a e1)
      · simp [q] at e1; simp [q2] at e2; exact E.inj j k a e1 e2
  · by_cases q : j = i
    · simp [q] at e; subst e; rw [upd_same]; exact fun z => by cases z
    · simp [q] at e
      rw [upd_ne (np j a e)]
      exact E.live j a e
  · by_cases q : j = i
    · exact (hw j).mpr (.inr q)
    · simp [q] at e; exact (hw j).mpr (.inl (E.dom j e))
  · by_cases q : j = i
    · simp [q]
    · simp [q]
      exact E.dom' j (((hw j).mp hj).resolve_right q)
  · rcases get_set e with ⟨rfl, rfl, hl⟩ | ⟨q, e'⟩
    · refine ⟨.ref p, ?_, fun z => by simp at z, fun a z => ?_⟩
      · rw [List.getElem?_set_self (by rw [E.len]; exact hl)]
      · simp at z
        subst z
        exact ⟨rfl, vs, upd_same, hks, (l.av less).same hs⟩
    · obtain ⟨v', h1, h2, h3⟩ := E.var j d' e'
      refine ⟨v', by rw [List.getElem?_set_ne (Ne.symm q)]; exact h1, fun z => ?_, fun a z => ?_⟩
      · simp [q] at z
        exact ((h2 z).av less).same hs
      · simp [q] at z
        obtain ⟨r1, r2⟩ := h3 a z
        refine ⟨r1, ?_⟩
        cases d' with
        | lst xs => obtain ⟨vs', q1, q2⟩ := r2; exact ⟨vs', hs _ _ q1, (q2.av less).same hs⟩
        | obj c ks xs => obtain ⟨dx, vs', q1, q0, q2⟩ := r2; exact ⟨dx, vs', hs _ _ q1, q0, (q2.av less).same hs⟩
        | dct ks xs => obtain ⟨vs', q1, q0, q2⟩ := r2; exact ⟨vs', hs _ _ q1, q0, (q2.av less).same hs⟩
        | _ => exact r2
/-- a new dict -/
def VFD (G : Cn) (ow : List Nat) (te : TE) (ε : Env → Option D) : Prop :=
  ∀ H0 av A σ H δ, ER G ow H0 av A σ H δ → ∀ d, ε δ = some d → ∀ Q : VK, (∀ p ks vs xs H1, Same H H1 → H1 p = none → ks.length = xs.length → RepL G.1 (AV av A) H1 xs vs → d = .dct ks xs → Q (.ref p) (upd H1 p (.dK (ks.zip vs)))) → te σ H Q
theorem vfd_new : VFD G ow tDNewK (eC (.dct [] [])) := fun H0 av A σ H δ E d e Q k => fun p hp => by
  cases e
  exact k p [] [] [] H (Same.refl H) hp rfl .nil rfl
theorem vs_asgD {te : TE} {ε : Env → Option D} (i : Nat) (h : VFD G ow te ε) (hn : G.2 i = none) (h1 : sub owN (i :: ow) = true) (h2 : owN.contains i = true) (h3 : sub ow owN = true) : VS G ow owN owB owC (tAsg te (gName i)) (sAsg i ε) := fun H0 av A σ H δ E o e De k => by
  unfold sAsg at e
  cases he : ε δ with
  | none => rw [he] at e; cases e
  | some d =>
    rw [he] at e
    cases e
    refine h H0 av A σ H δ E d he _ fun p ks vs xs H1 s hp hk l hd => ?_
    subst hd
    exact k _ _ _ (er_ownD (E.mono s) hp hk l (mem_plus h1 h2 h3) hn)
def inK (neg : Bool) : D → D → Option D
  | x, .dct ks _ => match keyOf x with
    | some k => some (.bl (neg != memK k ks))
    | none => none
  | _, _ => none
theorem inK_some {neg : Bool} {x y d : D} (h : inK neg x y = some d) : ∃ ks xs k, y = .dct ks xs ∧ keyOf x = some k ∧ d = .bl (neg != memK k ks) := by
  unfold inK at h
  split at h
  · rename_i ks xs
    cases hk : keyOf x with
    | none => rw [hk] at h; cases h
    | some k => rw [hk] at h; exact ⟨ks, xs, k, rfl, rfl, (Option.some.inj h).symm⟩
  · cases h
theorem ve_dnotin {ta tb : TE} {qa qb : Ql} {a b : Env → Option D} (ha : VE G ow ta qa a) (hb : VE G ow tb qb b) : VE G ow (tDNotIn ta tb) .cl (eOp (inK true) a b) := fun H0 av A σ H δ E d e Q k => by
  obtain ⟨x, y, ex, ey, ed⟩ := eOp_some e
  obtain ⟨ks, xs, kk, rfl, hk, rfl⟩ := inK_some ed
  obtain ⟨hv, hs⟩ := keyOf_val hk
  refine ha H0 av A σ H δ E _ ex _ fun v H1 s1 r1 => hb H0 av A σ H1 δ (E.mono s1) _ ey _ fun w H2 s2 r2 => ?_
  have e1 : v = kV kk := (r1.any.val hs).trans hv
  obtain ⟨p, vs, rfl, _, rd, hl, l⟩ := r2.tp
  refine ⟨p, _, rfl, e1 ▸ DGet.k rd, ?_⟩
  rw [some_zip kk (hl.trans l.length)]
  have := k (.bl (true != memK kk ks)) H2 (s1.trans s2) blq
  rw [Bool.true_bne] at this
  exact this
def getK : D → D → Option D
  | .dct ks xs, x => match keyOf x with
    | some k => lookK k ks xs
    | none => none
  | _, _ => none
/-- d[k] = v, d a dict of the name i's own -/
def sPutK (i : Nat) (κ ε : Env → Option D) (δ : Env) : Option Out := match ε δ, eVar i δ, κ δ with
  | some d, some (.dct ks xs), some x => match keyOf x with
    | some k => if ks.length < sizeLine then some (.nx (δ.set i (some (putD ks xs k d)))) else none
    | none => none
  | _, _, _ => none
theorem sPutK_some {i : Nat} {κ ε : Env → Option D} {δ : Env} {o : Out} (h : sPutK i κ ε δ = some o) : ∃ d ks xs x k, ε δ = some d ∧ eVar i δ = some (.dct ks xs) ∧ κ δ = some x ∧ keyOf x = some k ∧ ks.length < sizeLine ∧ o = .nx (δ.set i (some (putD ks xs k d))) := by
  unfold sPutK at h
  split at h
  · rename_i d ks xs x h1 h2 h3
    cases hk : keyOf x with
    | none => rw [hk] at h; cases h
    | some k =>
      rw [hk] at h
      dsimp only at h
      by_cases hz : ks.length < sizeLine
      · rw [if_pos hz] at h
        exact ⟨d, ks, xs, x, k, h1, h2, h3, hk, hz, (Option.some.inj h).symm⟩
      · rw [if_neg hz] at h; cases h
  · cases h
theorem vs_dput {te ti : TE} {q : Ql} {ε κ : Env → Option D} (i : Nat) (hi : ow.contains i = true) (h : VE G ow te .cl ε) (hk : VE G ow ti q κ) : VS G ow ow owB owC (sDPut (tVar i) ti te) (sPutK i κ ε) := fun H0 av A σ H δ E o e De k => by
  obtain ⟨d, ks, xs, x, kk, e1, e2, e3, hkk, hz, rfl⟩ := sPutK_some e
  obtain ⟨hv, hs⟩ := keyOf_val hkk
  have hi' : i ∈ ow := by simpa using hi
  cases hA : A i with
  | none => exact absurd hA (E.dom' i hi')
  | some a =>
    refine h H0 av A σ H δ E d e1 _ fun v H1 s1 r1 => ?_
    have E1 := E.mono s1
    obtain ⟨u, g1, _, g3⟩ := E1.var i _ (eVar_some e2)
    refine ⟨u, g1, hk H0 av A σ H1 δ E1 _ e3 _ fun y H2 s2 r2 => ?_⟩
    have E2 := E1.mono s2
    obtain ⟨u', g1', _, g3'⟩ := E2.var i _ (eVar_some e2)
    obtain ⟨rfl, vs, q1, q0, q2⟩ := g3' a hA
    have eu : u = .ref a := (g3 a hA).1
    subst eu
    have ey : y = kV kk := (r2.any.val hs).trans hv
    subst ey
    refine ⟨a, _, rfl, DPut.k q1 ?_, k A σ _ (E2.put hA (eVar_some e2) (fun b o hb e => by rw [upd_ne hb]; exact e) (by rw [upd_same]; exact fun z => by cases z) ?_)⟩
    · have : (ks.zip vs).length = ks.length := by rw [List.length_zip, ← q2.length, q0]; omega
      rw [this]
      exact hz
    · have ex : ∀ b o, ¬ AV av A b → H2 b = some o → upd H2 a (.dK (putK (ks.zip vs) kk v)) b = some o := fun b o n e => by
        rw [upd_ne fun z => n (.inr ⟨i, by rw [z]; exact hA⟩)]
        exact e
      exact own_put kk q0 (q2.ext ex) ((RepT.r (r1.same s2)).ext ex) upd_same
end
end DL

namespace L2
open PySem
theorem units1 {X : Cx} (h : X.A.units + 64 < cLine) : X.A.units + 1 < cLine := by omega
theorem look_relabel {env : Env} : ∀ {names : List (Str × NameKind)} {x : Str}, (names.lookup x = some .cell ∨ names.lookup x = some .free) →
    (names.map fun (n, k) => if (k == NameKind.free && env.scope.kind == .function && env.kindOf n == some .cell) then (n, NameKind.cell) else (n, k)).lookup x = some .cell ∨ (names.map fun (n, k) => if (k == NameKind.free && env.scope.kind == .function && env.kindOf n == some .cell) then (n, NameKind.cell) else (n, k)).lookup x = some .free
  | [], _, h => by simp at h
  | (n, k) :: r, x, h => by
    have ih := @look_relabel env r x
    show List.lookup x ((if (k == NameKind.free && env.scope.kind == .function && env.kindOf n == some .cell) = true then (n, NameKind.cell) else (n, k)) :: _) = _ ∨ List.lookup x ((if (k == NameKind.free && env.scope.kind == .function && env.kindOf n == some .cell) = true then (n, NameKind.cell) else (n, k)) :: _) = _
    cases hx : x == n with
    | true =>
      simp only [List.lookup_cons, hx] at h
      by_cases hc : (k == NameKind.free && env.scope.kind == .function && env.kindOf n == some .cell) = true
      · rw [if_pos hc]
        exact .inl (by simp only [List.lookup_cons, hx])
      · rw [if_neg hc]
        simp only [List.lookup_cons, hx]
        exact h
    | false =>
      simp only [List.lookup_cons, hx] at h
      by_cases hc : (k == NameKind.free && env.scope.kind == .function && env.kindOf n == some .cell) = true
      · rw [if_pos hc]; simp only [List.lookup_cons, hx]; exact ih h
      · rw [if_neg hc]; simp only [List.lookup_cons, hx]; exact ih h
/-- a block within a block -/
theorem CompSc.mk5 {X0 : Cx} {scope0 scope : Scope} {N' : List Str} {C : Addr} {s₂ : Shared} {H₂ : Hp} {fp : List Addr} {tn cn : List Str} {js : List Nat} (hk : scope.kind = .function) (h : compScB scope0.names N' scope.names cn js = true) : CompSc (compX X0 scope0 N' C s₂ H₂ fp) scope tn cn js := by
  unfold compScB at h
  simp only [Bool.and_eq_true] at h
  obtain ⟨⟨⟨⟨h1, h2⟩, h3⟩, h4⟩, h5⟩ := h
  rw [List.all_eq_true] at h1 h2 h3 h4
  have hlen : cn.length = js.length := by simpa using h5
  refine ⟨hk, fun y hy => ?_, fun y hy e => ?_, fun y hy e => ?_, fun k x e => ?_, hlen⟩
  · have := h1 y hy
    simpa using this
  · have := h2 y hy
    simpa [e] using this
  · have := h3 y hy
    exact look_relabel (env := X0.env) (by simpa [e] using this)
  · have hkl : k < cn.length := (List.getElem?_eq_some_iff.mp e).1
    have hkj : k < js.length := by omega
    refine ⟨js[k], by simp [hkj], ?_⟩
    have hz : (x, js[k]) ∈ cn.zip js := by
      have e2 : (cn.zip js)[k]? = some (x, js[k]) := by
        rw [List.getElem?_zip_eq_some]
        exact ⟨e, by simp [hkj]⟩
      exact List.mem_of_getElem? e2
    have := h4 _ hz
    simp only [Bool.and_eq_true, Bool.or_eq_true, beq_iff_eq] at this
    exact ⟨this.1.1, look_relabel (env := X0.env) this.1.2, this.2⟩
end L2
namespace DL
open PySem PySem.Spec L2
/-! ### xs.extend(a new list) -/
section
variable {G : Cn} {ow owN owB owC ow1 : List Nat}
def sExt (i : Nat) (ε : Env → Option D) (δ : Env) : Option Out := match eVar i δ, ε δ with
  | some (.lst xs), some (.lst ys) => if xs.length + ys.length ≤ sizeLine then some (.nx (δ.set i (some (.lst (xs ++ ys))))) else none
  | _, _ => none
end
/-! ### a def that turns the list of lists handed to it -/
section
variable {cA : Kn} {G : Cn} {ow owN owB owC ow1 : List Nat} {i : Nat}
theorem MR.turn3 {H0 H H' : Hp} {av : Addr → Prop} {A : Nat → Option Addr} {σ : L2.St} {δ : Env} {a : Addr} {bs bs' : List Addr} {rows rows' : List (List D)} (ni : i ∉ ow) (nn : PinOk G i σ) (havd : ∀ x, av x → H0 x ≠ none) (hd : δ[i]? = some (some (mat rows))) (M : Mx H a bs rows) (h0 : ∀ x ∈ a :: bs, H0 x = none) (E : ER (G.keep i (.ref a)) ow (ovl H0 H (a :: bs)) (avF av (a :: bs)) A σ H (δ.set i none))
    (M' : Mx H' a bs' rows') (hb' : ∀ x ∈ bs', x ∈ a :: bs ∨ H x = none) (hk : ∀ x o, x ∉ a :: bs → H x = some o → H' x = some o) : MR G ow i H0 av A σ H' (δ.set i (some (mat rows'))) := by
  have hil : i < δ.length := (List.getElem?_eq_some_iff.mp hd).1
  have nF : ∀ j x, A j = some x → x ∉ a :: bs := fun j x e z => by
    have := E.fr j x e
    rw [ovl_in z] at this
    obtain ⟨vs, q⟩ := M.there z
    rw [q] at this; cases this
  have hF : ∀ x ∈ a :: bs', x ∈ a :: bs ∨ H x = none := fun x hx => by
    rcases List.mem_cons.mp hx with rfl | z
    · exact .inl List.mem_cons_self
    · exact hb' x z
  have sub0 : ∀ x o, H0 x = some o → H x = some o := fun x o e => by
    have nx : x ∉ a :: bs := fun z => by rw [h0 x z] at e; cases e
    exact E.same x o (by rw [ovl_out nx]; exact e)
  have h0' : ∀ x ∈ a :: bs', H0 x = none := fun x hx => by
    rcases hF x hx with z | z
    · exact h0 x z
    · cases q : H0 x with
      | none => rfl
      | some o => rw [sub0 x o q] at z; cases z
  have nF' : ∀ j x, A j = some x → x ∉ a :: bs' := fun j x e z => by
    rcases hF x z with z | z
    · exact nF j x e z
    · exact E.live j x e z
  refine ⟨ni, nn, havd, a, bs', rows', List.getElem?_set_self hil, M', h0', ?_⟩
  have e1 : (δ.set i (some (mat rows'))).set i none = δ.set i none := List.set_set ..
  rw [e1]
  have wide : ∀ b, AV (fun x => av x ∨ x ∈ a :: bs ∨ x ∈ a :: bs') A b → AV (avF av (a :: bs)) A b ∨ H b = none := fun b z => by
    rcases z with (z | z | z) | z
    · exact .inl (.inl (.inl z))
    · exact .inl (.inl (.inr z))
    · rcases hF b z with z | z
      · exact .inl (.inl (.inr z))
      · exact .inr z
    · exact .inl (.inr z)
  have ex : ∀ b o, ¬ AV (fun x => av x ∨ x ∈ a :: bs ∨ x ∈ a :: bs') A b → H b = some o → H' b = some o := fun b o n e => hk b o (fun z => n (.inl (.inr (.inl z)))) e
  have less : ∀ b, AV (avF av (a :: bs')) A b → AV (fun x => av x ∨ x ∈ a :: bs ∨ x ∈ a :: bs') A b := fun b z => by
    rcases z with (z | z) | z
    · exact .inl (.inl z)
    · exact .inl (.inr (.inr z))
    · exact .inr z
  refine ⟨fun b o e => ?_, fun x z => ?_, fun j x e => ?_, E.inj, fun j x e => ?_, E.dom, E.dom', E.len, E.pin, E.kept, fun j d e => ?_⟩
  · by_cases h : b ∈ a :: bs'
    · rw [ovl_in h] at e; exact e
    · rw [ovl_out h] at e
      have nb : b ∉ a :: bs := fun z => by rw [h0 b z] at e; cases e
      exact hk b o nb (sub0 b o e)
  · by_cases h : x ∈ a :: bs'
    · rw [ovl_in h]
      obtain ⟨vs, q⟩ := M'.there h
      rw [q]; exact fun z => by cases z
    · rw [ovl_out h]
      exact havd x (z.resolve_right h)
  · have := E.fr j x e
    rw [ovl_out (nF j x e)] at this
    rw [ovl_out (nF' j x e)]
    exact this
  · have := E.live j x e
    cases q : H x with
    | none => exact absurd q this
    | some o => rw [hk x o (nF j x e) q]; exact fun z => by cases z
  · obtain ⟨v, h1, h2, h3⟩ := E.var j d e
    refine ⟨v, h1, fun z => (((h2 z).av wide).ext ex).av fun b z => .inl (less b z), fun b z => ?_⟩
    obtain ⟨r1, r2⟩ := h3 b z
    refine ⟨r1, ?_⟩
    cases d with
    | lst xs => obtain ⟨vs, q1, q2⟩ := r2; exact ⟨vs, hk _ _ (nF j b z) q1, ((q2.av wide).ext ex).av fun b z => .inl (less b z)⟩
    | obj c ks xs => obtain ⟨dx, vs, q1, q0, q2⟩ := r2; exact ⟨dx, vs, hk _ _ (nF j b z) q1, q0, ((q2.av wide).ext ex).av fun b z => .inl (less b z)⟩
    | dct ks xs => obtain ⟨vs, q1, q0, q2⟩ := r2; exact ⟨vs, hk _ _ (nF j b z) q1, q0, ((q2.av wide).ext ex).av fun b z => .inl (less b z)⟩
    | _ => exact r2
def spU (cA : Kn) (n : Nat) (m : List D → Option D) : Sp := fun vs H Q _ => ∃ (av : Addr → Prop) (a : Addr) (bs : List Addr) (rows : List (List D)) (r : List V) (ds : List D) (d' : D), vs = .ref a :: r ∧ (∀ x, av x → H x ≠ none) ∧ (∀ x ∈ a :: bs, ¬ av x) ∧ Mx H a bs rows ∧ RepL cA (avF av (a :: bs)) H ds r ∧ (mat rows :: ds).length = n ∧ m (mat rows :: ds) = some d' ∧
  ∀ bs' rows' H', (∀ x o, x ∉ a :: bs → H x = some o → H' x = some o) → (∀ x ∈ bs', x ∈ a :: bs ∨ H x = none) → Mx H' a bs' rows' → d' = mat rows' → Q .non H'
def sCallU (i n : Nat) (m : List D → Option D) (α : Env → Option (List D)) (δ : Env) : Option Out := match eVar i δ, α (δ.set i none) with
  | some d, some ds => if (d :: ds).length = n then (match m (d :: ds) with
    | some d' => some (.nx (δ.set i (some d')))
    | none => none) else none
  | _, _ => none
theorem vm_callU {n : Nat} {m : List D → Option D} {t : TA} {α : Env → Option (List D)} {E0 : XK} (h : ∀ v, VA (G.keep i v) ow t .cl α) : VM G ow ow owB owC i (tDrop (tCall (spU G.1 n m) [] E0 (tCons (tVar i) t))) (sCallU i n m α) := fun H0 av A σ H δ R o e De k => by
  obtain ⟨a, bs, rows, hd, M, h0, E⟩ := R.ex
  unfold sCallU at e
  have ev : eVar i δ = some (mat rows) := by unfold eVar; rw [hd]
  rw [ev] at e
  cases he : α (δ.set i none) with
  | none => rw [he] at e; cases e
  | some ds =>
    rw [he] at e
    dsimp only at e
    by_cases hz : (mat rows :: ds).length = n
    · rw [if_pos hz] at e
      cases hm : m (mat rows :: ds) with
      | none => rw [hm] at e; cases e
      | some d' =>
        rw [hm] at e
        cases e
        refine ⟨.ref a, E.kept i _ keep_eq, h (.ref a) _ _ A σ H _ E ds he _ fun vs H1 s1 r1 => ?_⟩
        have R1 := R.mono s1
        have M1 := M.mono s1
        have E1 : ER (G.keep i (.ref a)) ow (ovl H0 H1 (a :: bs)) (avF av (a :: bs)) A σ H1 (δ.set i none) := by rw [ovl_same M s1]; exact E.mono s1
        have nF : ∀ j x, A j = some x → x ∉ a :: bs := fun j x e z => by
          have := E.fr j x e
          rw [ovl_in z] at this
          obtain ⟨vs, q⟩ := M.there z
          rw [q] at this; cases this
        refine ⟨AV av A, a, bs, rows, vs, ds, d', by simp, R1.view.avl, fun x hx z => ?_, M1, ?_, hz, hm, fun bs' rows' H' hk hb M' hd' => ?_⟩
        · rcases z with z | ⟨j, z⟩
          · exact R.avd x z (h0 x hx)
          · exact nF j x z hx
        · refine r1.cl.av fun b z => .inl ?_
          rcases z with (z | z) | z
          · exact .inl (.inl z)
          · exact .inr z
          · exact .inl (.inr z)
        · subst hd'
          exact k A σ H' (MR.turn3 R.ni R.nn R.avd hd M1 h0 E1 M' hb hk)
    · rw [if_neg hz] at e; cases e
end
section
variable {P : Program} {w : World} {K : PySem.W.Frag} {mg : Str → Option Value} {base : Heap} {cA : Kn}
open Classical in
theorem mr_start {N : List Str} {ds : List D} {r : List V} {av : Addr → Prop} {H : Hp} {a : Addr} {bs : List Addr} {rows : List (List D)} (ha : ∀ x, av x → H x ≠ none) (hn : ∀ x ∈ a :: bs, ¬ av x) (M : Mx H a bs rows) (l : RepL cA (avF av (a :: bs)) H ds r) :
    MR ⟨cA, fun j => if j = 0 then some (.inr (.ref a)) else none⟩ [] 0 (fun x => if x ∈ a :: bs then none else H x) av (fun _ => none) (L2.start N (.ref a :: r)) H ((mat rows :: ds).map some ++ List.replicate (N.length - (mat rows :: ds).length) none) := by
  have s0 : (L2.start N (.ref a :: r))[0]? = some (some (.ref a)) := by simp [L2.start]
  refine ⟨by simp, fun z e => ⟨.ref a, by simpa using e.symm, s0⟩, fun x z => ?_, a, bs, rows, by simp, M, fun x hx => if_pos hx, ?_⟩
  · rw [if_neg (fun h => hn x h z)]
    exact ha x z
  · have eo : ovl (fun x => if x ∈ a :: bs then none else H x) H (a :: bs) = H := by
      funext x
      by_cases h : x ∈ a :: bs
      · rw [ovl_in h]
      · rw [ovl_out h]; exact if_neg h
    rw [eo]
    refine ⟨Same.refl H, fun x z => ?_, fun _ _ z => (by cases z), fun _ _ _ z => (by cases z), fun _ _ z => (by cases z), fun _ z => absurd rfl z, fun _ z => (by cases z), ?_, fun j x e => ?_, fun j v e => ?_, fun j d e => ?_⟩
    · rcases z with z | z
      · exact ha x z
      · obtain ⟨vs, q⟩ := M.there z
        rw [q]; exact fun z => by cases z
    · unfold L2.start
      rw [List.length_set, List.length_append, List.length_append, List.length_map, List.length_map, List.length_replicate, List.length_replicate, List.length_cons, List.length_cons, l.length]
    · by_cases q : j = 0
      · simp [q] at e
      · simp [q] at e
    · by_cases q : j = 0
      · subst q
        simp at e
        rw [← e]
        exact s0
      · simp [q] at e
    · by_cases q : j = 0
      · subst q
        rw [List.getElem?_set_self (by simp)] at e
        cases e
      · rw [List.getElem?_set_ne (Ne.symm q)] at e
        obtain ⟨j, rfl⟩ : ∃ j', j = j' + 1 := ⟨j - 1, by omega⟩
        have e2 : (ds.map some ++ List.replicate (N.length - (ds.length + 1)) none)[j]? = some (some d) := by simpa using e
        by_cases hj : j < ds.length
        · rw [List.getElem?_append_left (by simpa using hj), List.getElem?_map] at e2
          cases hdj : ds[j]? with
          | none => rw [hdj] at e2; cases e2
          | some z =>
            rw [hdj] at e2
            cases e2
            obtain ⟨v, hv', rv⟩ := l.get hdj
            refine ⟨v, ?_, fun _ => rv.av fun b z => ?_, fun a z => by cases z⟩
            · unfold L2.start
              have : j + 1 < (V.ref a :: r).length := by rw [List.length_cons, ← l.length]; omega
              rw [List.getElem?_append_left (by simpa using this), List.getElem?_map]
              simp [hv']
            · rcases z with z | ⟨_, z⟩
              · exact .inl z
              · cases z
        · rw [List.getElem?_append_right (by simpa using hj), List.getElem?_replicate] at e2
          split at e2 <;> cases e2
theorem fn_UB {x qual : Str} {st : Stmt} {f : Addr} {fd : FuncData} {N ps : List Str} {k : Nat} {φ : Env → Option Out} {body : List Stmt} {scope : Scope} {n : Nat} {m : List D → Option D} (F : FunX K x qual st f fd) (S : FnScope N ps (defScope st)) (hS : defScope st = scope) (hB : defBody st = body)
    (hbody : ∀ (cdv : Value) (A : Around) (outer : List PySem.Env) (s : Shared) (H : Hp) (E : XK) (a : Addr), Room k (A.deeper (PyProof.Rows.envOfC qual scope s.heap.objs.size f cdv)) →
      ∃ t, PSs (cxOf CX0 P w K mg base N qual scope f cdv A outer s H E).nox body t ∧ ∃ owN, VM ⟨cA, fun j => if j = 0 then some (.inr (.ref a)) else none⟩ [] owN [] [] 0 t φ) (hm : m = runI N.length φ) (hn : ps.length = n) : FnOk P w K mg base CX0 (k + 1) f fd ps (spU cA n m) := by
  subst hS hB hm hn
  refine F.ok S (fun vs H Q E h => ?_) fun cdv A outer s H vs Q E hr h => ?_
  · obtain ⟨av, a, bs, rows, r, ds, d', rfl, _, _, _, l, hl, _⟩ := h
    rw [← hl, List.length_cons, List.length_cons, l.length]
  · obtain ⟨av, a, bs, rows, r, ds, d', rfl, ha, hna, M, l, hl, hm, q⟩ := h
    obtain ⟨t, ht, owN, hv⟩ := hbody cdv A outer s H E a hr
    refine ⟨t, ht, ?_⟩
    unfold runI at hm
    cases hφ : φ ((mat rows :: ds).map some ++ List.replicate (N.length - (mat rows :: ds).length) none) with
    | none => rw [hφ] at hm; cases hm
    | some o =>
      rw [hφ] at hm
      cases o <;> first | (cases hm; done) | skip
      rename_i δ'
      have hm : eVar 0 δ' = some d' := hm
      refine hv _ av _ _ H _ (mr_start ha hna M l) _ hφ _ fun A' σ' H' R' => ?_
      obtain ⟨a', bs', rows', hd', M', h0', E'⟩ := R'.ex
      have ea : a' = a := by
        obtain ⟨v, h1, h2⟩ := R'.nn (.inr (.ref a)) rfl
        cases h1
        have h3 := E'.kept 0 _ keep_eq
        rw [h2] at h3
        cases h3
        rfl
      subst ea
      have ed : d' = mat rows' := by
        have := eVar_some hm
        rw [hd'] at this
        cases this
        rfl
      have sv := R'.view.same
      refine q bs' rows' H' (fun x o hx e => sv x o ?_) (fun x hx => ?_) M' ed
      · show (if x ∈ a' :: bs then none else H x) = some o
        rw [if_neg hx]
        exact e
      · by_cases hxF : x ∈ a' :: bs
        · exact .inl hxF
        · have := h0' x (List.mem_cons_of_mem _ hx)
          have this : (if x ∈ a' :: bs then none else H x) = none := this
          rw [if_neg hxF] at this
          exact .inr this
end
end DL

namespace DL
open PySem PySem.Spec L2
/-! ### the functions of data, reckoned -/
theorem eqD_int (i j : Int) : eqD (.int i) (.int j) = some (.bl (decide (i = j))) := by
  show (if (scalar (.int i) && scalar (.int j) && scal (V.int i) (V.int j)) = true then some (D.bl (decide (V.int i = V.int j))) else _) = _
  rw [if_pos (by rfl)]
  simp
theorem eqD_str (a b : List Nat) : eqD (.str a) (.str b) = some (.bl (decide (a = b))) := by
  show (if (scalar (.str a) && scalar (.str b) && scal (S a) (S b)) = true then some (D.bl (decide (S a = S b))) else _) = _
  rw [if_pos (by rfl)]
  simp only [S_inj]
theorem eqD_bl' (a b : Bool) : eqD (.bl a) (.bl b) = some (.bl (decide (a = b))) := by
  show (if (scalar (.bl a) && scalar (.bl b) && scal (V.bl a) (V.bl b)) = true then some (D.bl (decide (V.bl a = V.bl b))) else _) = _
  rw [if_pos (by rfl)]
  simp
theorem eqD_nn : eqD .non .non = some (.bl true) := rfl
theorem eqD_ni (i : Int) : eqD .non (.int i) = some (.bl false) := by
  show (if (scalar .non && scalar (.int i) && scal V.non (V.int i)) = true then some (D.bl (decide (V.non = V.int i))) else _) = _
  rw [if_pos (by rfl)]
  simp
theorem eqD_in (i : Int) : eqD (.int i) .non = some (.bl false) := by
  show (if (scalar (.int i) && scalar .non && scal (V.int i) V.non) = true then some (D.bl (decide (V.int i = V.non))) else _) = _
  rw [if_pos (by rfl)]
  simp
theorem neD_int (i j : Int) : neD (.int i) (.int j) = some (.bl (!decide (i = j))) := by unfold neD; rw [eqD_int]
theorem neD_str (i j : List Nat) : neD (.str i) (.str j) = some (.bl (!decide (i = j))) := by unfold neD; rw [eqD_str]
theorem neD_nn : neD .non .non = some (.bl false) := by unfold neD; rw [eqD_nn]; rfl
theorem neD_ni (i : Int) : neD .non (.int i) = some (.bl true) := by unfold neD; rw [eqD_ni]; rfl
theorem neD_in (i : Int) : neD (.int i) .non = some (.bl true) := by unfold neD; rw [eqD_in]; rfl
theorem atI_lt {α : Type} {xs : List α} {i : Int} (h0 : 0 ≤ i) (h1 : i < xs.length) : ∃ x, atI xs i = some x ∧ xs[i.toNat]? = some x := by
  have hj : i.toNat < xs.length := by omega
  refine ⟨xs[i.toNat], ?_, by simp [hj]⟩
  have := atI_nat (xs := xs) (j := i.toNat) (v := xs[i.toNat]) (by simp [hj])
  rwa [Int.toNat_of_nonneg h0] at this
/-- a for: what holds between two turns -/
theorem forD_inv {γ : D → Env → Option Env} {φ : Env → Option Out} (I : Nat → Env → Prop) : ∀ (xs : List D) (k : Nat) (δ : Env), I k δ →
    (∀ (j : Nat) x δ, xs[j]? = some x → I (k + j) δ → ∃ δ1, γ x δ = some δ1 ∧ ∃ δ2, φ δ1 = some (.nx δ2) ∧ I (k + j + 1) δ2) → ∃ δ', forD γ φ xs δ = some (.nx δ') ∧ I (k + xs.length) δ'
  | [], k, δ, h, _ => ⟨δ, rfl, h⟩
  | x :: xs, k, δ, h, step => by
    obtain ⟨δ1, h1, δ2, h2, h3⟩ := step 0 x δ rfl h
    obtain ⟨δ', h4, h5⟩ := forD_inv I xs (k + 1) δ2 h3 fun j y δ hy hI => by
      have := step (j + 1) y δ (by simpa using hy) (by rwa [show k + (j + 1) = k + 1 + j by omega])
      rwa [show k + (j + 1) + 1 = k + 1 + j + 1 by omega] at this
    refine ⟨δ', ?_, by rwa [List.length_cons, show k + (xs.length + 1) = k + 1 + xs.length by omega]⟩
    unfold forD
    rw [h1]
    dsimp only
    rw [h2]
    exact h4
/-- a comprehension without a test -/
theorem compD_map {γ : D → Env → Option Env} {ε : Env → Option D} {δ0 : Env} (f : D → D) : ∀ (xs : List D), (∀ x ∈ xs, ∃ δ1, γ x δ0 = some δ1 ∧ ε δ1 = some (f x)) → compD γ (fun _ => some true) ε δ0 xs = some (xs.map f)
  | [], _ => rfl
  | x :: xs, h => by
    obtain ⟨δ1, h1, h2⟩ := h x List.mem_cons_self
    have ih := compD_map f xs fun y hy => h y (List.mem_cons_of_mem _ hy)
    unfold compD
    rw [h1]
    dsimp only
    rw [h2, ih]
    rfl
/-- .. with one -/
theorem compD_filter {γ : D → Env → Option Env} {τ : Env → Option Bool} {ε : Env → Option D} {δ0 : Env} (p : D → Bool) (f : D → D) : ∀ (xs : List D), (∀ x ∈ xs, ∃ δ1, γ x δ0 = some δ1 ∧ τ δ1 = some (p x) ∧ (p x = true → ε δ1 = some (f x))) → compD γ τ ε δ0 xs = some ((xs.filter p).map f)
  | [], _ => rfl
  | x :: xs, h => by
    obtain ⟨δ1, h1, h2, h3⟩ := h x List.mem_cons_self
    have ih := compD_filter p f xs fun y hy => h y (List.mem_cons_of_mem _ hy)
    unfold compD
    rw [h1]
    dsimp only
    rw [h2]
    cases hp : p x with
    | false => rw [List.filter_cons_of_neg (by simp [hp])]; exact ih
    | true =>
      rw [List.filter_cons_of_pos hp]
      dsimp only
      rw [h3 hp, ih]
      rfl
theorem rngI_get {lo c : Int} {n i : Nat} {x : D} (h : (rngI lo c n)[i]? = some x) : i < n ∧ x = .int (lo + (i : Nat) * c) := by
  have hi : i < n := by have := (List.getElem?_eq_some_iff.mp h).1; simpa [rngI] using this
  unfold rngI at h
  rw [List.getElem?_map, List.getElem?_range hi] at h
  exact ⟨hi, (Option.some.inj h).symm⟩
end DL
namespace DL
open PySem PySem.Spec L2
theorem strs_ones {α : Type} (g : α → Nat) : ∀ xs : List α, strs? (xs.map fun x => D.str [g x]) = some (xs.map fun x => [g x])
  | [] => rfl
  | x :: xs => by rw [List.map_cons, strs?, strs_ones g xs, List.map_cons]
theorem join_ones {α : Type} (g : α → Nat) (xs : List α) (h : xs.length ≤ sizeLine) : joinD [] [.lst (xs.map fun x => D.str [g x])] = some (.str (xs.map g)) := by
  unfold joinD
  dsimp only
  rw [strs_ones]
  dsimp only
  have e1 : ((xs.map fun x => [g x]).map List.length).sum = xs.length := by
    clear h
    induction xs with
    | nil => rfl
    | cons x xs ih =>
      rw [List.map_cons, List.map_cons, List.sum_cons, ih]
      simp
      omega
  rw [if_pos (by rw [e1]; simpa using h), joinL_nil]
  congr 2
  clear h e1
  induction xs with
  | nil => rfl
  | cons x xs ih => rw [List.map_cons, List.flatten_cons, ih]; rfl
end DL
namespace DL
open PySem PySem.Spec L2
theorem ixD_str {cs : List Nat} {i : Int} {c : Nat} (h : cs.length ≤ sizeLine) (hz : atI cs i = some c) : ixD (.str cs) (.int i) = some (.str [c]) := by
  show (if cs.length ≤ sizeLine then (atI cs i).map fun c => D.str [c] else none) = _
  rw [if_pos h, hz]
  rfl
end DL

namespace DL
open PySem PySem.Spec L2
/-! ### stepping through a def -/
theorem seq_nx {a b : Env → Option Out} {δ δ' : Env} (h : a δ = some (.nx δ')) : sSeq a b δ = b δ' := by
  unfold sSeq; rw [h]
theorem seq_rt {a b : Env → Option Out} {δ : Env} {d : D} (h : a δ = some (.rt d)) : sSeq a b δ = some (.rt d) := by
  unfold sSeq; rw [h]
theorem asg_of {i : Nat} {e : Env → Option D} {δ : Env} {d : D} (h : e δ = some d) : sAsg i e δ = some (.nx (δ.set i (some d))) := by
  unfold sAsg; rw [h]
theorem ret_of {e : Env → Option D} {δ : Env} {d : D} (h : e δ = some d) : sRet e δ = some (.rt d) := by
  unfold sRet; rw [h]
theorem if_yes {t : Env → Option Bool} {a b : Env → Option Out} {δ : Env} (h : t δ = some true) : sIf t a b δ = a δ := by
  unfold sIf; rw [h]
theorem if_no {t : Env → Option Bool} {a b : Env → Option Out} {δ : Env} (h : t δ = some false) : sIf t a b δ = b δ := by
  unfold sIf; rw [h]
theorem xB_of {e : Env → Option D} {δ : Env} {b : Bool} (h : e δ = some (.bl b)) : xB e δ = some b := by
  unfold xB; rw [h]; rfl
theorem xNot_of {t : Env → Option Bool} {δ : Env} {b : Bool} (h : t δ = some b) : xNot t δ = some (!b) := by
  unfold xNot; rw [h]
theorem xOr_no {a b : Env → Option Bool} {δ : Env} {x : Bool} (h1 : a δ = some false) (h2 : b δ = some x) : xOr a b δ = some x := by
  unfold xOr; rw [h1]; exact h2
theorem xAnd_yes {a b : Env → Option Bool} {δ : Env} {x : Bool} (h1 : a δ = some true) (h2 : b δ = some x) : xAnd a b δ = some x := by
  unfold xAnd; rw [h1]; exact h2
theorem xAnd_no {a b : Env → Option Bool} {δ : Env} (h1 : a δ = some false) : xAnd a b δ = some false := by
  unfold xAnd; rw [h1]
theorem call_of {n : Nat} {m : List D → Option D} {α : Env → Option (List D)} {δ : Env} {ds : List D} (h : α δ = some ds) (hn : ds.length = n) : eCall n m [] α δ = m ds := by
  unfold eCall
  rw [h]
  dsimp only
  rw [List.append_nil, if_pos hn]
theorem cons_of {a : Env → Option D} {b : Env → Option (List D)} {δ : Env} {x : D} {xs : List D} (h1 : a δ = some x) (h2 : b δ = some xs) : eCons a b δ = some (x :: xs) := by
  unfold eCons; rw [h1, h2]
theorem op_of {f : D → D → Option D} {a b : Env → Option D} {δ : Env} {x y : D} (h1 : a δ = some x) (h2 : b δ = some y) : eOp f a b δ = f x y := by
  unfold eOp; rw [h1, h2]
theorem and_yes {a b : Env → Option D} {δ : Env} {x : D} (h1 : a δ = some (.bl true)) (h2 : b δ = some x) : eAnd a b δ = some x := by
  unfold eAnd; rw [h1]; exact h2
theorem tup_of {α : Env → Option (List D)} {δ : Env} {ds : List D} (h : α δ = some ds) (hl : ds.length ≤ 1000) : eTup α δ = (some (.tup ds) : Option D) := by
  unfold eTup; rw [h]
  exact if_pos (Nat.le_trans hl (by decide))
theorem lst_of {α : Env → Option (List D)} {δ : Env} {ds : List D} (h : α δ = some ds) (hl : ds.length ≤ 1000) : eLst α δ = (some (.lst ds) : Option D) := by
  unfold eLst; rw [h]
  exact if_pos (Nat.le_trans hl (by decide))
/-- a for: what holds between two turns, whichever -/
theorem forD_keep {γ : D → Env → Option Env} {φ : Env → Option Out} (I : Env → Prop) : ∀ (xs : List D) (δ : Env), I δ →
    (∀ x ∈ xs, ∀ δ, I δ → ∃ δ1, γ x δ = some δ1 ∧ ∃ δ2, φ δ1 = some (.nx δ2) ∧ I δ2) → ∃ δ', forD γ φ xs δ = some (.nx δ') ∧ I δ'
  | [], δ, h, _ => ⟨δ, rfl, h⟩
  | x :: xs, δ, h, step => by
    obtain ⟨δ1, h1, δ2, h2, h3⟩ := step x List.mem_cons_self δ h
    obtain ⟨δ', h4, h5⟩ := forD_keep I xs δ2 h3 fun y hy => step y (List.mem_cons_of_mem _ hy)
    refine ⟨δ', ?_, h5⟩
    unfold forD
    rw [h1]
    dsimp only
    rw [h2]
    exact h4
theorem rng_mem {lo c : Int} {n : Nat} {x : D} (h : x ∈ rngI lo c n) : ∃ k : Nat, k < n ∧ x = .int (lo + (k : Nat) * c) := by
  unfold rngI at h
  obtain ⟨k, hk, rfl⟩ := List.mem_map.mp h
  exact ⟨k, List.mem_range.mp hk, rfl⟩
/-! ### ints -/
theorem fdivW_of {i j : Int} (h1 : j ≠ 0) (h2 : Wd j) : fdivW (.int i) (.int j) = some (.int (i.fdiv j)) := if_pos ⟨h1, h2⟩
theorem modW_of {i j : Int} (h1 : j ≠ 0) : modW (.int i) (.int j) = some (.int (i.fmod j)) := if_pos h1
end DL

namespace DL
open PySem PySem.Spec L2
theorem iotaR1 {α : Env → Option (List D)} {δ : Env} {j : Int} (h : α δ = some [.int j]) (h1 : -1000000 ≤ j) (h2 : j ≤ 1000000) : iotaR α δ = some (rngI 0 1 j.toNat) := by
  unfold iotaR
  rw [h]
  dsimp only
  rw [if_pos ⟨by omega, by omega⟩]
theorem iotaR2 {α : Env → Option (List D)} {δ : Env} {i j : Int} (h : α δ = some [.int i, .int j]) (h1 : -1000000 ≤ j) (h2 : j ≤ 1000000) (h3 : -1000000 ≤ i) (h4 : i ≤ 1000000) : iotaR α δ = some (rngI i 1 (j - i).toNat) := by
  unfold iotaR
  rw [h]
  dsimp only
  rw [if_pos ⟨by omega, by omega, by omega, by omega⟩]
theorem app_of {i : Nat} {ε : Env → Option D} {δ : Env} {xs : List D} {d : D} (h1 : eVar i δ = some (.lst xs)) (h2 : ε δ = some d) (hl : xs.length ≤ 1000000) : sApp i ε δ = some (.nx (δ.set i (some (.lst (xs ++ [d]))))) := by
  unfold sApp
  rw [h1]
  dsimp only
  rw [h2]
  dsimp only
  rw [if_pos (by rw [PySem.sizeLine_eq]; omega)]
theorem rng_get {n j : Nat} {x : D} (h : (rngI 0 1 n)[j]? = some x) : j < n ∧ x = .int (j : Nat) := by
  have hj : j < n := by have := (List.getElem?_eq_some_iff.mp h).1; simpa [rngI] using this
  refine ⟨hj, ?_⟩
  unfold rngI at h
  rw [List.getElem?_map, List.getElem?_range hj] at h
  have := Option.some.inj h
  rw [← this]
  show D.int (0 + (j : Int) * 1) = _
  rw [show (0 + (j : Int) * 1) = j by omega]
theorem rng_len (lo c : Int) (n : Nat) : (rngI lo c n).length = n := by simp [rngI]
theorem for_of {ι : Env → Option (List D)} {γ : D → Env → Option Env} {φ : Env → Option Out} {δ : Env} {xs : List D} {o : Out} (h1 : ι δ = some xs) (h2 : forD γ φ xs δ = some o) : sFor ι γ φ δ = some o := by
  unfold sFor
  rw [h1]
  exact h2
theorem comp_of {ι : Env → Option (List D)} {γ : D → Env → Option Env} {τ : Env → Option Bool} {ε : Env → Option D} {n : Nat} {js : List Nat} {δ δ0 : Env} {xs ys : List D} (h1 : ι δ = some xs) (hb : blkD n δ js = δ0) (h2 : compD γ τ ε δ0 xs = some ys) (hl : ys.length ≤ 1000000) : eComp ι γ τ ε n js δ = some (.lst ys) := by
  unfold eComp
  rw [h1]
  dsimp only
  rw [hb, h2]
  dsimp only
  rw [if_pos (by rw [PySem.sizeLine_eq]; omega)]
theorem bm_of {f : List Nat → List D → Option D} {a : Env → Option D} {α : Env → Option (List D)} {δ : Env} {s : List Nat} {ds : List D} (h1 : a δ = some (.str s)) (h2 : α δ = some ds) : eBM f a α δ = f s ds := by
  unfold eBM
  rw [h1, h2]
theorem cb_of {f : List D → Option D} {α : Env → Option (List D)} {δ : Env} {ds : List D} (h : α δ = some ds) : eCB f α δ = f ds := by
  unfold eCB
  rw [h]
theorem run_of {n : Nat} {f : Env → Option Out} {vs : List D} {δ : Env} {d : D} (h1 : (vs.map some ++ List.replicate (n - vs.length) none) = δ) (h2 : f δ = some (.rt d)) : DL.run n f vs = some d := by
  unfold DL.run
  rw [h1, h2]
theorem nil_of {δ : Env} : eNil δ = some [] := rfl
end DL

namespace DL
open PySem PySem.Spec L2
/-! ### == over lists and tuples -/
theorem eqD_self {x : D} (hs : scalar x = false) (h : SeqAt.shaped (toP x) = true) : eqD x x = some (.bl true) := by
  unfold eqD
  rw [if_neg (by simp [hs]), h, if_pos (by rfl)]
  rw [SeqAt.eqv_refl _ (SeqAt.canLay_of_shaped h)]
def Codes (w : List Nat) : Prop := ∀ c ∈ w, c < 1114112
theorem strOk_of {w : List Nat} (h : Codes w) : PyData.strOk (tx w) = true := by
  unfold PyData.strOk tx
  simpa [Codes] using h
theorem canLay_strs : ∀ {ws : List (List Nat)}, (∀ w ∈ ws, Codes w) → PyData.canLayAll0 (toPs (ws.map D.str)) = true
  | [], _ => rfl
  | w :: ws, h => by
    rw [List.map_cons, toPs, PyData.canLayAll0, canLay_strs fun x hx => h x (List.mem_cons_of_mem _ hx)]
    simp [toP, PyData.canLay0, strOk_of (h w List.mem_cons_self)]
theorem depth_strs : ∀ ws : List (List Nat), PyData.depthAll (toPs (ws.map D.str)) = 0
  | [] => rfl
  | w :: ws => by rw [List.map_cons, toPs, PyData.depthAll, depth_strs ws]; rfl
theorem shaped_strs {ws : List (List Nat)} (h : ∀ w ∈ ws, Codes w) : SeqAt.shaped (toP (.lst (ws.map D.str))) = true := by
  simp [SeqAt.shaped, toP, PyData.canLay0, PyData.depth, canLay_strs h, depth_strs]
end DL

namespace DL
open PySem PySem.Spec L2
/-! ### small things -/
theorem add_int (i j : Int) : addX (.int i) (.int j) = some (.int (i + j)) := rfl
theorem add_str {a b : List Nat} (h : a.length + b.length ≤ 100000) : addX (.str a) (.str b) = some (.str (a ++ b)) := by
  show (if a.length + b.length ≤ PySem.sizeLine then some (D.str (a ++ b)) else none) = _
  rw [if_pos (by rw [PySem.sizeLine_eq]; omega)]
theorem mul_small {i j : Int} (h1 : -1000 ≤ j) (h2 : j ≤ 1000) : mulX (.int i) (.int j) = some (.int (i * j)) := if_pos (.inr (.inr ⟨by omega, by omega⟩))
theorem mul_lst {a : List D} {n : Nat} (h : a.length * n ≤ 100000) (hn : n ≤ 100000) : mulX (.lst a) (.int (n : Int)) = some (.lst (List.replicate n a).flatten) := by
  unfold mulX
  dsimp only
  rw [Int.toNat_natCast, if_pos ⟨by omega, by omega, by rw [PySem.sizeLine_eq]; omega⟩]
theorem ixN_nat {n a : Nat} (h : a < n) : ixN n (a : Int) = some a := by
  unfold ixN
  rw [if_pos (by omega), if_pos (by omega), Int.toNat_natCast]
theorem ix_at {xs : List D} {a : Nat} {x : D} (h : xs[a]? = some x) : ixD (.lst xs) (.int (a : Int)) = some x := atI_nat h
theorem ix_tup {xs : List D} {a : Nat} {x : D} (h : xs[a]? = some x) : ixD (.tup xs) (.int (a : Int)) = some x := atI_nat h
theorem ix_str {cs : List Nat} {a : Nat} {c : Nat} (h : cs[a]? = some c) (hl : cs.length ≤ 100000) : ixD (.str cs) (.int (a : Int)) = some (.str [c]) := ixD_str (by rw [PySem.sizeLine_eq]; omega) (atI_nat h)
theorem ix_ints {cs : List Int} {a : Nat} (h : a < cs.length) : ixD (.lst (cs.map D.int)) (.int (a : Int)) = some (.int (cs.getD a 0)) := by
  refine ix_at ?_
  rw [List.getElem?_map, List.getElem?_eq_getElem h, List.getD_eq_getElem?_getD, List.getElem?_eq_getElem h]
  rfl
theorem nat_of {i : Int} (h : 0 ≤ i) : ∃ a : Nat, i = (a : Int) := ⟨i.toNat, (Int.toNat_of_nonneg h).symm⟩
theorem mod_nat (i : Int) {m : Nat} (h : 0 < m) : ∃ a : Nat, i % (m : Int) = (a : Int) ∧ a < m := by
  obtain ⟨a, ha⟩ := nat_of (Int.emod_nonneg i (show (m : Int) ≠ 0 by omega))
  exact ⟨a, ha, by have := Int.emod_lt_of_pos i (b := (m : Int)) (by omega); omega⟩
theorem len_str {cs : List Nat} (h : cs.length ≤ 100000) : lenD [.str cs] = some (.int (cs.length : Int)) := if_pos (by rw [PySem.sizeLine_eq]; omega)
theorem len_lst {xs : List D} : lenD [.lst xs] = some (.int (xs.length : Int)) := rfl
theorem len_tup {xs : List D} : lenD [.tup xs] = some (.int (xs.length : Int)) := rfl
theorem findL_mem {c : Nat} {ms : List Nat} (h : c ∈ ms) : ∃ i : Nat, findL c ms = (i : Int) ∧ ms[i]? = some c ∧ i < ms.length := by
  unfold findL
  cases e : ms.findIdx? (· == c) with
  | none =>
    have := List.findIdx?_eq_none_iff.mp e c h
    simp at this
  | some i =>
    obtain ⟨h1, h2, _⟩ := List.findIdx?_eq_some_iff_getElem.mp e
    refine ⟨i, rfl, ?_, h1⟩
    rw [List.getElem?_eq_getElem h1]
    congr 1
    simpa using h2
theorem make_of {c : String} {n : Nat} {m : List D → Option D} {α : Env → Option (List D)} {δ : Env} {ds : List D} (h : α δ = some ds) (hn : ds.length + 1 = n) : eMake c n m [] α δ = m (.obj c [] [] :: ds) := by
  unfold eMake
  rw [h]
  dsimp only
  rw [List.append_nil, if_pos (by rw [List.length_cons]; exact hn)]
end DL

namespace K21
open PySem PySem.Spec L2 DL
def fc_marks : List String := ["Rooms"]
def fc_ways : List String := ["Rooms"]
noncomputable def f__wall : DL.Env → Option Out :=
  (sWhile (xB (eC (.bl true))) sNext)
noncomputable def m__wall : List D → Option D := run 1 f__wall
noncomputable def f_counts_longer : DL.Env → Option Out :=
  (sRet (eComp (iotaA (eFld fc_ways "ways" (eVar 0))) (gSet 0) (fun _ => some true) (eCB sumLD (eCons (eComp (iotaA (eVar 0)) (gSet 0) (xB (eNotN (eVar 0))) (eOp ixD (eVar 1) (eVar 0)) 1 [1]) eNil)) 1 [1]))
noncomputable def m_counts_longer : List D → Option D := run 2 f_counts_longer
noncomputable def f_Rooms_many : DL.Env → Option Out :=
  (sRet (eCB lenD (eCons (eFld fc_ways "ways" (eVar 0)) eNil)))
noncomputable def m_Rooms_many : List D → Option D := run 1 f_Rooms_many
noncomputable def tab_many : MTab := [("Rooms", 1, m_Rooms_many)]
noncomputable def f_counts_up_to : DL.Env → Option Out :=
  (sSeq (sAsg 2 (eLst (eCons (eOp mulF (eLst (eCons (eC (.int 1)) eNil)) (eMeth "many" tab_many (eVar 0) eNil)) eNil)))
  (sSeq (sFor (iotaR (eCons (eVar 1) eNil)) (gSet 3) (sApp 2 (eCall 2 m_counts_longer [] (eCons (eVar 0) (eCons (eOp ixD (eVar 2) (eVar 3)) eNil)))))
  (sRet (eVar 2))))
noncomputable def m_counts_up_to : List D → Option D := run 4 f_counts_up_to
noncomputable def f_count : DL.Env → Option Out :=
  (sRet (eOp ixD (eOp ixD (eCall 2 m_counts_up_to [] (eCons (eVar 0) (eCons (eVar 2) eNil))) (eVar 2)) (eVar 1)))
noncomputable def m_count : List D → Option D := run 3 f_count
noncomputable def f_rows_ahead : DL.Env → Option Out :=
  (sSeq (sAsg 4 (eSl (eOp ixD (eFld fc_ways "ways" (eVar 0)) (eVar 1)) xNoP (xP (eBM indexD (eFld fc_marks "marks" (eVar 0)) (eCons (eVar 2) eNil)))))
  (sRet (eCB sumLD (eCons (eComp (iotaA (eVar 4)) (gSet 0) (xB (eNotN (eVar 0))) (eOp ixD (eVar 1) (eVar 0)) 1 [3]) eNil))))
noncomputable def m_rows_ahead : List D → Option D := run 5 f_rows_ahead
noncomputable def f_mark_at : DL.Env → Option Out :=
  (sRet (eOp ixD (eComp (iotaA (eFld fc_marks "marks" (eVar 0))) (gSet 0) (xB (eOp (cmpD fun i j => decide (i ≤ j)) (eCall 4 m_rows_ahead [] (eCons (eVar 1) (eCons (eVar 2) (eCons (eVar 0) (eCons (eVar 3) eNil))))) (eVar 4))) (eVar 0) 1 [0, 1, 3, 2]) (eUn negD (eC (.int 1)))))
noncomputable def m_mark_at : List D → Option D := run 4 f_mark_at
noncomputable def f_is_mark : DL.Env → Option Out :=
  (sRet (eAnd (eOp eqD (eCB lenD (eCons (eVar 1) eNil)) (eC (.int 1))) (eOp (inD false) (eVar 1) (eVar 0))))
noncomputable def m_is_mark : List D → Option D := run 2 f_is_mark
noncomputable def f_Rooms_led : DL.Env → Option Out :=
  (sSeq (sIf (xNot (xB (eCall 2 m_is_mark [] (eCons (eFld fc_marks "marks" (eVar 0)) (eCons (eVar 2) eNil))))) sNever sNext)
  (sRet (eOp ixD (eOp ixD (eFld fc_ways "ways" (eVar 0)) (eVar 1)) (eBM indexD (eFld fc_marks "marks" (eVar 0)) (eCons (eVar 2) eNil)))))
noncomputable def m_Rooms_led : List D → Option D := run 3 f_Rooms_led
noncomputable def tab_led : MTab := [("Rooms", 3, m_Rooms_led)]
noncomputable def f_row_at : DL.Env → Option Out :=
  (sSeq (sAsg 4 (eCall 2 m_counts_up_to [] (eCons (eVar 0) (eCons (eVar 2) eNil))))
  (sSeq (sIf (xOr (xB (eOp (cmpD fun i j => decide (i < j)) (eVar 3) (eC (.int 0)))) (xB (eOp (cmpD fun i j => decide (j ≤ i)) (eVar 3) (eOp ixD (eOp ixD (eVar 4) (eVar 2)) (eVar 1))))) sNever sNext)
  (sSeq (sAsg 5 (eLst eNil))
  (sSeq (sFor (iotaR (eCons (eOp subD (eVar 2) (eC (.int 1))) (eCons (eUn negD (eC (.int 1))) (eCons (eUn negD (eC (.int 1))) eNil)))) (gSet 6) (sSeq (sAsg 7 (eCall 4 m_mark_at [] (eCons (eVar 0) (eCons (eVar 1) (eCons (eVar 3) (eCons (eOp ixD (eVar 4) (eVar 6)) eNil))))))
  (sSeq (sAsg 3 (eOp subD (eVar 3) (eCall 4 m_rows_ahead [] (eCons (eVar 0) (eCons (eVar 1) (eCons (eVar 7) (eCons (eOp ixD (eVar 4) (eVar 6)) eNil)))))))
  (sSeq (sAsg 1 (eMeth "led" tab_led (eVar 0) (eCons (eVar 1) (eCons (eVar 7) eNil))))
  (sApp 5 (eVar 7))))))
  (sRet (eBM joinD (eC (.str [])) (eCons (eVar 5) eNil)))))))
noncomputable def m_row_at : List D → Option D := run 8 f_row_at
noncomputable def f_Rooms_init : DL.Env → Option Out :=
  (sSeq (sFldD 0 fc_marks "marks" (eVar 1))
  (sFldD 0 fc_ways "ways" (eCB tupleD (eCons (eComp (iotaA (eVar 2)) (gSet 0) (fun _ => some true) (eCB tupleD (eCons (eVar 0) eNil)) 1 []) eNil))))
noncomputable def m_Rooms_init : List D → Option D := runI 3 f_Rooms_init
noncomputable def f_Rooms_walked : DL.Env → Option Out :=
  (sExpr (eCall 1 m__wall [] (eCons (eC (.int 0)) eNil)))
noncomputable def m_Rooms_walked : List D → Option D := run 3 f_Rooms_walked
noncomputable def f__law_cell_at : DL.Env → Option Out :=
  (sSeq (sIf (xB (eOp (cmpD fun i j => decide (i < j)) (eVar 1) (eCB lenD (eCons (eVar 0) eNil)))) (sRet (eOp ixD (eVar 0) (eVar 1))) sNext)
  (sRet (eC (.int 0))))
noncomputable def m__law_cell_at : List D → Option D := run 2 f__law_cell_at
noncomputable def f__law_folded : DL.Env → Option Out :=
  (sSeq (sAsg 3 (eComp (iotaR (eCons (eVar 2) eNil)) (gSet 0) (fun _ => some true) (eOp addX (eOp mulX (eVar 0) (eVar 0)) (eVar 0)) 1 []))
  (sSeq (sFor (iotaR (eCons (eVar 1) (eCons (eCB lenD (eCons (eVar 0) eNil)) eNil))) (gSet 4) (sSeq (sAsg 5 (eOp modW (eOp subD (eVar 4) (eVar 1)) (eVar 2)))
  (sSetI 3 (eVar 5) (eOp modW (eOp addX (eOp mulX (eOp ixD (eVar 3) (eVar 5)) (eC (.int 31))) (eOp ixD (eVar 0) (eVar 4))) (eC (.int 1000000000039))))))
  (sRet (eVar 3))))
noncomputable def m__law_folded : List D → Option D := run 6 f__law_folded
noncomputable def f__law_marks : DL.Env → Option Out :=
  (sSeq (sAsg 1 (eC (.str [97, 98, 99, 100, 101, 102, 103, 104, 105, 106, 107, 108, 109, 110, 111, 112, 113, 114, 115, 116, 117, 118, 119, 120, 121, 122, 48, 49, 50, 51, 52, 53, 54, 55, 56, 57])))
  (sRet (eBM joinD (eC (.str [])) (eCons (eComp (iotaR (eCons (eOp addX (eC (.int 2)) (eOp modW (eVar 0) (eC (.int 3)))) eNil)) (gSet 0) (fun _ => some true) (eOp ixD (eVar 1) (eOp modW (eOp addX (eOp fdivW (eVar 2) (eC (.int 3))) (eOp mulX (eC (.int 5)) (eVar 0))) (eCB lenD (eCons (eVar 1) eNil)))) 1 [1, 0]) eNil))))
noncomputable def m__law_marks : List D → Option D := run 2 f__law_marks
noncomputable def f__law_led_to : DL.Env → Option Out :=
  (sSeq (sHide 0 (sAsg 2 (eC (.dct [] []))))
  (sFor (iotaR (eCons (eC (.int 1)) (eCons (eCB lenD (eCons (eVar 0) eNil)) eNil))) (gSet 3) (sSeq (sHide 0 (sAsg 4 (eC .non)))
  (sSeq (sFor (iotaR (eCons (eOp mulX (eVar 3) (eCB lenD (eCons (eOp ixD (eVar 0) (eC (.int 0))) eNil))) eNil)) (gSet 5) (sSeq (sAsg 6 (eScal (eOp modW (eOp addX (eOp ixD (eVar 1) (eOp addX (eC (.int 24)) (eVar 3))) (eVar 5)) (eOp mulX (eVar 3) (eCB lenD (eCons (eOp ixD (eVar 0) (eC (.int 0))) eNil))))))
  (sIf (xAnd (xB (eIsN (eVar 4))) (xB (eOp (inK true) (eVar 6) (eVar 2)))) (sHide 0 (sAsg 4 (eVar 6))) sNext)))
  (sSeq (sHide 0 (sPutK 2 (eVar 4) (eC (.bl true))))
  (sSet2 0 (eOp fdivW (eVar 4) (eCB lenD (eCons (eOp ixD (eVar 0) (eC (.int 0))) eNil))) (eOp modW (eVar 4) (eCB lenD (eCons (eOp ixD (eVar 0) (eC (.int 0))) eNil))) (eVar 3)))))))
noncomputable def m__law_led_to : List D → Option D := runI 7 f__law_led_to
noncomputable def f__law_ways : DL.Env → Option Out :=
  (sSeq (sMat 3 (eLst eNil))
  (sSeq (sFor (iotaR (eCons (eVar 1) eNil)) (gSet 4) (sSeq (sHide 3 (sAsg 5 (eLst eNil)))
  (sSeq (sHide 3 (sFor (iotaR (eCons (eVar 2) eNil)) (gSet 6) (sSeq (sAsg 7 (eOp ixD (eVar 0) (eOp addX (eOp mulX (eVar 4) (eVar 2)) (eVar 6))))
  (sApp 5 (eOp ixD (eLst (eCons (eC .non) (eCons (eOp modW (eOp fdivW (eVar 7) (eC (.int 3))) (eVar 1)) (eCons (eOp modW (eOp fdivW (eVar 7) (eC (.int 3))) (eVar 1)) eNil)))) (eOp modW (eVar 7) (eC (.int 3))))))))
  (sPush 3 5))))
  (sSeq (sCallU 3 2 m__law_led_to (eCons (eVar 0) eNil))
  (sSeq (sFor (iotaR (eCons (eVar 1) eNil)) (gSet 4) (sIf (xB (eOp eqD (eCB lenD (eCons (eComp (iotaA (eOp ixD (eVar 3) (eVar 4))) (gSet 0) (xB (eNotN (eVar 0))) (eVar 0) 1 []) eNil)) (eC (.int 0)))) (sSet2 3 (eVar 4) (eOp modW (eOp fdivW (eOp ixD (eVar 0) (eVar 4)) (eC (.int 7))) (eVar 2)) (eOp modW (eOp fdivW (eOp ixD (eVar 0) (eVar 4)) (eC (.int 35))) (eVar 1))) sNext))
  (sRet (eCB tupleD (eCons (eComp (iotaA (eVar 3)) (gSet 0) (fun _ => some true) (eCB tupleD (eCons (eVar 0) eNil)) 1 []) eNil)))))))
noncomputable def m__law_ways : List D → Option D := run 8 f__law_ways
noncomputable def f__law_ahead : DL.Env → Option Out :=
  (sSeq (sFor (iotaR (eCons (eCB lenD (eCons (eVar 1) eNil)) eNil)) (gSet 3) (sIf (xB (eOp neD (eOp ixD (eVar 1) (eVar 3)) (eOp ixD (eVar 2) (eVar 3)))) (sRet (eOp (cmpD fun i j => decide (i < j)) (eBM indexD (eVar 0) (eCons (eOp ixD (eVar 1) (eVar 3)) eNil)) (eBM indexD (eVar 0) (eCons (eOp ixD (eVar 2) (eVar 3)) eNil)))) sNext))
  (sRet (eC (.bl false))))
noncomputable def m__law_ahead : List D → Option D := run 4 f__law_ahead
noncomputable def f__law_edge : DL.Env → Option Out :=
  (sSeq (sAsg 5 (eC (.str [])))
  (sSeq (sFor (iotaR (eCons (eVar 3) eNil)) (gSet 6) (sSeq (sAsg 7 (eComp (iotaR (eCons (eCB lenD (eCons (eVar 0) eNil)) eNil)) (gSet 0) (xB (eNotN (eOp ixD (eOp ixD (eVar 1) (eVar 2)) (eVar 0)))) (eVar 0) 1 [1, 2]))
  (sSeq (sAsg 8 (eOp ixD (eVar 7) (eVar 4)))
  (sSeq (sAsg 5 (eOp addX (eVar 5) (eOp ixD (eVar 0) (eVar 8))))
  (sAsg 2 (eOp ixD (eOp ixD (eVar 1) (eVar 2)) (eVar 8)))))))
  (sRet (eVar 5))))
noncomputable def m__law_edge : List D → Option D := run 9 f__law_edge
noncomputable def f__law_listed : DL.Env → Option Out :=
  (sSeq (sAsg 4 (eLst (eCons (eTup (eCons (eC (.str [])) (eCons (eVar 2) eNil))) eNil)))
  (sSeq (sFor (iotaR (eCons (eVar 3) eNil)) (gSet 5) (sSeq (sAsg 6 (eLst eNil))
  (sSeq (sFor (iotaA (eVar 4)) (gTupD 2 (gsCons 7 (gsCons 8 gsNil))) (sFor (iotaR (eCons (eCB lenD (eCons (eVar 0) eNil)) eNil)) (gSet 9) (sIf (xB (eNotN (eOp ixD (eOp ixD (eVar 1) (eVar 8)) (eVar 9)))) (sApp 6 (eTup (eCons (eOp addX (eVar 7) (eOp ixD (eVar 0) (eVar 9))) (eCons (eOp ixD (eOp ixD (eVar 1) (eVar 8)) (eVar 9)) eNil)))) sNext)))
  (sAsg 4 (eVar 6)))))
  (sRet (eComp (iotaA (eVar 4)) (gSet 0) (fun _ => some true) (eOp ixD (eVar 0) (eC (.int 0))) 1 []))))
noncomputable def m__law_listed : List D → Option D := run 10 f__law_listed
noncomputable def f__law_number : DL.Env → Option Out :=
  (sSeq (sAsg 3 (eVar 2))
  (sSeq (sFor (iotaA (eSl (eVar 0) (xP (eC (.int 5))) xNoP)) (gSet 4) (sAsg 3 (eOp modW (eOp addX (eOp mulX (eVar 3) (eC (.int 1009))) (eVar 4)) (eVar 1))))
  (sRet (eOp modW (eVar 3) (eVar 1)))))
noncomputable def m__law_number : List D → Option D := run 5 f__law_number
noncomputable def f_law : DL.Env → Option Out :=
  (sSeq (sAsg 1 (eCall 3 m__law_folded [] (eCons (eVar 0) (eCons (eC (.int 5)) (eCons (eC (.int 30)) eNil)))))
  (sSeq (sAsg 2 (eCall 1 m__law_marks [] (eCons (eCall 2 m__law_cell_at [] (eCons (eVar 0) (eCons (eC (.int 0)) eNil))) eNil)))
  (sSeq (sAsg 3 (eCall 3 m__law_ways [] (eCons (eVar 1) (eCons (eOp addX (eC (.int 1)) (eOp modW (eCall 2 m__law_cell_at [] (eCons (eVar 0) (eCons (eC (.int 1)) eNil))) (eC (.int 6)))) (eCons (eCB lenD (eCons (eVar 2) eNil)) eNil)))))
  (sSeq (sAsg 4 (eMake "Rooms" 3 m_Rooms_init [] (eCons (eVar 2) (eCons (eVar 3) eNil))))
  (sSeq (sAsg 5 (eOp modW (eCall 2 m__law_cell_at [] (eCons (eVar 0) (eCons (eC (.int 2)) eNil))) (eCB lenD (eCons (eVar 3) eNil))))
  (sSeq (sAsg 6 (eOp modW (eCall 2 m__law_cell_at [] (eCons (eVar 0) (eCons (eC (.int 3)) eNil))) (eC (.int 31))))
  (sSeq (sIf (xB (eOp eqD (eOp modW (eOp fdivW (eCall 2 m__law_cell_at [] (eCons (eVar 0) (eCons (eC (.int 3)) eNil))) (eC (.int 31))) (eC (.int 3))) (eC (.int 1)))) (sAsg 6 (eOp modW (eVar 6) (eC (.int 4)))) sNext)
  (sSeq (sAsg 7 (eCall 3 m_count [] (eCons (eVar 4) (eCons (eVar 5) (eCons (eVar 6) eNil)))))
  (sSeq (sIf (xB (eOp neD (eCall 4 m_row_at [] (eCons (eVar 4) (eCons (eVar 5) (eCons (eVar 6) (eCons (eC (.int 0)) eNil))))) (eCall 5 m__law_edge [] (eCons (eVar 2) (eCons (eVar 3) (eCons (eVar 5) (eCons (eVar 6) (eCons (eC (.int 0)) eNil)))))))) (sRet (eC (.bl false))) sNext)
  (sSeq (sIf (xB (eOp neD (eCall 4 m_row_at [] (eCons (eVar 4) (eCons (eVar 5) (eCons (eVar 6) (eCons (eOp subD (eVar 7) (eC (.int 1))) eNil))))) (eCall 5 m__law_edge [] (eCons (eVar 2) (eCons (eVar 3) (eCons (eVar 5) (eCons (eVar 6) (eCons (eUn negD (eC (.int 1))) eNil)))))))) (sRet (eC (.bl false))) sNext)
  (sSeq (sAsg 8 (eCall 3 m__law_number [] (eCons (eVar 0) (eCons (eVar 7) (eCons (eCall 2 m__law_cell_at [] (eCons (eVar 0) (eCons (eC (.int 4)) eNil))) eNil)))))
  (sSeq (sAsg 9 (eCall 3 m__law_number [] (eCons (eVar 0) (eCons (eVar 7) (eCons (eOp ixD (eVar 1) (eC (.int 29))) eNil)))))
  (sSeq (sFor (iotaA (eLst (eCons (eTup (eCons (eCB minD (eCons (eVar 8) (eCons (eVar 9) eNil))) (eCons (eCB maxD (eCons (eVar 8) (eCons (eVar 9) eNil))) eNil))) (eCons (eTup (eCons (eVar 8) (eCons (eCB minD (eCons (eOp addX (eVar 8) (eC (.int 1))) (eCons (eOp subD (eVar 7) (eC (.int 1))) eNil))) eNil))) eNil)))) (gSet 10) (sSeq (sAsg 11 (eComp (iotaA (eVar 10)) (gSet 0) (fun _ => some true) (eCall 4 m_row_at [] (eCons (eVar 1) (eCons (eVar 2) (eCons (eVar 3) (eCons (eVar 0) eNil))))) 1 [4, 5, 6]))
  (sIf (xB (eOp neD (eOp (cmpD fun i j => decide (i < j)) (eOp ixD (eVar 10) (eC (.int 0))) (eOp ixD (eVar 10) (eC (.int 1)))) (eCall 3 m__law_ahead [] (eCons (eVar 2) (eCons (eOp ixD (eVar 11) (eC (.int 0))) (eCons (eOp ixD (eVar 11) (eC (.int 1))) eNil)))))) (sRet (eC (.bl false))) sNext)))
  (sSeq (sIf (xB (eOp (cmpD fun i j => decide (j < i)) (eVar 7) (eC (.int 24)))) (sRet (eC (.bl true))) sNext)
  (sRet (eOp eqD (eComp (iotaR (eCons (eVar 7) eNil)) (gSet 0) (fun _ => some true) (eCall 4 m_row_at [] (eCons (eVar 1) (eCons (eVar 2) (eCons (eVar 3) (eCons (eVar 0) eNil))))) 1 [4, 5, 6]) (eCall 4 m__law_listed [] (eCons (eVar 2) (eCons (eVar 3) (eCons (eVar 5) (eCons (eVar 6) eNil)))))))))))))))))))))
noncomputable def m_law : List D → Option D := run 12 f_law
end K21

namespace K21
open PySem PySem.Spec L2 DL
def top (i : Nat) : Stmt := PySem.Challenge.pw_grooveway_k21_whole_in_order.main.body.getD i (.Pass ⟨0, 0, 0, 0⟩)
abbrev s__wall : Stmt := top 0
abbrev s_counts_longer : Stmt := top 6
abbrev s_Rooms_many : Stmt := inClass (top 15) 1
abbrev s_counts_up_to : Stmt := top 7
abbrev s_count : Stmt := top 8
abbrev s_rows_ahead : Stmt := top 9
abbrev s_mark_at : Stmt := top 10
abbrev s_is_mark : Stmt := top 13
abbrev s_Rooms_led : Stmt := inClass (top 15) 2
abbrev s_row_at : Stmt := top 11
abbrev s_Rooms_init : Stmt := inClass (top 15) 0
abbrev s_Rooms_walked : Stmt := inClass (top 15) 3
abbrev s__law_cell_at : Stmt := top 17
abbrev s__law_folded : Stmt := top 18
abbrev s__law_marks : Stmt := top 19
abbrev s__law_led_to : Stmt := top 20
abbrev s__law_ways : Stmt := top 21
abbrev s__law_ahead : Stmt := top 22
abbrev s__law_edge : Stmt := top 23
abbrev s__law_listed : Stmt := top 24
abbrev s__law_number : Stmt := top 25
abbrev s_law : Stmt := top 26
theorem sc__wall : FnScope ["k"] ["k"] (defScope s__wall) := ⟨rfl, rfl, rfl, by decide +kernel, rfl, by decide +kernel, by decide +kernel⟩
theorem sc_counts_longer : FnScope ["rooms", "counts"] ["rooms", "counts"] (defScope s_counts_longer) := ⟨rfl, rfl, rfl, by decide +kernel, rfl, by decide +kernel, by decide +kernel⟩
theorem sc_Rooms_many : FnScope ["self"] ["self"] (defScope s_Rooms_many) := ⟨rfl, rfl, rfl, by decide +kernel, rfl, by decide +kernel, by decide +kernel⟩
theorem sc_counts_up_to : FnScope ["rooms", "length", "counts", "place"] ["rooms", "length"] (defScope s_counts_up_to) := ⟨rfl, rfl, rfl, by decide +kernel, rfl, by decide +kernel, by decide +kernel⟩
theorem sc_count : FnScope ["rooms", "room", "length"] ["rooms", "room", "length"] (defScope s_count) := ⟨rfl, rfl, rfl, by decide +kernel, rfl, by decide +kernel, by decide +kernel⟩
theorem sc_rows_ahead : FnScope ["rooms", "room", "mark", "counts", "own"] ["rooms", "room", "mark", "counts"] (defScope s_rows_ahead) := ⟨rfl, rfl, rfl, by decide +kernel, rfl, by decide +kernel, by decide +kernel⟩
theorem sc_mark_at : FnScope ["rooms", "room", "number", "counts"] ["rooms", "room", "number", "counts"] (defScope s_mark_at) := ⟨rfl, rfl, rfl, by decide +kernel, rfl, by decide +kernel, by decide +kernel⟩
theorem sc_is_mark : FnScope ["marks", "text"] ["marks", "text"] (defScope s_is_mark) := ⟨rfl, rfl, rfl, by decide +kernel, rfl, by decide +kernel, by decide +kernel⟩
theorem sc_Rooms_led : FnScope ["self", "room", "mark"] ["self", "room", "mark"] (defScope s_Rooms_led) := ⟨rfl, rfl, rfl, by decide +kernel, rfl, by decide +kernel, by decide +kernel⟩
theorem sc_row_at : FnScope ["rooms", "room", "length", "number", "counts", "row", "rest", "mark"] ["rooms", "room", "length", "number"] (defScope s_row_at) := ⟨rfl, rfl, rfl, by decide +kernel, rfl, by decide +kernel, by decide +kernel⟩
theorem sc_Rooms_init : FnScope ["self", "marks", "ways"] ["self", "marks", "ways"] (defScope s_Rooms_init) := ⟨rfl, rfl, rfl, by decide +kernel, rfl, by decide +kernel, by decide +kernel⟩
theorem sc_Rooms_walked : FnScope ["self", "room", "row"] ["self", "room", "row"] (defScope s_Rooms_walked) := ⟨rfl, rfl, rfl, by decide +kernel, rfl, by decide +kernel, by decide +kernel⟩
theorem sc__law_cell_at : FnScope ["script", "k"] ["script", "k"] (defScope s__law_cell_at) := ⟨rfl, rfl, rfl, by decide +kernel, rfl, by decide +kernel, by decide +kernel⟩
theorem sc__law_folded : FnScope ["script", "behind", "many", "found", "k", "at"] ["script", "behind", "many"] (defScope s__law_folded) := ⟨rfl, rfl, rfl, by decide +kernel, rfl, by decide +kernel, by decide +kernel⟩
theorem sc__law_marks : FnScope ["cell", "some"] ["cell"] (defScope s__law_marks) := ⟨rfl, rfl, rfl, by decide +kernel, rfl, by decide +kernel, by decide +kernel⟩
theorem sc__law_led_to : FnScope ["ways", "cells", "taken", "room", "spot", "step", "number"] ["ways", "cells"] (defScope s__law_led_to) := ⟨rfl, rfl, rfl, by decide +kernel, rfl, by decide +kernel, by decide +kernel⟩
theorem sc__law_ways : FnScope ["cells", "many", "width", "ways", "room", "row", "k", "cell"] ["cells", "many", "width"] (defScope s__law_ways) := ⟨rfl, rfl, rfl, by decide +kernel, rfl, by decide +kernel, by decide +kernel⟩
theorem sc__law_ahead : FnScope ["marks", "one", "other", "k"] ["marks", "one", "other"] (defScope s__law_ahead) := ⟨rfl, rfl, rfl, by decide +kernel, rfl, by decide +kernel, by decide +kernel⟩
theorem sc__law_edge : FnScope ["marks", "ways", "room", "length", "last", "row", "step", "open_marks", "k"] ["marks", "ways", "room", "length", "last"] (defScope s__law_edge) := ⟨rfl, rfl, rfl, by decide +kernel, rfl, by decide +kernel, by decide +kernel⟩
theorem sc__law_listed : FnScope ["marks", "ways", "room", "length", "rows", "step", "longer", "row", "here", "k"] ["marks", "ways", "room", "length"] (defScope s__law_listed) := ⟨rfl, rfl, rfl, by decide +kernel, rfl, by decide +kernel, by decide +kernel⟩
theorem sc__law_number : FnScope ["script", "many", "add", "number", "cell"] ["script", "many", "add"] (defScope s__law_number) := ⟨rfl, rfl, rfl, by decide +kernel, rfl, by decide +kernel, by decide +kernel⟩
theorem sc_law : FnScope ["script", "cells", "marks", "ways", "rooms", "room", "length", "many", "one", "other", "pair", "rows"] ["script"] (defScope s_law) := ⟨rfl, rfl, rfl, by decide +kernel, rfl, by decide +kernel, by decide +kernel⟩
structure Adr where
  a__wall : Addr
  d__wall : FuncData
  a_counts_longer : Addr
  d_counts_longer : FuncData
  a_Rooms_many : Addr
  d_Rooms_many : FuncData
  a_counts_up_to : Addr
  d_counts_up_to : FuncData
  a_count : Addr
  d_count : FuncData
  a_rows_ahead : Addr
  d_rows_ahead : FuncData
  a_mark_at : Addr
  d_mark_at : FuncData
  a_is_mark : Addr
  d_is_mark : FuncData
  a_Rooms_led : Addr
  d_Rooms_led : FuncData
  a_row_at : Addr
  d_row_at : FuncData
  a_Rooms_init : Addr
  d_Rooms_init : FuncData
  a_Rooms_walked : Addr
  d_Rooms_walked : FuncData
  a__law_cell_at : Addr
  d__law_cell_at : FuncData
  a__law_folded : Addr
  d__law_folded : FuncData
  a__law_marks : Addr
  d__law_marks : FuncData
  a__law_led_to : Addr
  d__law_led_to : FuncData
  a__law_ways : Addr
  d__law_ways : FuncData
  a__law_ahead : Addr
  d__law_ahead : FuncData
  a__law_edge : Addr
  d__law_edge : FuncData
  a__law_listed : Addr
  d__law_listed : FuncData
  a__law_number : Addr
  d__law_number : FuncData
  a_law : Addr
  d_law : FuncData
  c_Rooms : Addr
def Adr.c (t : Adr) : String → Addr := fun c => if c = "Rooms" then t.c_Rooms else 0
structure Txt (K : PySem.W.Frag) (mg : Str → Option Value) (t : Adr) : Prop where
  f__wall : FunX K "_wall" "_wall" s__wall t.a__wall t.d__wall
  b__wall : Binds K t.d__wall ["k"] []
  g__wall : mg "_wall" = some (.ref t.a__wall)
  k__wall : PySem.W.keepIn K (.ref t.a__wall) = true
  f_counts_longer : FunX K "counts_longer" "counts_longer" s_counts_longer t.a_counts_longer t.d_counts_longer
  b_counts_longer : Binds K t.d_counts_longer ["rooms", "counts"] []
  g_counts_longer : mg "counts_longer" = some (.ref t.a_counts_longer)
  k_counts_longer : PySem.W.keepIn K (.ref t.a_counts_longer) = true
  f_Rooms_many : FunX K "many" "Rooms.many" s_Rooms_many t.a_Rooms_many t.d_Rooms_many
  b_Rooms_many : Binds K t.d_Rooms_many ["self"] []
  k_Rooms_many : PySem.W.keepIn K (.ref t.a_Rooms_many) = true
  f_counts_up_to : FunX K "counts_up_to" "counts_up_to" s_counts_up_to t.a_counts_up_to t.d_counts_up_to
  b_counts_up_to : Binds K t.d_counts_up_to ["rooms", "length"] []
  g_counts_up_to : mg "counts_up_to" = some (.ref t.a_counts_up_to)
  k_counts_up_to : PySem.W.keepIn K (.ref t.a_counts_up_to) = true
  f_count : FunX K "count" "count" s_count t.a_count t.d_count
  b_count : Binds K t.d_count ["rooms", "room", "length"] []
  g_count : mg "count" = some (.ref t.a_count)
  k_count : PySem.W.keepIn K (.ref t.a_count) = true
  f_rows_ahead : FunX K "rows_ahead" "rows_ahead" s_rows_ahead t.a_rows_ahead t.d_rows_ahead
  b_rows_ahead : Binds K t.d_rows_ahead ["rooms", "room", "mark", "counts"] []
  g_rows_ahead : mg "rows_ahead" = some (.ref t.a_rows_ahead)
  k_rows_ahead : PySem.W.keepIn K (.ref t.a_rows_ahead) = true
  f_mark_at : FunX K "mark_at" "mark_at" s_mark_at t.a_mark_at t.d_mark_at
  b_mark_at : Binds K t.d_mark_at ["rooms", "room", "number", "counts"] []
  g_mark_at : mg "mark_at" = some (.ref t.a_mark_at)
  k_mark_at : PySem.W.keepIn K (.ref t.a_mark_at) = true
  f_is_mark : FunX K "is_mark" "is_mark" s_is_mark t.a_is_mark t.d_is_mark
  b_is_mark : Binds K t.d_is_mark ["marks", "text"] []
  g_is_mark : mg "is_mark" = some (.ref t.a_is_mark)
  k_is_mark : PySem.W.keepIn K (.ref t.a_is_mark) = true
  f_Rooms_led : FunX K "led" "Rooms.led" s_Rooms_led t.a_Rooms_led t.d_Rooms_led
  b_Rooms_led : Binds K t.d_Rooms_led ["self", "room", "mark"] []
  k_Rooms_led : PySem.W.keepIn K (.ref t.a_Rooms_led) = true
  f_row_at : FunX K "row_at" "row_at" s_row_at t.a_row_at t.d_row_at
  b_row_at : Binds K t.d_row_at ["rooms", "room", "length", "number"] []
  g_row_at : mg "row_at" = some (.ref t.a_row_at)
  k_row_at : PySem.W.keepIn K (.ref t.a_row_at) = true
  f_Rooms_init : FunX K "__init__" "Rooms.__init__" s_Rooms_init t.a_Rooms_init t.d_Rooms_init
  b_Rooms_init : Binds K t.d_Rooms_init ["self", "marks", "ways"] []
  k_Rooms_init : PySem.W.keepIn K (.ref t.a_Rooms_init) = true
  f_Rooms_walked : FunX K "walked" "Rooms.walked" s_Rooms_walked t.a_Rooms_walked t.d_Rooms_walked
  b_Rooms_walked : Binds K t.d_Rooms_walked ["self", "room", "row"] []
  k_Rooms_walked : PySem.W.keepIn K (.ref t.a_Rooms_walked) = true
  f__law_cell_at : FunX K "_law_cell_at" "_law_cell_at" s__law_cell_at t.a__law_cell_at t.d__law_cell_at
  b__law_cell_at : Binds K t.d__law_cell_at ["script", "k"] []
  g__law_cell_at : mg "_law_cell_at" = some (.ref t.a__law_cell_at)
  k__law_cell_at : PySem.W.keepIn K (.ref t.a__law_cell_at) = true
  f__law_folded : FunX K "_law_folded" "_law_folded" s__law_folded t.a__law_folded t.d__law_folded
  b__law_folded : Binds K t.d__law_folded ["script", "behind", "many"] []
  g__law_folded : mg "_law_folded" = some (.ref t.a__law_folded)
  k__law_folded : PySem.W.keepIn K (.ref t.a__law_folded) = true
  f__law_marks : FunX K "_law_marks" "_law_marks" s__law_marks t.a__law_marks t.d__law_marks
  b__law_marks : Binds K t.d__law_marks ["cell"] []
  g__law_marks : mg "_law_marks" = some (.ref t.a__law_marks)
  k__law_marks : PySem.W.keepIn K (.ref t.a__law_marks) = true
  f__law_led_to : FunX K "_law_led_to" "_law_led_to" s__law_led_to t.a__law_led_to t.d__law_led_to
  b__law_led_to : Binds K t.d__law_led_to ["ways", "cells"] []
  g__law_led_to : mg "_law_led_to" = some (.ref t.a__law_led_to)
  k__law_led_to : PySem.W.keepIn K (.ref t.a__law_led_to) = true
  f__law_ways : FunX K "_law_ways" "_law_ways" s__law_ways t.a__law_ways t.d__law_ways
  b__law_ways : Binds K t.d__law_ways ["cells", "many", "width"] []
  g__law_ways : mg "_law_ways" = some (.ref t.a__law_ways)
  k__law_ways : PySem.W.keepIn K (.ref t.a__law_ways) = true
  f__law_ahead : FunX K "_law_ahead" "_law_ahead" s__law_ahead t.a__law_ahead t.d__law_ahead
  b__law_ahead : Binds K t.d__law_ahead ["marks", "one", "other"] []
  g__law_ahead : mg "_law_ahead" = some (.ref t.a__law_ahead)
  k__law_ahead : PySem.W.keepIn K (.ref t.a__law_ahead) = true
  f__law_edge : FunX K "_law_edge" "_law_edge" s__law_edge t.a__law_edge t.d__law_edge
  b__law_edge : Binds K t.d__law_edge ["marks", "ways", "room", "length", "last"] []
  g__law_edge : mg "_law_edge" = some (.ref t.a__law_edge)
  k__law_edge : PySem.W.keepIn K (.ref t.a__law_edge) = true
  f__law_listed : FunX K "_law_listed" "_law_listed" s__law_listed t.a__law_listed t.d__law_listed
  b__law_listed : Binds K t.d__law_listed ["marks", "ways", "room", "length"] []
  g__law_listed : mg "_law_listed" = some (.ref t.a__law_listed)
  k__law_listed : PySem.W.keepIn K (.ref t.a__law_listed) = true
  f__law_number : FunX K "_law_number" "_law_number" s__law_number t.a__law_number t.d__law_number
  b__law_number : Binds K t.d__law_number ["script", "many", "add"] []
  g__law_number : mg "_law_number" = some (.ref t.a__law_number)
  k__law_number : PySem.W.keepIn K (.ref t.a__law_number) = true
  f_law : FunX K "law" "law" s_law t.a_law t.d_law
  b_law : Binds K t.d_law ["script"] []
  g_law : mg "law" = some (.ref t.a_law)
  k_law : PySem.W.keepIn K (.ref t.a_law) = true
  n_ValueError : mg "ValueError" = none
  n_len : mg "len" = none
  n_max : mg "max" = none
  n_min : mg "min" = none
  n_range : mg "range" = none
  n_sum : mg "sum" = none
  n_tuple : mg "tuple" = none
  g_Rooms : mg "Rooms" = some (.ref t.c_Rooms)
  cl_Rooms : Cls K t.c_Rooms
  ci_Rooms : ClsI K t.c_Rooms
  mk_Rooms : Mk K t.c_Rooms t.a_Rooms_init
  fl_marks : FldOk K ⟨t.c, K⟩ fc_marks "marks"
  fl_ways : FldOk K ⟨t.c, K⟩ fc_ways "ways"
  me_Rooms_led : Meth K t.c_Rooms (Str.ofString "led") t.a_Rooms_led
  me_Rooms_many : Meth K t.c_Rooms (Str.ofString "many") t.a_Rooms_many
end K21

namespace K21
open PySem PySem.Spec PyProof.Rows L2 DL
section
variable {P : Program} {w : World} {K : PySem.W.Frag} {mg : Str → Option Value} {base : Heap} {t : Adr}
theorem ok__wall (T : Txt K mg t) : FnOk P w K mg base CX0 1 t.a__wall t.d__wall ["k"] (spD ⟨t.c, K⟩ 1 m__wall) := by
  refine fn_DB (φ := f__wall) T.f__wall sc__wall (by conv => lhs; whnf) (by conv => lhs; whnf) (fun cdv A outer s H E hr => ?_) rfl rfl
  refine ⟨_, (pss_one ((ps_while PassesOwn.never (pt_val pe_bl) (pss_one ps_pass)))), [], ?_⟩
  unfold f__wall
  exact (vs_while (vt_b (ve_c (d := (.bl true)) (by rfl) (by rfl))) vs_next)
theorem ok_counts_longer (T : Txt K mg t) : FnOk P w K mg base CX0 1 t.a_counts_longer t.d_counts_longer ["rooms", "counts"] (spD ⟨t.c, K⟩ 2 m_counts_longer) := by
  refine fn_DB (φ := f_counts_longer) T.f_counts_longer sc_counts_longer (by conv => lhs; whnf) (by conv => lhs; whnf) (fun cdv A outer s H E hr => ?_) rfl rfl
  refine ⟨_, (pss_one (ps_ret (pe_comp (by rfl) (CompSc.mk' (tn := ["own"]) (cn := ["counts"]) (js := [1]) (osc := defScope s_counts_longer) (oN := ["rooms", "counts"]) (by rfl) (by rfl) (by rfl) (by decide +kernel)) (k_pi (K := K) (k_fld (K := K) (pv 0))) (fun C s₂ H₂ fp => pg_name (i := 0) (show List.Nodup (["own", "counts"] : List Str) by decide +kernel) (by rfl) (by first | exact Or.inl rfl | exact Or.inr rfl)) (fun C s₂ H₂ fp => pts_nil) (fun C s₂ H₂ fp => (pe_callB (k_sumL (K := K)) (by rfl) T.n_sum boot_sum (pa_cons (pe_comp (by rfl) (CompSc.mk5 (tn := ["to"]) (cn := ["counts"]) (js := [1]) (by rfl) (by decide +kernel)) (k_pi (K := K) (pv 0)) (fun C s₂ H₂ fp => pg_name (i := 0) (show List.Nodup (["to", "counts"] : List Str) by decide +kernel) (by rfl) (by first | exact Or.inl rfl | exact Or.inr rfl)) (fun C s₂ H₂ fp => (pts_one (pt_cmp (pc_notN (pv 0))))) (fun C s₂ H₂ fp => (pe_ix (k_ix (K := K)) (pv 1) (pv 0) (fun _ _ => rfl)))) pa_nil)))))), [], ?_⟩
  unfold f_counts_longer
  exact (vs_ret (VF.cl (vf_comp (by rfl) (vi_any (ve_fld T.fl_ways (ve_var 0 (by rfl)))) (vg_name 0 (by rfl) (by rfl)) vt_yes (ve_cb cb_sumL (va_cons (VF.cl (vf_comp (by rfl) (vi_any (ve_var 0 (by rfl))) (vg_name 0 (by rfl) (by rfl)) (vt_b (ve_notN (ve_var 0 (by rfl)))) (ve_op ok_ix (ve_var 1 (by rfl)) (ve_var 0 (by rfl))))) va_nil)))))
theorem ok_Rooms_many (T : Txt K mg t) : FnOk P w K mg base CX0 1 t.a_Rooms_many t.d_Rooms_many ["self"] (spD ⟨t.c, K⟩ 1 m_Rooms_many) := by
  refine fn_DB (φ := f_Rooms_many) T.f_Rooms_many sc_Rooms_many (by conv => lhs; whnf) (by conv => lhs; whnf) (fun cdv A outer s H E hr => ?_) rfl rfl
  refine ⟨_, (pss_one (ps_ret (pe_callB (k_len (K := K)) (by rfl) T.n_len boot_len (pa_cons (k_fld (K := K) (pv 0)) pa_nil)))), [], ?_⟩
  unfold f_Rooms_many
  exact (vs_ret (ve_cb cb_len (va_cons (ve_fld T.fl_ways (ve_var 0 (by rfl))) va_nil)))
theorem ok_counts_up_to (T : Txt K mg t) : FnOk P w K mg base CX0 2 t.a_counts_up_to t.d_counts_up_to ["rooms", "length"] (spD ⟨t.c, K⟩ 2 m_counts_up_to) := by
  have G_Rooms_many : FnOk P w K mg base CX0 1 t.a_Rooms_many t.d_Rooms_many ["self"] (spD ⟨t.c, K⟩ 1 m_Rooms_many) := (ok_Rooms_many T).mono (by decide)
  have G_counts_longer : FnOk P w K mg base CX0 1 t.a_counts_longer t.d_counts_longer ["rooms", "counts"] (spD ⟨t.c, K⟩ 2 m_counts_longer) := (ok_counts_longer T).mono (by decide)
  refine fn_DB (φ := f_counts_up_to) T.f_counts_up_to sc_counts_up_to (by conv => lhs; whnf) (by conv => lhs; whnf) (fun cdv A outer s H E hr => ?_) rfl rfl
  refine ⟨_, (pss_cons (ps_set (i := 2) (show List.Nodup (["rooms", "length", "counts", "place"] : List Str) by decide +kernel) (by rfl) (by first | exact Or.inl rfl | exact Or.inr rfl) (pe_lst (pa_cons (pe_op (k_mulZ (K := K)) (pe_lst (pa_cons pe_int pa_nil)) (pe_methP0 (cA := ⟨t.c, K⟩) (tab := tab_many) (m := "many") ⟨⟨t.a_Rooms_many, t.d_Rooms_many, ["self"], T.cl_Rooms, T.me_Rooms_many, G_Rooms_many, T.b_Rooms_many⟩, trivial⟩ hr (pv 0))) pa_nil)))
  (pss_cons ((ps_for PassesOwn.never (by rfl) (pi_range1 (by rfl) T.n_range (pa_cons (pv 1) pa_nil)) (pg_name (i := 3) (show List.Nodup (["rooms", "length", "counts", "place"] : List Str) by decide +kernel) (by rfl) (by first | exact Or.inl rfl | exact Or.inr rfl)) (pss_one (ps_expr (k_bm (K := K) PySem.F.plainAttrs_list PySem.F.slot_list_append PySem.F.type_list_append mt_append (pv 2) (pa_cons (pe_call (G_counts_longer) hr (by rfl) T.g_counts_longer T.k_counts_longer T.b_counts_longer .nil pass0 (pa_cons (pv 0) (pa_cons (pe_ix (k_ix (K := K)) (pv 2) (pv 3) (fun _ _ => rfl)) pa_nil))) pa_nil))))))
  (pss_one (ps_ret (pv 2))))), [], ?_⟩
  unfold f_counts_up_to
  exact (vs_seq (show VS _ _ [2] _ _ _ _ from (vs_asgO 2 (vf_lst (va_cons (VF.cl (vf_mul (VF.cl (vf_lst (va_cons (ve_c (d := (.int 1)) (by rfl) (by rfl)) va_nil))) (ve_meth (ve_var 0 (by rfl)) va_nil))) va_nil)) (by rfl) (by rfl) (by rfl) (by rfl)))
  (vs_seq (vs_for (vi_rng1 (va_cons (ve_var 1 (by rfl)) va_nil) len1) (vg_name 3 (by rfl) (by rfl)) (vs_app 2 (by rfl) (ve_call [] (by rfl) (va_cons (ve_var 0 (by rfl)) (va_cons (ve_op ok_ix (ve_own 2 (by rfl)) (ve_var 3 (by rfl))) va_nil)))))
  (VS.frz (ow1 := []) 2 (vs_ret (ve_var 2 (by rfl))) (by rfl) (by rfl) (by rfl) (by rfl))))
theorem ok_count (T : Txt K mg t) : FnOk P w K mg base CX0 3 t.a_count t.d_count ["rooms", "room", "length"] (spD ⟨t.c, K⟩ 3 m_count) := by
  have G_counts_up_to : FnOk P w K mg base CX0 2 t.a_counts_up_to t.d_counts_up_to ["rooms", "length"] (spD ⟨t.c, K⟩ 2 m_counts_up_to) := (ok_counts_up_to T).mono (by decide)
  refine fn_DB (φ := f_count) T.f_count sc_count (by conv => lhs; whnf) (by conv => lhs; whnf) (fun cdv A outer s H E hr => ?_) rfl rfl
  refine ⟨_, (pss_one (ps_ret (pe_ix (k_ix (K := K)) (pe_ix (k_ix (K := K)) (pe_call (G_counts_up_to) hr (by rfl) T.g_counts_up_to T.k_counts_up_to T.b_counts_up_to .nil pass0 (pa_cons (pv 0) (pa_cons (pv 2) pa_nil))) (pv 2) (fun _ _ => rfl)) (pv 1) (fun _ _ => rfl)))), [], ?_⟩
  unfold f_count
  exact (vs_ret (ve_op ok_ix (ve_op ok_ix (ve_call [] (by rfl) (va_cons (ve_var 0 (by rfl)) (va_cons (ve_var 2 (by rfl)) va_nil))) (ve_var 2 (by rfl))) (ve_var 1 (by rfl))))
theorem ok_rows_ahead (T : Txt K mg t) : FnOk P w K mg base CX0 1 t.a_rows_ahead t.d_rows_ahead ["rooms", "room", "mark", "counts"] (spD ⟨t.c, K⟩ 4 m_rows_ahead) := by
  refine fn_DB (φ := f_rows_ahead) T.f_rows_ahead sc_rows_ahead (by conv => lhs; whnf) (by conv => lhs; whnf) (fun cdv A outer s H E hr => ?_) rfl rfl
  refine ⟨_, (pss_cons (ps_set (i := 4) (show List.Nodup (["rooms", "room", "mark", "counts", "own"] : List Str) by decide +kernel) (by rfl) (by first | exact Or.inl rfl | exact Or.inr rfl) (pe_slice (k_sl (K := K)) (pe_ix (k_ix (K := K)) (k_fld (K := K) (pv 0)) (pv 1) (fun _ _ => rfl)) po_none (po_some (k_bm (K := K) PySem.F.plainAttrs_str PySem.F.slot_str_index PySem.F.type_str_index mt_index (k_fld (K := K) (pv 0)) (pa_cons (pv 2) pa_nil)))))
  (pss_one (ps_ret (pe_callB (k_sumL (K := K)) (by rfl) T.n_sum boot_sum (pa_cons (pe_comp (by rfl) (CompSc.mk' (tn := ["to"]) (cn := ["counts"]) (js := [3]) (osc := defScope s_rows_ahead) (oN := ["rooms", "room", "mark", "counts", "own"]) (by rfl) (by rfl) (by rfl) (by decide +kernel)) (k_pi (K := K) (pv 4)) (fun C s₂ H₂ fp => pg_name (i := 0) (show List.Nodup (["to", "counts"] : List Str) by decide +kernel) (by rfl) (by first | exact Or.inl rfl | exact Or.inr rfl)) (fun C s₂ H₂ fp => (pts_one (pt_cmp (pc_notN (pv 0))))) (fun C s₂ H₂ fp => (pe_ix (k_ix (K := K)) (pv 1) (pv 0) (fun _ _ => rfl)))) pa_nil))))), [], ?_⟩
  unfold f_rows_ahead
  exact (vs_seq (show VS _ _ [] _ _ _ _ from (vs_asg 4 (ve_sl (Or.inl rfl) (ve_op ok_ix (ve_fld T.fl_ways (ve_var 0 (by rfl))) (ve_var 1 (by rfl))) vo_none (vo_some (ve_bm bm_index (ve_fld T.fl_marks (ve_var 0 (by rfl))) (va_cons (ve_var 2 (by rfl)) va_nil)))) (by rfl) (by rfl) (by rfl) (by rfl)))
  (vs_ret (ve_cb cb_sumL (va_cons (VF.cl (vf_comp (by rfl) (vi_any (ve_var 4 (by rfl))) (vg_name 0 (by rfl) (by rfl)) (vt_b (ve_notN (ve_var 0 (by rfl)))) (ve_op ok_ix (ve_var 1 (by rfl)) (ve_var 0 (by rfl))))) va_nil))))
theorem ok_mark_at (T : Txt K mg t) : FnOk P w K mg base CX0 2 t.a_mark_at t.d_mark_at ["rooms", "room", "number", "counts"] (spD ⟨t.c, K⟩ 4 m_mark_at) := by
  have G_rows_ahead : FnOk P w K mg base CX0 1 t.a_rows_ahead t.d_rows_ahead ["rooms", "room", "mark", "counts"] (spD ⟨t.c, K⟩ 4 m_rows_ahead) := (ok_rows_ahead T).mono (by decide)
  refine fn_DB (φ := f_mark_at) T.f_mark_at sc_mark_at (by conv => lhs; whnf) (by conv => lhs; whnf) (fun cdv A outer s H E hr => ?_) rfl rfl
  refine ⟨_, (pss_one (ps_ret (pe_ix (k_ix (K := K)) (pe_comp (by rfl) (CompSc.mk' (tn := ["mark"]) (cn := ["rooms", "room", "counts", "number"]) (js := [0, 1, 3, 2]) (osc := defScope s_mark_at) (oN := ["rooms", "room", "number", "counts"]) (by rfl) (by rfl) (by rfl) (by decide +kernel)) (k_pi (K := K) (k_fld (K := K) (pv 0))) (fun C s₂ H₂ fp => pg_name (i := 0) (show List.Nodup (["mark", "rooms", "room", "counts", "number"] : List Str) by decide +kernel) (by rfl) (by first | exact Or.inl rfl | exact Or.inr rfl)) (fun C s₂ H₂ fp => (pts_one (pt_cmpR op_le (pe_call (G_rows_ahead) hr (by rfl) T.g_rows_ahead T.k_rows_ahead T.b_rows_ahead .nil pass0 (pa_cons (pv 1) (pa_cons (pv 2) (pa_cons (pv 0) (pa_cons (pv 3) pa_nil))))) (pv 4) (nomark _)))) (fun C s₂ H₂ fp => (pv 0))) (pe_un un_neg pe_int) (fun _ _ => rfl)))), [], ?_⟩
  unfold f_mark_at
  exact (vs_ret (ve_op ok_ix (VF.cl (vf_comp (by rfl) (vi_any (ve_fld T.fl_marks (ve_var 0 (by rfl)))) (vg_name 0 (by rfl) (by rfl)) (vt_t (ve_op ok_cmp (ve_call [] (by rfl) (va_cons (ve_var 1 (by rfl)) (va_cons (ve_var 2 (by rfl)) (va_cons (ve_var 0 (by rfl)) (va_cons (ve_var 3 (by rfl)) va_nil))))) (ve_var 4 (by rfl)))) (ve_var 0 (by rfl)))) (ve_neg (ve_c (d := (.int 1)) (by rfl) (by rfl)))))
theorem ok_is_mark (T : Txt K mg t) : FnOk P w K mg base CX0 1 t.a_is_mark t.d_is_mark ["marks", "text"] (spD ⟨t.c, K⟩ 2 m_is_mark) := by
  refine fn_DB (φ := f_is_mark) T.f_is_mark sc_is_mark (by conv => lhs; whnf) (by conv => lhs; whnf) (fun cdv A outer s H E hr => ?_) rfl rfl
  refine ⟨_, (pss_one (ps_ret (pe_and (pe_cmpR (op_eqD (cA := ⟨t.c, K⟩) (hr.units)) (pe_callB (k_len (K := K)) (by rfl) T.n_len boot_len (pa_cons (pv 1) pa_nil)) pe_int (nomark _)) (pe_one (pe_cmpR (k_inX (K := K)) (pv 1) (pv 0) (by rfl)))))), [], ?_⟩
  unfold f_is_mark
  exact (vs_ret (ve_and (ve_op ok_eq (ve_cb cb_len (va_cons (ve_var 1 (by rfl)) va_nil)) (ve_c (d := (.int 1)) (by rfl) (by rfl))) (ve_op ok_in (ve_var 1 (by rfl)) (ve_var 0 (by rfl)))))
theorem ok_Rooms_led (T : Txt K mg t) : FnOk P w K mg base CX0 2 t.a_Rooms_led t.d_Rooms_led ["self", "room", "mark"] (spD ⟨t.c, K⟩ 3 m_Rooms_led) := by
  have G_is_mark : FnOk P w K mg base CX0 1 t.a_is_mark t.d_is_mark ["marks", "text"] (spD ⟨t.c, K⟩ 2 m_is_mark) := (ok_is_mark T).mono (by decide)
  refine fn_DB (φ := f_Rooms_led) T.f_Rooms_led sc_Rooms_led (by conv => lhs; whnf) (by conv => lhs; whnf) (fun cdv A outer s H E hr => ?_) rfl rfl
  refine ⟨_, (pss_cons (ps_if (pt_not (pt_val (pe_call (G_is_mark) hr (by rfl) T.g_is_mark T.k_is_mark T.b_is_mark .nil pass0 (pa_cons (k_fld (K := K) (pv 0)) (pa_cons (pv 2) pa_nil))))) (pss_one ps_never) pss_nil)
  (pss_one (ps_ret (pe_ix (k_ix (K := K)) (pe_ix (k_ix (K := K)) (k_fld (K := K) (pv 0)) (pv 1) (fun _ _ => rfl)) (k_bm (K := K) PySem.F.plainAttrs_str PySem.F.slot_str_index PySem.F.type_str_index mt_index (k_fld (K := K) (pv 0)) (pa_cons (pv 2) pa_nil)) (fun _ _ => rfl))))), [], ?_⟩
  unfold f_Rooms_led
  exact (vs_seq (vs_if (vt_not (vt_b (ve_call [] (by rfl) (va_cons (ve_fld T.fl_marks (ve_var 0 (by rfl))) (va_cons (ve_var 2 (by rfl)) va_nil))))) vs_never vs_next)
  (vs_ret (ve_op ok_ix (ve_op ok_ix (ve_fld T.fl_ways (ve_var 0 (by rfl))) (ve_var 1 (by rfl))) (ve_bm bm_index (ve_fld T.fl_marks (ve_var 0 (by rfl))) (va_cons (ve_var 2 (by rfl)) va_nil)))))
theorem ok_row_at (T : Txt K mg t) : FnOk P w K mg base CX0 3 t.a_row_at t.d_row_at ["rooms", "room", "length", "number"] (spD ⟨t.c, K⟩ 4 m_row_at) := by
  have G_Rooms_led : FnOk P w K mg base CX0 2 t.a_Rooms_led t.d_Rooms_led ["self", "room", "mark"] (spD ⟨t.c, K⟩ 3 m_Rooms_led) := (ok_Rooms_led T).mono (by decide)
  have G_counts_up_to : FnOk P w K mg base CX0 2 t.a_counts_up_to t.d_counts_up_to ["rooms", "length"] (spD ⟨t.c, K⟩ 2 m_counts_up_to) := (ok_counts_up_to T).mono (by decide)
  have G_mark_at : FnOk P w K mg base CX0 2 t.a_mark_at t.d_mark_at ["rooms", "room", "number", "counts"] (spD ⟨t.c, K⟩ 4 m_mark_at) := (ok_mark_at T).mono (by decide)
  have G_rows_ahead : FnOk P w K mg base CX0 2 t.a_rows_ahead t.d_rows_ahead ["rooms", "room", "mark", "counts"] (spD ⟨t.c, K⟩ 4 m_rows_ahead) := (ok_rows_ahead T).mono (by decide)
  refine fn_DB (φ := f_row_at) T.f_row_at sc_row_at (by conv => lhs; whnf) (by conv => lhs; whnf) (fun cdv A outer s H E hr => ?_) rfl rfl
  refine ⟨_, (pss_cons (ps_set (i := 4) (show List.Nodup (["rooms", "room", "length", "number", "counts", "row", "rest", "mark"] : List Str) by decide +kernel) (by rfl) (by first | exact Or.inl rfl | exact Or.inr rfl) (pe_call (G_counts_up_to) hr (by rfl) T.g_counts_up_to T.k_counts_up_to T.b_counts_up_to .nil pass0 (pa_cons (pv 0) (pa_cons (pv 2) pa_nil))))
  (pss_cons (ps_if (PW.pt (pw_or (pt_cmpR op_lt (pv 3) pe_int (nomark _)) (pw_or1 (pt_cmpR op_ge (pv 3) (pe_ix (k_ix (K := K)) (pe_ix (k_ix (K := K)) (pv 4) (pv 2) (fun _ _ => rfl)) (pv 1) (fun _ _ => rfl)) (nomark _))))) (pss_one ps_never) pss_nil)
  (pss_cons (ps_set (i := 5) (show List.Nodup (["rooms", "room", "length", "number", "counts", "row", "rest", "mark"] : List Str) by decide +kernel) (by rfl) (by first | exact Or.inl rfl | exact Or.inr rfl) (pe_lst pa_nil))
  (pss_cons ((ps_for PassesOwn.never (by rfl) (pi_range3 (by rfl) T.n_range (pa_cons (pe_op op_sub (pv 2) pe_int) (pa_cons (pe_un un_neg pe_int) (pa_cons (pe_un un_neg pe_int) pa_nil)))) (pg_name (i := 6) (show List.Nodup (["rooms", "room", "length", "number", "counts", "row", "rest", "mark"] : List Str) by decide +kernel) (by rfl) (by first | exact Or.inl rfl | exact Or.inr rfl)) (pss_cons (ps_set (i := 7) (show List.Nodup (["rooms", "room", "length", "number", "counts", "row", "rest", "mark"] : List Str) by decide +kernel) (by rfl) (by first | exact Or.inl rfl | exact Or.inr rfl) (pe_call (G_mark_at) hr (by rfl) T.g_mark_at T.k_mark_at T.b_mark_at .nil pass0 (pa_cons (pv 0) (pa_cons (pv 1) (pa_cons (pv 3) (pa_cons (pe_ix (k_ix (K := K)) (pv 4) (pv 6) (fun _ _ => rfl)) pa_nil))))))
  (pss_cons (ps_set (i := 3) (show List.Nodup (["rooms", "room", "length", "number", "counts", "row", "rest", "mark"] : List Str) by decide +kernel) (by rfl) (by first | exact Or.inl rfl | exact Or.inr rfl) (pe_op op_sub (pv 3) (pe_call (G_rows_ahead) hr (by rfl) T.g_rows_ahead T.k_rows_ahead T.b_rows_ahead .nil pass0 (pa_cons (pv 0) (pa_cons (pv 1) (pa_cons (pv 7) (pa_cons (pe_ix (k_ix (K := K)) (pv 4) (pv 6) (fun _ _ => rfl)) pa_nil)))))))
  (pss_cons (ps_set (i := 1) (show List.Nodup (["rooms", "room", "length", "number", "counts", "row", "rest", "mark"] : List Str) by decide +kernel) (by rfl) (by first | exact Or.inl rfl | exact Or.inr rfl) (pe_methP (cA := ⟨t.c, K⟩) (tab := tab_led) (m := "led") ⟨⟨t.a_Rooms_led, t.d_Rooms_led, ["self", "room", "mark"], T.cl_Rooms, T.me_Rooms_led, G_Rooms_led, T.b_Rooms_led⟩, trivial⟩ hr (pv 0) (pa_cons (pv 1) (pa_cons (pv 7) pa_nil))))
  (pss_one (ps_expr (k_bm (K := K) PySem.F.plainAttrs_list PySem.F.slot_list_append PySem.F.type_list_append mt_append (pv 5) (pa_cons (pv 7) pa_nil)))))))))
  (pss_one (ps_ret (k_bm (K := K) PySem.F.plainAttrs_str PySem.F.slot_str_join PySem.F.type_str_join (mt_join (K := K)) (pe_lit [] (by decide +kernel)) (pa_cons (pv 5) pa_nil)))))))), [], ?_⟩
  unfold f_row_at
  exact (vs_seq (show VS _ _ [] _ _ _ _ from (vs_asg 4 (ve_call [] (by rfl) (va_cons (ve_var 0 (by rfl)) (va_cons (ve_var 2 (by rfl)) va_nil))) (by rfl) (by rfl) (by rfl) (by rfl)))
  (vs_seq (vs_if (vt_or (vt_t (ve_op ok_cmp (ve_var 3 (by rfl)) (ve_c (d := (.int 0)) (by rfl) (by rfl)))) (vt_t (ve_op ok_cmp (ve_var 3 (by rfl)) (ve_op ok_ix (ve_op ok_ix (ve_var 4 (by rfl)) (ve_var 2 (by rfl))) (ve_var 1 (by rfl)))))) vs_never vs_next)
  (vs_seq (show VS _ _ [5] _ _ _ _ from (vs_asgO 5 (vf_lst va_nil) (by rfl) (by rfl) (by rfl) (by rfl)))
  (vs_seq (vs_for (vi_rng3 (va_cons (ve_op ok_sub (ve_var 2 (by rfl)) (ve_c (d := (.int 1)) (by rfl) (by rfl))) (va_cons (ve_neg (ve_c (d := (.int 1)) (by rfl) (by rfl))) (va_cons (ve_neg (ve_c (d := (.int 1)) (by rfl) (by rfl))) va_nil))) len3) (vg_name 6 (by rfl) (by rfl)) (vs_seq (show VS _ _ [5] _ _ _ _ from (vs_asg 7 (ve_call [] (by rfl) (va_cons (ve_var 0 (by rfl)) (va_cons (ve_var 1 (by rfl)) (va_cons (ve_var 3 (by rfl)) (va_cons (ve_op ok_ix (ve_var 4 (by rfl)) (ve_var 6 (by rfl))) va_nil))))) (by rfl) (by rfl) (by rfl) (by rfl)))
  (vs_seq (show VS _ _ [5] _ _ _ _ from (vs_asg 3 (ve_op ok_sub (ve_var 3 (by rfl)) (ve_call [] (by rfl) (va_cons (ve_var 0 (by rfl)) (va_cons (ve_var 1 (by rfl)) (va_cons (ve_var 7 (by rfl)) (va_cons (ve_op ok_ix (ve_var 4 (by rfl)) (ve_var 6 (by rfl))) va_nil)))))) (by rfl) (by rfl) (by rfl) (by rfl)))
  (vs_seq (show VS _ _ [5] _ _ _ _ from (vs_asg 1 (ve_meth (ve_var 0 (by rfl)) (va_cons (ve_var 1 (by rfl)) (va_cons (ve_var 7 (by rfl)) va_nil))) (by rfl) (by rfl) (by rfl) (by rfl)))
  (vs_app 5 (by rfl) (ve_var 7 (by rfl)))))))
  (VS.frz (ow1 := []) 5 (vs_ret (ve_bm bm_join (ve_c (d := (.str [])) (by rfl) (by rfl)) (va_cons (ve_var 5 (by rfl)) va_nil))) (by rfl) (by rfl) (by rfl) (by rfl))))))
theorem ok_Rooms_init (T : Txt K mg t) : FnOk P w K mg base CX0 1 t.a_Rooms_init t.d_Rooms_init ["self", "marks", "ways"] (spI ⟨t.c, K⟩ 3 m_Rooms_init) := by
  refine fn_IB (φ := f_Rooms_init) T.f_Rooms_init sc_Rooms_init (by conv => lhs; whnf) (by conv => lhs; whnf) (fun cdv A outer s H E self hr => ?_) rfl rfl
  refine ⟨_, (pss_cons (ps_fld (pv 0) (pv 1) (by rfl))
  (pss_one (ps_fld (pv 0) (pe_callTy (k_tuple (K := K)) (by rfl) T.n_tuple boot_tuple (pa_cons (pe_comp (by rfl) (CompSc.mk' (tn := ["own"]) (cn := []) (js := []) (osc := defScope s_Rooms_init) (oN := ["self", "marks", "ways"]) (by rfl) (by rfl) (by rfl) (by decide +kernel)) (k_pi (K := K) (pv 2)) (fun C s₂ H₂ fp => pg_name (i := 0) (show List.Nodup (["own"] : List Str) by decide +kernel) (by rfl) (by first | exact Or.inl rfl | exact Or.inr rfl)) (fun C s₂ H₂ fp => pts_nil) (fun C s₂ H₂ fp => (pe_callTy (k_tuple (K := K)) (by rfl) T.n_tuple boot_tuple (pa_cons (pv 0) pa_nil)))) pa_nil)) (by rfl)))), ?_⟩
  unfold f_Rooms_init
  exact (vs_seq (vs_fld 0 (by rfl) T.fl_marks (ve_var 1 (by rfl)))
  (vs_fld 0 (by rfl) T.fl_ways (ve_tuple (va_cons (VF.cl (vf_comp (by rfl) (vi_any (ve_var 2 (by rfl))) (vg_name 0 (by rfl) (by rfl)) vt_yes (ve_tuple (va_cons (ve_var 0 (by rfl)) va_nil)))) va_nil))))
theorem ok_Rooms_walked (T : Txt K mg t) : FnOk P w K mg base CX0 2 t.a_Rooms_walked t.d_Rooms_walked ["self", "room", "row"] (spD ⟨t.c, K⟩ 3 m_Rooms_walked) := by
  have G__wall : FnOk P w K mg base CX0 1 t.a__wall t.d__wall ["k"] (spD ⟨t.c, K⟩ 1 m__wall) := (ok__wall T).mono (by decide)
  refine fn_DB (φ := f_Rooms_walked) T.f_Rooms_walked sc_Rooms_walked (by conv => lhs; whnf) (by conv => lhs; whnf) (fun cdv A outer s H E hr => ?_) rfl rfl
  refine ⟨_, (pss_one (ps_expr (pe_call (G__wall) hr (by rfl) T.g__wall T.k__wall T.b__wall .nil pass0 (pa_cons pe_int pa_nil)))), [], ?_⟩
  unfold f_Rooms_walked
  exact (vs_expr (ve_call [] (by rfl) (va_cons (ve_c (d := (.int 0)) (by rfl) (by rfl)) va_nil)))
theorem ok__law_cell_at (T : Txt K mg t) : FnOk P w K mg base CX0 1 t.a__law_cell_at t.d__law_cell_at ["script", "k"] (spD ⟨t.c, K⟩ 2 m__law_cell_at) := by
  refine fn_DB (φ := f__law_cell_at) T.f__law_cell_at sc__law_cell_at (by conv => lhs; whnf) (by conv => lhs; whnf) (fun cdv A outer s H E hr => ?_) rfl rfl
  refine ⟨_, (pss_cons (ps_if (pt_cmpR op_lt (pv 1) (pe_callB (k_len (K := K)) (by rfl) T.n_len boot_len (pa_cons (pv 0) pa_nil)) (nomark _)) (pss_one (ps_ret (pe_ix (k_ix (K := K)) (pv 0) (pv 1) (fun _ _ => rfl)))) pss_nil)
  (pss_one (ps_ret pe_int))), [], ?_⟩
  unfold f__law_cell_at
  exact (vs_seq (vs_if (vt_t (ve_op ok_cmp (ve_var 1 (by rfl)) (ve_cb cb_len (va_cons (ve_var 0 (by rfl)) va_nil)))) (vs_ret (ve_op ok_ix (ve_var 0 (by rfl)) (ve_var 1 (by rfl)))) vs_next)
  (vs_ret (ve_c (d := (.int 0)) (by rfl) (by rfl))))
theorem ok__law_folded (T : Txt K mg t) : FnOk P w K mg base CX0 1 t.a__law_folded t.d__law_folded ["script", "behind", "many"] (spD ⟨t.c, K⟩ 3 m__law_folded) := by
  refine fn_DB (φ := f__law_folded) T.f__law_folded sc__law_folded (by conv => lhs; whnf) (by conv => lhs; whnf) (fun cdv A outer s H E hr => ?_) rfl rfl
  refine ⟨_, (pss_cons (ps_setC (i := 3) (show List.Nodup (["script", "behind", "many", "found", "k", "at"] : List Str) by decide +kernel) (by rfl) (by rfl) (by rfl) (CompSc.mk' (tn := ["k"]) (cn := []) (js := []) (osc := defScope s__law_folded) (oN := ["script", "behind", "many", "found", "k", "at"]) (by rfl) (by rfl) (by rfl) (by decide +kernel)) (pi_range1 (by rfl) T.n_range (pa_cons (pv 2) pa_nil)) (fun C s₂ H₂ fp => pg_name (i := 0) (show List.Nodup (["k"] : List Str) by decide +kernel) (by rfl) (by first | exact Or.inl rfl | exact Or.inr rfl)) (fun C s₂ H₂ fp => pts_nil) (fun C s₂ H₂ fp => (pe_op (k_addZ (K := K)) (pe_op (k_mulZ (K := K)) (pv 0) (pv 0)) (pv 0))))
  (pss_cons ((ps_for PassesOwn.never (by rfl) (pi_range2 (by rfl) T.n_range (pa_cons (pv 1) (pa_cons (pe_callB (k_len (K := K)) (by rfl) T.n_len boot_len (pa_cons (pv 0) pa_nil)) pa_nil))) (pg_name (i := 4) (show List.Nodup (["script", "behind", "many", "found", "k", "at"] : List Str) by decide +kernel) (by rfl) (by first | exact Or.inl rfl | exact Or.inr rfl)) (pss_cons (ps_set (i := 5) (show List.Nodup (["script", "behind", "many", "found", "k", "at"] : List Str) by decide +kernel) (by rfl) (by first | exact Or.inl rfl | exact Or.inr rfl) (pe_op op_modN (pe_op op_sub (pv 4) (pv 1)) (pv 2)))
  (pss_one (ps_asg (pe_op op_modN (pe_op (k_addZ (K := K)) (pe_op (k_mulZ (K := K)) (pe_ix (k_ix (K := K)) (pv 3) (pv 5) (fun _ _ => rfl)) pe_int) (pe_ix (k_ix (K := K)) (pv 0) (pv 4) (fun _ _ => rfl))) pe_int) (pg_sub (pv 3) (pv 5) set_list))))))
  (pss_one (ps_ret (pv 3))))), [], ?_⟩
  unfold f__law_folded
  exact (vs_seq (show VS _ _ [3] _ _ _ _ from (vs_asgO 3 (vf_comp (by rfl) (vi_rng1 (va_cons (ve_var 2 (by rfl)) va_nil) len1) (vg_name 0 (by rfl) (by rfl)) vt_yes (ve_op ok_addX (ve_op ok_mulX (ve_var 0 (by rfl)) (ve_var 0 (by rfl))) (ve_var 0 (by rfl)))) (by rfl) (by rfl) (by rfl) (by rfl)))
  (vs_seq (vs_for (vi_rng2 (va_cons (ve_var 1 (by rfl)) (va_cons (ve_cb cb_len (va_cons (ve_var 0 (by rfl)) va_nil)) va_nil)) len2) (vg_name 4 (by rfl) (by rfl)) (vs_seq (show VS _ _ [3] _ _ _ _ from (vs_asg 5 (ve_op ok_modW (ve_op ok_sub (ve_var 4 (by rfl)) (ve_var 1 (by rfl))) (ve_var 2 (by rfl))) (by rfl) (by rfl) (by rfl) (by rfl)))
  (vs_setI 3 (by rfl) (ve_op ok_modW (ve_op ok_addX (ve_op ok_mulX (ve_op ok_ix (ve_own 3 (by rfl)) (ve_var 5 (by rfl))) (ve_c (d := (.int 31)) (by rfl) (by rfl))) (ve_op ok_ix (ve_var 0 (by rfl)) (ve_var 4 (by rfl)))) (ve_c (d := (.int 1000000000039)) (by rfl) (by rfl))) (ve_var 5 (by rfl)))))
  (VS.frz (ow1 := []) 3 (vs_ret (ve_var 3 (by rfl))) (by rfl) (by rfl) (by rfl) (by rfl))))
theorem ok__law_marks (T : Txt K mg t) : FnOk P w K mg base CX0 1 t.a__law_marks t.d__law_marks ["cell"] (spD ⟨t.c, K⟩ 1 m__law_marks) := by
  refine fn_DB (φ := f__law_marks) T.f__law_marks sc__law_marks (by conv => lhs; whnf) (by conv => lhs; whnf) (fun cdv A outer s H E hr => ?_) rfl rfl
  refine ⟨_, (pss_cons (ps_set (i := 1) (show List.Nodup (["cell", "some"] : List Str) by decide +kernel) (by rfl) (by first | exact Or.inl rfl | exact Or.inr rfl) (pe_lit [97, 98, 99, 100, 101, 102, 103, 104, 105, 106, 107, 108, 109, 110, 111, 112, 113, 114, 115, 116, 117, 118, 119, 120, 121, 122, 48, 49, 50, 51, 52, 53, 54, 55, 56, 57] (by decide +kernel)))
  (pss_one (ps_ret (k_bm (K := K) PySem.F.plainAttrs_str PySem.F.slot_str_join PySem.F.type_str_join (mt_join (K := K)) (pe_lit [] (by decide +kernel)) (pa_cons (pe_comp (by rfl) (CompSc.mk' (tn := ["k"]) (cn := ["some", "cell"]) (js := [1, 0]) (osc := defScope s__law_marks) (oN := ["cell", "some"]) (by rfl) (by rfl) (by rfl) (by decide +kernel)) (pi_range1 (by rfl) T.n_range (pa_cons (pe_op (k_addZ (K := K)) pe_int (pe_op op_modN (pv 0) pe_int)) pa_nil)) (fun C s₂ H₂ fp => pg_name (i := 0) (show List.Nodup (["k", "some", "cell"] : List Str) by decide +kernel) (by rfl) (by first | exact Or.inl rfl | exact Or.inr rfl)) (fun C s₂ H₂ fp => pts_nil) (fun C s₂ H₂ fp => (pe_ix (k_ix (K := K)) (pv 1) (pe_op op_modN (pe_op (k_addZ (K := K)) (pe_op op_fdivW (pv 2) pe_int) (pe_op (k_mulZ (K := K)) pe_int (pv 0))) (pe_callB (k_len (K := K)) (by rfl) T.n_len boot_len (pa_cons (pv 1) pa_nil))) (fun _ _ => rfl)))) pa_nil))))), [], ?_⟩
  unfold f__law_marks
  exact (vs_seq (show VS _ _ [] _ _ _ _ from (vs_asg 1 (ve_c (d := (.str [97, 98, 99, 100, 101, 102, 103, 104, 105, 106, 107, 108, 109, 110, 111, 112, 113, 114, 115, 116, 117, 118, 119, 120, 121, 122, 48, 49, 50, 51, 52, 53, 54, 55, 56, 57])) (by rfl) (by rfl)) (by rfl) (by rfl) (by rfl) (by rfl)))
  (vs_ret (ve_bm bm_join (ve_c (d := (.str [])) (by rfl) (by rfl)) (va_cons (VF.cl (vf_comp (by rfl) (vi_rng1 (va_cons (ve_op ok_addX (ve_c (d := (.int 2)) (by rfl) (by rfl)) (ve_op ok_modW (ve_var 0 (by rfl)) (ve_c (d := (.int 3)) (by rfl) (by rfl)))) va_nil) len1) (vg_name 0 (by rfl) (by rfl)) vt_yes (ve_op ok_ix (ve_var 1 (by rfl)) (ve_op ok_modW (ve_op ok_addX (ve_op ok_fdivW (ve_var 2 (by rfl)) (ve_c (d := (.int 3)) (by rfl) (by rfl))) (ve_op ok_mulX (ve_c (d := (.int 5)) (by rfl) (by rfl)) (ve_var 0 (by rfl)))) (ve_cb cb_len (va_cons (ve_var 1 (by rfl)) va_nil)))))) va_nil))))
theorem ok__law_led_to (T : Txt K mg t) : FnOk P w K mg base CX0 1 t.a__law_led_to t.d__law_led_to ["ways", "cells"] (spU ⟨t.c, K⟩ 2 m__law_led_to) := by
  refine fn_UB (φ := f__law_led_to) T.f__law_led_to sc__law_led_to (by conv => lhs; whnf) (by conv => lhs; whnf) (fun cdv A outer s H E a0 hr => ?_) rfl rfl
  refine ⟨_, (pss_cons (ps_set (i := 2) (show List.Nodup (["ways", "cells", "taken", "room", "spot", "step", "number"] : List Str) by decide +kernel) (by rfl) (by first | exact Or.inl rfl | exact Or.inr rfl) pe_dnewK)
  (pss_one (ps_for PassesOwn.never (by rfl) (pi_range2 (by rfl) T.n_range (pa_cons pe_int (pa_cons (pe_callB (k_len (K := K)) (by rfl) T.n_len boot_len (pa_cons (pv 0) pa_nil)) pa_nil))) (pg_name (i := 3) (show List.Nodup (["ways", "cells", "taken", "room", "spot", "step", "number"] : List Str) by decide +kernel) (by rfl) (by first | exact Or.inl rfl | exact Or.inr rfl)) (pss_cons (ps_set (i := 4) (show List.Nodup (["ways", "cells", "taken", "room", "spot", "step", "number"] : List Str) by decide +kernel) (by rfl) (by first | exact Or.inl rfl | exact Or.inr rfl) pe_non)
  (pss_cons (ps_for PassesOwn.never (by rfl) (pi_range1 (by rfl) T.n_range (pa_cons (pe_op (k_mulZ (K := K)) (pv 3) (pe_callB (k_len (K := K)) (by rfl) T.n_len boot_len (pa_cons (pe_ix (k_ix (K := K)) (pv 0) pe_int (fun _ _ => rfl)) pa_nil))) pa_nil)) (pg_name (i := 5) (show List.Nodup (["ways", "cells", "taken", "room", "spot", "step", "number"] : List Str) by decide +kernel) (by rfl) (by first | exact Or.inl rfl | exact Or.inr rfl)) (pss_cons (ps_set (i := 6) (show List.Nodup (["ways", "cells", "taken", "room", "spot", "step", "number"] : List Str) by decide +kernel) (by rfl) (by first | exact Or.inl rfl | exact Or.inr rfl) (pe_op op_modN (pe_op (k_addZ (K := K)) (pe_ix (k_ix (K := K)) (pv 1) (pe_op (k_addZ (K := K)) pe_int (pv 3)) (fun _ _ => rfl)) (pv 5)) (pe_op (k_mulZ (K := K)) (pv 3) (pe_callB (k_len (K := K)) (by rfl) T.n_len boot_len (pa_cons (pe_ix (k_ix (K := K)) (pv 0) pe_int (fun _ _ => rfl)) pa_nil)))))
  (pss_one (ps_if (PW.pt (pw_and (pt_cmp (pc_isN (pv 4))) (pw_and1 (pt_cmp (pc_dnotin (units1 hr.units) (pv 6) (pv 2)))))) (pss_one (ps_set (i := 4) (show List.Nodup (["ways", "cells", "taken", "room", "spot", "step", "number"] : List Str) by decide +kernel) (by rfl) (by first | exact Or.inl rfl | exact Or.inr rfl) (pv 6))) pss_nil))))
  (pss_cons (ps_dput (units1 hr.units) (pv 2) (pv 4) pe_bl (by rfl))
  (pss_one (ps_asg (pv 3) (pg_sub (pe_ix (k_ix (K := K)) (pv 0) (pe_op op_fdivW (pv 4) (pe_callB (k_len (K := K)) (by rfl) T.n_len boot_len (pa_cons (pe_ix (k_ix (K := K)) (pv 0) pe_int (fun _ _ => rfl)) pa_nil))) (fun _ _ => rfl)) (pe_op op_modN (pv 4) (pe_callB (k_len (K := K)) (by rfl) T.n_len boot_len (pa_cons (pe_ix (k_ix (K := K)) (pv 0) pe_int (fun _ _ => rfl)) pa_nil))) set_list))))))))), [2], ?_⟩
  unfold f__law_led_to
  exact (vm_seq (show VM _ _ [2] _ _ _ _ _ from vm_hide (fun _ => (show VS _ _ [2] _ _ _ _ from vs_asgD 2 vfd_new (by rfl) (by rfl) (by rfl) (by rfl))) (by rfl))
  (vm_for 3 (by decide) (by rfl) (by rfl) (vir_rng2 (va_cons (ve_c (d := (.int 1)) (by rfl) (by rfl)) (va_cons (ve_cb cb_len (va_cons (ve_var 0 (by rfl)) va_nil)) va_nil)) len2) (vm_seq (show VM _ _ [2] _ _ _ _ _ from vm_hide (fun _ => (show VS _ _ [2] _ _ _ _ from (vs_asg 4 (ve_c (d := .non) (by rfl) (by rfl)) (by rfl) (by rfl) (by rfl) (by rfl)))) (by rfl))
  (vm_seq (vm_for 5 (by decide) (by rfl) (by rfl) (vir_rng1 (va_cons (ve_op ok_mulX (ve_var 3 (by rfl)) (ve_cb cb_len (va_cons (ve_op ok_ix (ve_var 0 (by rfl)) (ve_c (d := (.int 0)) (by rfl) (by rfl))) va_nil))) va_nil) len1) (vm_seq (show VM _ _ [2] _ _ _ _ _ from vm_asg 6 (by decide) (ve_op ok_modW (ve_op ok_addX (ve_op ok_ix (ve_var 1 (by rfl)) (ve_op ok_addX (ve_c (d := (.int 24)) (by rfl) (by rfl)) (ve_var 3 (by rfl)))) (ve_var 5 (by rfl))) (ve_op ok_mulX (ve_var 3 (by rfl)) (ve_cb cb_len (va_cons (ve_op ok_ix (ve_var 0 (by rfl)) (ve_c (d := (.int 0)) (by rfl) (by rfl))) va_nil)))) (by rfl) (by rfl) (by rfl) (by rfl))
  (vm_if (vt_and (vt_b (ve_isN (ve_var 4 (by rfl)))) (vt_b (ve_dnotin (ve_var 6 (by rfl)) (ve_own 2 (by rfl))))) (show VM _ _ [2] _ _ _ _ _ from vm_hide (fun _ => (show VS _ _ [2] _ _ _ _ from (vs_asg 4 (ve_var 6 (by rfl)) (by rfl) (by rfl) (by rfl) (by rfl)))) (by rfl)) vm_next)))
  (vm_seq (show VM _ _ [2] _ _ _ _ _ from vm_hide (fun _ => (vs_dput 2 (by rfl) (ve_c (d := (.bl true)) (by rfl) (by rfl)) (ve_var 4 (by rfl)))) (by rfl))
  (vm_set2 (ve_var 3 (by rfl)) (ve_op ok_fdivW (ve_var 4 (by rfl)) (ve_cb cb_len (va_cons (ve_op ok_ix (ve_var 0 (by rfl)) (ve_c (d := (.int 0)) (by rfl) (by rfl))) va_nil))) (ve_op ok_modW (ve_var 4 (by rfl)) (ve_cb cb_len (va_cons (ve_op ok_ix (ve_var 0 (by rfl)) (ve_c (d := (.int 0)) (by rfl) (by rfl))) va_nil)))))))))
theorem ok__law_ways (T : Txt K mg t) : FnOk P w K mg base CX0 2 t.a__law_ways t.d__law_ways ["cells", "many", "width"] (spD ⟨t.c, K⟩ 3 m__law_ways) := by
  have G__law_led_to : FnOk P w K mg base CX0 1 t.a__law_led_to t.d__law_led_to ["ways", "cells"] (spU ⟨t.c, K⟩ 2 m__law_led_to) := (ok__law_led_to T).mono (by decide)
  refine fn_DB (φ := f__law_ways) T.f__law_ways sc__law_ways (by conv => lhs; whnf) (by conv => lhs; whnf) (fun cdv A outer s H E hr => ?_) rfl rfl
  refine ⟨_, (pss_cons (ps_set (i := 3) (show List.Nodup (["cells", "many", "width", "ways", "room", "row", "k", "cell"] : List Str) by decide +kernel) (by rfl) (by first | exact Or.inl rfl | exact Or.inr rfl) (pe_lst pa_nil))
  (pss_cons (ps_for PassesOwn.never (by rfl) (pi_range1 (by rfl) T.n_range (pa_cons (pv 1) pa_nil)) (pg_name (i := 4) (show List.Nodup (["cells", "many", "width", "ways", "room", "row", "k", "cell"] : List Str) by decide +kernel) (by rfl) (by first | exact Or.inl rfl | exact Or.inr rfl)) (pss_cons (ps_set (i := 5) (show List.Nodup (["cells", "many", "width", "ways", "room", "row", "k", "cell"] : List Str) by decide +kernel) (by rfl) (by first | exact Or.inl rfl | exact Or.inr rfl) (pe_lst pa_nil))
  (pss_cons ((ps_for PassesOwn.never (by rfl) (pi_range1 (by rfl) T.n_range (pa_cons (pv 2) pa_nil)) (pg_name (i := 6) (show List.Nodup (["cells", "many", "width", "ways", "room", "row", "k", "cell"] : List Str) by decide +kernel) (by rfl) (by first | exact Or.inl rfl | exact Or.inr rfl)) (pss_cons (ps_set (i := 7) (show List.Nodup (["cells", "many", "width", "ways", "room", "row", "k", "cell"] : List Str) by decide +kernel) (by rfl) (by first | exact Or.inl rfl | exact Or.inr rfl) (pe_ix (k_ix (K := K)) (pv 0) (pe_op (k_addZ (K := K)) (pe_op (k_mulZ (K := K)) (pv 4) (pv 2)) (pv 6)) (fun _ _ => rfl)))
  (pss_one (ps_expr (k_bm (K := K) PySem.F.plainAttrs_list PySem.F.slot_list_append PySem.F.type_list_append mt_append (pv 5) (pa_cons (pe_ix (k_ix (K := K)) (pe_lst (pa_cons pe_non (pa_cons (pe_op op_modN (pe_op op_fdivW (pv 7) pe_int) (pv 1)) (pa_cons (pe_op op_modN (pe_op op_fdivW (pv 7) pe_int) (pv 1)) pa_nil)))) (pe_op op_modN (pv 7) pe_int) (fun _ _ => rfl)) pa_nil)))))))
  (pss_one (ps_expr (k_bm (K := K) PySem.F.plainAttrs_list PySem.F.slot_list_append PySem.F.type_list_append mt_append (pv 3) (pa_cons (pv 5) pa_nil)))))))
  (pss_cons (ps_expr (pe_call (G__law_led_to) hr (by rfl) T.g__law_led_to T.k__law_led_to T.b__law_led_to .nil pass0 (pa_cons (pv 3) (pa_cons (pv 0) pa_nil))))
  (pss_cons (ps_for PassesOwn.never (by rfl) (pi_range1 (by rfl) T.n_range (pa_cons (pv 1) pa_nil)) (pg_name (i := 4) (show List.Nodup (["cells", "many", "width", "ways", "room", "row", "k", "cell"] : List Str) by decide +kernel) (by rfl) (by first | exact Or.inl rfl | exact Or.inr rfl)) (pss_one (ps_if (pt_cmpR (op_eqD (cA := ⟨t.c, K⟩) (hr.units)) (pe_callB (k_len (K := K)) (by rfl) T.n_len boot_len (pa_cons (pe_comp (by rfl) (CompSc.mk' (tn := ["there"]) (cn := []) (js := []) (osc := defScope s__law_ways) (oN := ["cells", "many", "width", "ways", "room", "row", "k", "cell"]) (by rfl) (by rfl) (by rfl) (by decide +kernel)) (k_pi (K := K) (pe_ix (k_ix (K := K)) (pv 3) (pv 4) (fun _ _ => rfl))) (fun C s₂ H₂ fp => pg_name (i := 0) (show List.Nodup (["there"] : List Str) by decide +kernel) (by rfl) (by first | exact Or.inl rfl | exact Or.inr rfl)) (fun C s₂ H₂ fp => (pts_one (pt_cmp (pc_notN (pv 0))))) (fun C s₂ H₂ fp => (pv 0))) pa_nil)) pe_int (nomark _)) (pss_one (ps_asg (pe_op op_modN (pe_op op_fdivW (pe_ix (k_ix (K := K)) (pv 0) (pv 4) (fun _ _ => rfl)) pe_int) (pv 1)) (pg_sub (pe_ix (k_ix (K := K)) (pv 3) (pv 4) (fun _ _ => rfl)) (pe_op op_modN (pe_op op_fdivW (pe_ix (k_ix (K := K)) (pv 0) (pv 4) (fun _ _ => rfl)) pe_int) (pv 2)) set_list))) pss_nil)))
  (pss_one (ps_ret (pe_callTy (k_tuple (K := K)) (by rfl) T.n_tuple boot_tuple (pa_cons (pe_comp (by rfl) (CompSc.mk' (tn := ["row"]) (cn := []) (js := []) (osc := defScope s__law_ways) (oN := ["cells", "many", "width", "ways", "room", "row", "k", "cell"]) (by rfl) (by rfl) (by rfl) (by decide +kernel)) (k_pi (K := K) (pv 3)) (fun C s₂ H₂ fp => pg_name (i := 0) (show List.Nodup (["row"] : List Str) by decide +kernel) (by rfl) (by first | exact Or.inl rfl | exact Or.inr rfl)) (fun C s₂ H₂ fp => pts_nil) (fun C s₂ H₂ fp => (pe_callTy (k_tuple (K := K)) (by rfl) T.n_tuple boot_tuple (pa_cons (pv 0) pa_nil)))) pa_nil)))))))), [], ?_⟩
  unfold f__law_ways
  exact (vs_mat 3 (by rfl) (by rfl) vfm_nil
  (vm_seq (vm_for 4 (by decide) (by rfl) (by rfl) (vir_rng1 (va_cons (ve_var 1 (by rfl)) va_nil) len1) (vm_seq (show VM _ _ [5] _ _ _ _ _ from vm_hide (fun _ => (show VS _ _ [5] _ _ _ _ from (vs_asgO 5 (vf_lst va_nil) (by rfl) (by rfl) (by rfl) (by rfl)))) (by rfl))
  (vm_seq (show VM _ _ [5] _ _ _ _ _ from vm_hide (fun _ => (vs_for (vi_rng1 (va_cons (ve_var 2 (by rfl)) va_nil) len1) (vg_name 6 (by rfl) (by rfl)) (vs_seq (show VS _ _ [5] _ _ _ _ from (vs_asg 7 (ve_op ok_ix (ve_var 0 (by rfl)) (ve_op ok_addX (ve_op ok_mulX (ve_var 4 (by rfl)) (ve_var 2 (by rfl))) (ve_var 6 (by rfl)))) (by rfl) (by rfl) (by rfl) (by rfl)))
  (vs_app 5 (by rfl) (ve_op ok_ix (VF.cl (vf_lst (va_cons (ve_c (d := .non) (by rfl) (by rfl)) (va_cons (ve_op ok_modW (ve_op ok_fdivW (ve_var 7 (by rfl)) (ve_c (d := (.int 3)) (by rfl) (by rfl))) (ve_var 1 (by rfl))) (va_cons (ve_op ok_modW (ve_op ok_fdivW (ve_var 7 (by rfl)) (ve_c (d := (.int 3)) (by rfl) (by rfl))) (ve_var 1 (by rfl))) va_nil))))) (ve_op ok_modW (ve_var 7 (by rfl)) (ve_c (d := (.int 3)) (by rfl) (by rfl)))))))) (by rfl))
  (show VM _ _ [] _ _ _ _ _ from vm_push 5 (by decide) (by rfl) (by rfl) (by rfl) (by rfl) (by rfl)))))
  (vm_seq (vm_callU (fun _ => (va_cons (ve_var 0 (by rfl)) va_nil)))
  (vm_seq (vm_for 4 (by decide) (by rfl) (by rfl) (vir_rng1 (va_cons (ve_var 1 (by rfl)) va_nil) len1) (vm_if (vt_t (ve_op ok_eq (ve_cb cb_len (va_cons (VF.cl (vf_comp (by rfl) (vi_any (ve_op ok_ix (ve_var 3 (by rfl)) (ve_var 4 (by rfl)))) (vg_name 0 (by rfl) (by rfl)) (vt_b (ve_notN (ve_var 0 (by rfl)))) (ve_var 0 (by rfl)))) va_nil)) (ve_c (d := (.int 0)) (by rfl) (by rfl)))) (vm_set2 (ve_op ok_modW (ve_op ok_fdivW (ve_op ok_ix (ve_var 0 (by rfl)) (ve_var 4 (by rfl))) (ve_c (d := (.int 35)) (by rfl) (by rfl))) (ve_var 1 (by rfl))) (ve_var 4 (by rfl)) (ve_op ok_modW (ve_op ok_fdivW (ve_op ok_ix (ve_var 0 (by rfl)) (ve_var 4 (by rfl))) (ve_c (d := (.int 7)) (by rfl) (by rfl))) (ve_var 2 (by rfl)))) vm_next))
  (vm_ret (ve_tuple (va_cons (VF.cl (vf_comp (by rfl) (vi_any (ve_var 3 (by rfl))) (vg_name 0 (by rfl) (by rfl)) vt_yes (ve_tuple (va_cons (ve_var 0 (by rfl)) va_nil)))) va_nil)))))))
theorem ok__law_ahead (T : Txt K mg t) : FnOk P w K mg base CX0 1 t.a__law_ahead t.d__law_ahead ["marks", "one", "other"] (spD ⟨t.c, K⟩ 3 m__law_ahead) := by
  refine fn_DB (φ := f__law_ahead) T.f__law_ahead sc__law_ahead (by conv => lhs; whnf) (by conv => lhs; whnf) (fun cdv A outer s H E hr => ?_) rfl rfl
  refine ⟨_, (pss_cons ((ps_for PassesOwn.never (by rfl) (pi_range1 (by rfl) T.n_range (pa_cons (pe_callB (k_len (K := K)) (by rfl) T.n_len boot_len (pa_cons (pv 1) pa_nil)) pa_nil)) (pg_name (i := 3) (show List.Nodup (["marks", "one", "other", "k"] : List Str) by decide +kernel) (by rfl) (by first | exact Or.inl rfl | exact Or.inr rfl)) (pss_one (ps_if (pt_cmpR (op_neD (cA := ⟨t.c, K⟩) (hr.units)) (pe_ix (k_ix (K := K)) (pv 1) (pv 3) (fun _ _ => rfl)) (pe_ix (k_ix (K := K)) (pv 2) (pv 3) (fun _ _ => rfl)) (nomark _)) (pss_one (ps_ret (pe_cmpR op_lt (k_bm (K := K) PySem.F.plainAttrs_str PySem.F.slot_str_index PySem.F.type_str_index mt_index (pv 0) (pa_cons (pe_ix (k_ix (K := K)) (pv 1) (pv 3) (fun _ _ => rfl)) pa_nil)) (k_bm (K := K) PySem.F.plainAttrs_str PySem.F.slot_str_index PySem.F.type_str_index mt_index (pv 0) (pa_cons (pe_ix (k_ix (K := K)) (pv 2) (pv 3) (fun _ _ => rfl)) pa_nil)) (nomark _)))) pss_nil))))
  (pss_one (ps_ret pe_bl))), [], ?_⟩
  unfold f__law_ahead
  exact (vs_seq (vs_for (vi_rng1 (va_cons (ve_cb cb_len (va_cons (ve_var 1 (by rfl)) va_nil)) va_nil) len1) (vg_name 3 (by rfl) (by rfl)) (vs_if (vt_t (ve_op ok_ne (ve_op ok_ix (ve_var 1 (by rfl)) (ve_var 3 (by rfl))) (ve_op ok_ix (ve_var 2 (by rfl)) (ve_var 3 (by rfl))))) (vs_ret (ve_op ok_cmp (ve_bm bm_index (ve_var 0 (by rfl)) (va_cons (ve_op ok_ix (ve_var 1 (by rfl)) (ve_var 3 (by rfl))) va_nil)) (ve_bm bm_index (ve_var 0 (by rfl)) (va_cons (ve_op ok_ix (ve_var 2 (by rfl)) (ve_var 3 (by rfl))) va_nil)))) vs_next))
  (vs_ret (ve_c (d := (.bl false)) (by rfl) (by rfl))))
theorem ok__law_edge (T : Txt K mg t) : FnOk P w K mg base CX0 1 t.a__law_edge t.d__law_edge ["marks", "ways", "room", "length", "last"] (spD ⟨t.c, K⟩ 5 m__law_edge) := by
  refine fn_DB (φ := f__law_edge) T.f__law_edge sc__law_edge (by conv => lhs; whnf) (by conv => lhs; whnf) (fun cdv A outer s H E hr => ?_) rfl rfl
  refine ⟨_, (pss_cons (ps_set (i := 5) (show List.Nodup (["marks", "ways", "room", "length", "last", "row", "step", "open_marks", "k"] : List Str) by decide +kernel) (by rfl) (by first | exact Or.inl rfl | exact Or.inr rfl) (pe_lit [] (by decide +kernel)))
  (pss_cons ((ps_for PassesOwn.never (by rfl) (pi_range1 (by rfl) T.n_range (pa_cons (pv 3) pa_nil)) (pg_name (i := 6) (show List.Nodup (["marks", "ways", "room", "length", "last", "row", "step", "open_marks", "k"] : List Str) by decide +kernel) (by rfl) (by first | exact Or.inl rfl | exact Or.inr rfl)) (pss_cons (ps_setC (i := 7) (show List.Nodup (["marks", "ways", "room", "length", "last", "row", "step", "open_marks", "k"] : List Str) by decide +kernel) (by rfl) (by rfl) (by rfl) (CompSc.mk' (tn := ["k"]) (cn := ["ways", "room"]) (js := [1, 2]) (osc := defScope s__law_edge) (oN := ["marks", "ways", "room", "length", "last", "row", "step", "open_marks", "k"]) (by rfl) (by rfl) (by rfl) (by decide +kernel)) (pi_range1 (by rfl) T.n_range (pa_cons (pe_callB (k_len (K := K)) (by rfl) T.n_len boot_len (pa_cons (pv 0) pa_nil)) pa_nil)) (fun C s₂ H₂ fp => pg_name (i := 0) (show List.Nodup (["k", "ways", "room"] : List Str) by decide +kernel) (by rfl) (by first | exact Or.inl rfl | exact Or.inr rfl)) (fun C s₂ H₂ fp => (pts_one (pt_cmp (pc_notN (pe_ix (k_ix (K := K)) (pe_ix (k_ix (K := K)) (pv 1) (pv 2) (fun _ _ => rfl)) (pv 0) (fun _ _ => rfl)))))) (fun C s₂ H₂ fp => (pv 0)))
  (pss_cons (ps_set (i := 8) (show List.Nodup (["marks", "ways", "room", "length", "last", "row", "step", "open_marks", "k"] : List Str) by decide +kernel) (by rfl) (by first | exact Or.inl rfl | exact Or.inr rfl) (pe_ix (k_ix (K := K)) (pv 7) (pv 4) (fun _ _ => rfl)))
  (pss_cons (ps_set (i := 5) (show List.Nodup (["marks", "ways", "room", "length", "last", "row", "step", "open_marks", "k"] : List Str) by decide +kernel) (by rfl) (by first | exact Or.inl rfl | exact Or.inr rfl) (pe_op (k_addZ (K := K)) (pv 5) (pe_ix (k_ix (K := K)) (pv 0) (pv 8) (fun _ _ => rfl))))
  (pss_one (ps_set (i := 2) (show List.Nodup (["marks", "ways", "room", "length", "last", "row", "step", "open_marks", "k"] : List Str) by decide +kernel) (by rfl) (by first | exact Or.inl rfl | exact Or.inr rfl) (pe_ix (k_ix (K := K)) (pe_ix (k_ix (K := K)) (pv 1) (pv 2) (fun _ _ => rfl)) (pv 8) (fun _ _ => rfl)))))))))
  (pss_one (ps_ret (pv 5))))), [], ?_⟩
  unfold f__law_edge
  exact (vs_seq (show VS _ _ [] _ _ _ _ from (vs_asg 5 (ve_c (d := (.str [])) (by rfl) (by rfl)) (by rfl) (by rfl) (by rfl) (by rfl)))
  (vs_seq (vs_for (vi_rng1 (va_cons (ve_var 3 (by rfl)) va_nil) len1) (vg_name 6 (by rfl) (by rfl)) (vs_seq (show VS _ _ [] _ _ _ _ from (vs_asg 7 (VF.cl (vf_comp (by rfl) (vi_rng1 (va_cons (ve_cb cb_len (va_cons (ve_var 0 (by rfl)) va_nil)) va_nil) len1) (vg_name 0 (by rfl) (by rfl)) (vt_b (ve_notN (ve_op ok_ix (ve_op ok_ix (ve_var 1 (by rfl)) (ve_var 2 (by rfl))) (ve_var 0 (by rfl))))) (ve_var 0 (by rfl)))) (by rfl) (by rfl) (by rfl) (by rfl)))
  (vs_seq (show VS _ _ [] _ _ _ _ from (vs_asg 8 (ve_op ok_ix (ve_var 7 (by rfl)) (ve_var 4 (by rfl))) (by rfl) (by rfl) (by rfl) (by rfl)))
  (vs_seq (show VS _ _ [] _ _ _ _ from (vs_asg 5 (ve_op ok_addX (ve_var 5 (by rfl)) (ve_op ok_ix (ve_var 0 (by rfl)) (ve_var 8 (by rfl)))) (by rfl) (by rfl) (by rfl) (by rfl)))
  (show VS _ _ [] _ _ _ _ from (vs_asg 2 (ve_op ok_ix (ve_op ok_ix (ve_var 1 (by rfl)) (ve_var 2 (by rfl))) (ve_var 8 (by rfl))) (by rfl) (by rfl) (by rfl) (by rfl)))))))
  (vs_ret (ve_var 5 (by rfl)))))
theorem ok__law_listed (T : Txt K mg t) : FnOk P w K mg base CX0 1 t.a__law_listed t.d__law_listed ["marks", "ways", "room", "length"] (spD ⟨t.c, K⟩ 4 m__law_listed) := by
  refine fn_DB (φ := f__law_listed) T.f__law_listed sc__law_listed (by conv => lhs; whnf) (by conv => lhs; whnf) (fun cdv A outer s H E hr => ?_) rfl rfl
  refine ⟨_, (pss_cons (ps_set (i := 4) (show List.Nodup (["marks", "ways", "room", "length", "rows", "step", "longer", "row", "here", "k"] : List Str) by decide +kernel) (by rfl) (by first | exact Or.inl rfl | exact Or.inr rfl) (pe_lst (pa_cons (pe_tup (pa_cons (pe_lit [] (by decide +kernel)) (pa_cons (pv 2) pa_nil))) pa_nil)))
  (pss_cons ((ps_for PassesOwn.never (by rfl) (pi_range1 (by rfl) T.n_range (pa_cons (pv 3) pa_nil)) (pg_name (i := 5) (show List.Nodup (["marks", "ways", "room", "length", "rows", "step", "longer", "row", "here", "k"] : List Str) by decide +kernel) (by rfl) (by first | exact Or.inl rfl | exact Or.inr rfl)) (pss_cons (ps_set (i := 6) (show List.Nodup (["marks", "ways", "room", "length", "rows", "step", "longer", "row", "here", "k"] : List Str) by decide +kernel) (by rfl) (by first | exact Or.inl rfl | exact Or.inr rfl) (pe_lst pa_nil))
  (pss_cons ((ps_for PassesOwn.never (by rfl) (k_pi (K := K) (pv 4)) (k_tup (K := K) (n := 2) (pgs_cons (pg_name (i := 7) (show List.Nodup (["marks", "ways", "room", "length", "rows", "step", "longer", "row", "here", "k"] : List Str) by decide +kernel) (by rfl) (by first | exact Or.inl rfl | exact Or.inr rfl)) (pgs_cons (pg_name (i := 8) (show List.Nodup (["marks", "ways", "room", "length", "rows", "step", "longer", "row", "here", "k"] : List Str) by decide +kernel) (by rfl) (by first | exact Or.inl rfl | exact Or.inr rfl)) pgs_nil))) (pss_one ((ps_for PassesOwn.never (by rfl) (pi_range1 (by rfl) T.n_range (pa_cons (pe_callB (k_len (K := K)) (by rfl) T.n_len boot_len (pa_cons (pv 0) pa_nil)) pa_nil)) (pg_name (i := 9) (show List.Nodup (["marks", "ways", "room", "length", "rows", "step", "longer", "row", "here", "k"] : List Str) by decide +kernel) (by rfl) (by first | exact Or.inl rfl | exact Or.inr rfl)) (pss_one (ps_if (pt_cmp (pc_notN (pe_ix (k_ix (K := K)) (pe_ix (k_ix (K := K)) (pv 1) (pv 8) (fun _ _ => rfl)) (pv 9) (fun _ _ => rfl)))) (pss_one (ps_expr (k_bm (K := K) PySem.F.plainAttrs_list PySem.F.slot_list_append PySem.F.type_list_append mt_append (pv 6) (pa_cons (pe_tup (pa_cons (pe_op (k_addZ (K := K)) (pv 7) (pe_ix (k_ix (K := K)) (pv 0) (pv 9) (fun _ _ => rfl))) (pa_cons (pe_ix (k_ix (K := K)) (pe_ix (k_ix (K := K)) (pv 1) (pv 8) (fun _ _ => rfl)) (pv 9) (fun _ _ => rfl)) pa_nil))) pa_nil)))) pss_nil)))))))
  (pss_one (ps_set (i := 4) (show List.Nodup (["marks", "ways", "room", "length", "rows", "step", "longer", "row", "here", "k"] : List Str) by decide +kernel) (by rfl) (by first | exact Or.inl rfl | exact Or.inr rfl) (pv 6)))))))
  (pss_one (ps_ret (pe_comp (by rfl) (CompSc.mk' (tn := ["pair"]) (cn := []) (js := []) (osc := defScope s__law_listed) (oN := ["marks", "ways", "room", "length", "rows", "step", "longer", "row", "here", "k"]) (by rfl) (by rfl) (by rfl) (by decide +kernel)) (k_pi (K := K) (pv 4)) (fun C s₂ H₂ fp => pg_name (i := 0) (show List.Nodup (["pair"] : List Str) by decide +kernel) (by rfl) (by first | exact Or.inl rfl | exact Or.inr rfl)) (fun C s₂ H₂ fp => pts_nil) (fun C s₂ H₂ fp => (pe_ix (k_ix (K := K)) (pv 0) pe_int (fun _ _ => rfl)))))))), [], ?_⟩
  unfold f__law_listed
  exact (vs_seq (show VS _ _ [] _ _ _ _ from (vs_asg 4 (VF.cl (vf_lst (va_cons (ve_tup (va_cons (ve_c (d := (.str [])) (by rfl) (by rfl)) (va_cons (ve_var 2 (by rfl)) va_nil))) va_nil))) (by rfl) (by rfl) (by rfl) (by rfl)))
  (vs_seq (vs_for (vi_rng1 (va_cons (ve_var 3 (by rfl)) va_nil) len1) (vg_name 5 (by rfl) (by rfl)) (vs_seq (show VS _ _ [6] _ _ _ _ from (vs_asgO 6 (vf_lst va_nil) (by rfl) (by rfl) (by rfl) (by rfl)))
  (vs_seq (vs_for (vi_any (ve_var 4 (by rfl))) (vg_tup (vgs_cons 7 (by rfl) (by rfl) (vgs_cons 8 (by rfl) (by rfl) vgs_nil))) (vs_for (vi_rng1 (va_cons (ve_cb cb_len (va_cons (ve_var 0 (by rfl)) va_nil)) va_nil) len1) (vg_name 9 (by rfl) (by rfl)) (vs_if (vt_b (ve_notN (ve_op ok_ix (ve_op ok_ix (ve_var 1 (by rfl)) (ve_var 8 (by rfl))) (ve_var 9 (by rfl))))) (vs_app 6 (by rfl) (ve_tup (va_cons (ve_op ok_addX (ve_var 7 (by rfl)) (ve_op ok_ix (ve_var 0 (by rfl)) (ve_var 9 (by rfl)))) (va_cons (ve_op ok_ix (ve_op ok_ix (ve_var 1 (by rfl)) (ve_var 8 (by rfl))) (ve_var 9 (by rfl))) va_nil)))) vs_next)))
  (VS.frz (ow1 := []) 6 (show VS _ _ [] _ _ _ _ from (vs_asg 4 (ve_var 6 (by rfl)) (by rfl) (by rfl) (by rfl) (by rfl))) (by rfl) (by rfl) (by rfl) (by rfl)))))
  (vs_ret (VF.cl (vf_comp (by rfl) (vi_any (ve_var 4 (by rfl))) (vg_name 0 (by rfl) (by rfl)) vt_yes (ve_op ok_ix (ve_var 0 (by rfl)) (ve_c (d := (.int 0)) (by rfl) (by rfl))))))))
theorem ok__law_number (T : Txt K mg t) : FnOk P w K mg base CX0 1 t.a__law_number t.d__law_number ["script", "many", "add"] (spD ⟨t.c, K⟩ 3 m__law_number) := by
  refine fn_DB (φ := f__law_number) T.f__law_number sc__law_number (by conv => lhs; whnf) (by conv => lhs; whnf) (fun cdv A outer s H E hr => ?_) rfl rfl
  refine ⟨_, (pss_cons (ps_set (i := 3) (show List.Nodup (["script", "many", "add", "number", "cell"] : List Str) by decide +kernel) (by rfl) (by first | exact Or.inl rfl | exact Or.inr rfl) (pv 2))
  (pss_cons ((ps_for PassesOwn.never (by rfl) (k_pi (K := K) (pe_slice (k_sl (K := K)) (pv 0) (po_some pe_int) po_none)) (pg_name (i := 4) (show List.Nodup (["script", "many", "add", "number", "cell"] : List Str) by decide +kernel) (by rfl) (by first | exact Or.inl rfl | exact Or.inr rfl)) (pss_one (ps_set (i := 3) (show List.Nodup (["script", "many", "add", "number", "cell"] : List Str) by decide +kernel) (by rfl) (by first | exact Or.inl rfl | exact Or.inr rfl) (pe_op op_modN (pe_op (k_addZ (K := K)) (pe_op (k_mulZ (K := K)) (pv 3) pe_int) (pv 4)) (pv 1))))))
  (pss_one (ps_ret (pe_op op_modN (pv 3) (pv 1)))))), [], ?_⟩
  unfold f__law_number
  exact (vs_seq (show VS _ _ [] _ _ _ _ from (vs_asg 3 (ve_var 2 (by rfl)) (by rfl) (by rfl) (by rfl) (by rfl)))
  (vs_seq (vs_for (vi_any (ve_sl (Or.inl rfl) (ve_var 0 (by rfl)) (vo_some (ve_c (d := (.int 5)) (by rfl) (by rfl))) vo_none)) (vg_name 4 (by rfl) (by rfl)) (show VS _ _ [] _ _ _ _ from (vs_asg 3 (ve_op ok_modW (ve_op ok_addX (ve_op ok_mulX (ve_var 3 (by rfl)) (ve_c (d := (.int 1009)) (by rfl) (by rfl))) (ve_var 4 (by rfl))) (ve_var 1 (by rfl))) (by rfl) (by rfl) (by rfl) (by rfl))))
  (vs_ret (ve_op ok_modW (ve_var 3 (by rfl)) (ve_var 1 (by rfl))))))
theorem ok_law (T : Txt K mg t) : FnOk P w K mg base CX0 4 t.a_law t.d_law ["script"] (spD ⟨t.c, K⟩ 1 m_law) := by
  have GM_Rooms_init : FnOk P w K mg base CX0 2 t.a_Rooms_init t.d_Rooms_init ["self", "marks", "ways"] (spI ⟨t.c, K⟩ 3 m_Rooms_init) := (ok_Rooms_init T).mono (by decide)
  have G__law_ahead : FnOk P w K mg base CX0 3 t.a__law_ahead t.d__law_ahead ["marks", "one", "other"] (spD ⟨t.c, K⟩ 3 m__law_ahead) := (ok__law_ahead T).mono (by decide)
  have G__law_cell_at : FnOk P w K mg base CX0 3 t.a__law_cell_at t.d__law_cell_at ["script", "k"] (spD ⟨t.c, K⟩ 2 m__law_cell_at) := (ok__law_cell_at T).mono (by decide)
  have G__law_edge : FnOk P w K mg base CX0 3 t.a__law_edge t.d__law_edge ["marks", "ways", "room", "length", "last"] (spD ⟨t.c, K⟩ 5 m__law_edge) := (ok__law_edge T).mono (by decide)
  have G__law_folded : FnOk P w K mg base CX0 3 t.a__law_folded t.d__law_folded ["script", "behind", "many"] (spD ⟨t.c, K⟩ 3 m__law_folded) := (ok__law_folded T).mono (by decide)
  have G__law_listed : FnOk P w K mg base CX0 3 t.a__law_listed t.d__law_listed ["marks", "ways", "room", "length"] (spD ⟨t.c, K⟩ 4 m__law_listed) := (ok__law_listed T).mono (by decide)
  have G__law_marks : FnOk P w K mg base CX0 3 t.a__law_marks t.d__law_marks ["cell"] (spD ⟨t.c, K⟩ 1 m__law_marks) := (ok__law_marks T).mono (by decide)
  have G__law_number : FnOk P w K mg base CX0 3 t.a__law_number t.d__law_number ["script", "many", "add"] (spD ⟨t.c, K⟩ 3 m__law_number) := (ok__law_number T).mono (by decide)
  have G__law_ways : FnOk P w K mg base CX0 3 t.a__law_ways t.d__law_ways ["cells", "many", "width"] (spD ⟨t.c, K⟩ 3 m__law_ways) := (ok__law_ways T).mono (by decide)
  have G_count : FnOk P w K mg base CX0 3 t.a_count t.d_count ["rooms", "room", "length"] (spD ⟨t.c, K⟩ 3 m_count) := (ok_count T).mono (by decide)
  have G_row_at : FnOk P w K mg base CX0 3 t.a_row_at t.d_row_at ["rooms", "room", "length", "number"] (spD ⟨t.c, K⟩ 4 m_row_at) := (ok_row_at T).mono (by decide)
  refine fn_DB (φ := f_law) T.f_law sc_law (by conv => lhs; whnf) (by conv => lhs; whnf) (fun cdv A outer s H E hr => ?_) rfl rfl
  refine ⟨_, (pss_cons (ps_set (i := 1) (show List.Nodup (["script", "cells", "marks", "ways", "rooms", "room", "length", "many", "one", "other", "pair", "rows"] : List Str) by decide +kernel) (by rfl) (by first | exact Or.inl rfl | exact Or.inr rfl) (pe_call (G__law_folded) hr (by rfl) T.g__law_folded T.k__law_folded T.b__law_folded .nil pass0 (pa_cons (pv 0) (pa_cons pe_int (pa_cons pe_int pa_nil)))))
  (pss_cons (ps_set (i := 2) (show List.Nodup (["script", "cells", "marks", "ways", "rooms", "room", "length", "many", "one", "other", "pair", "rows"] : List Str) by decide +kernel) (by rfl) (by first | exact Or.inl rfl | exact Or.inr rfl) (pe_call (G__law_marks) hr (by rfl) T.g__law_marks T.k__law_marks T.b__law_marks .nil pass0 (pa_cons (pe_call (G__law_cell_at) hr (by rfl) T.g__law_cell_at T.k__law_cell_at T.b__law_cell_at .nil pass0 (pa_cons (pv 0) (pa_cons pe_int pa_nil))) pa_nil)))
  (pss_cons (ps_set (i := 3) (show List.Nodup (["script", "cells", "marks", "ways", "rooms", "room", "length", "many", "one", "other", "pair", "rows"] : List Str) by decide +kernel) (by rfl) (by first | exact Or.inl rfl | exact Or.inr rfl) (pe_call (G__law_ways) hr (by rfl) T.g__law_ways T.k__law_ways T.b__law_ways .nil pass0 (pa_cons (pv 1) (pa_cons (pe_op (k_addZ (K := K)) pe_int (pe_op op_modN (pe_call (G__law_cell_at) hr (by rfl) T.g__law_cell_at T.k__law_cell_at T.b__law_cell_at .nil pass0 (pa_cons (pv 0) (pa_cons pe_int pa_nil))) pe_int)) (pa_cons (pe_callB (k_len (K := K)) (by rfl) T.n_len boot_len (pa_cons (pv 2) pa_nil)) pa_nil)))))
  (pss_cons (ps_set (i := 4) (show List.Nodup (["script", "cells", "marks", "ways", "rooms", "room", "length", "many", "one", "other", "pair", "rows"] : List Str) by decide +kernel) (by rfl) (by first | exact Or.inl rfl | exact Or.inr rfl) (pe_make T.mk_Rooms (GM_Rooms_init) hr (by rfl) T.g_Rooms T.b_Rooms_init .nil pass0 (pa_cons (pv 2) (pa_cons (pv 3) pa_nil))))
  (pss_cons (ps_set (i := 5) (show List.Nodup (["script", "cells", "marks", "ways", "rooms", "room", "length", "many", "one", "other", "pair", "rows"] : List Str) by decide +kernel) (by rfl) (by first | exact Or.inl rfl | exact Or.inr rfl) (pe_op op_modN (pe_call (G__law_cell_at) hr (by rfl) T.g__law_cell_at T.k__law_cell_at T.b__law_cell_at .nil pass0 (pa_cons (pv 0) (pa_cons pe_int pa_nil))) (pe_callB (k_len (K := K)) (by rfl) T.n_len boot_len (pa_cons (pv 3) pa_nil))))
  (pss_cons (ps_set (i := 6) (show List.Nodup (["script", "cells", "marks", "ways", "rooms", "room", "length", "many", "one", "other", "pair", "rows"] : List Str) by decide +kernel) (by rfl) (by first | exact Or.inl rfl | exact Or.inr rfl) (pe_op op_modN (pe_call (G__law_cell_at) hr (by rfl) T.g__law_cell_at T.k__law_cell_at T.b__law_cell_at .nil pass0 (pa_cons (pv 0) (pa_cons pe_int pa_nil))) pe_int))
  (pss_cons (ps_if (pt_cmpR (op_eqD (cA := ⟨t.c, K⟩) (hr.units)) (pe_op op_modN (pe_op op_fdivW (pe_call (G__law_cell_at) hr (by rfl) T.g__law_cell_at T.k__law_cell_at T.b__law_cell_at .nil pass0 (pa_cons (pv 0) (pa_cons pe_int pa_nil))) pe_int) pe_int) pe_int (nomark _)) (pss_one (ps_set (i := 6) (show List.Nodup (["script", "cells", "marks", "ways", "rooms", "room", "length", "many", "one", "other", "pair", "rows"] : List Str) by decide +kernel) (by rfl) (by first | exact Or.inl rfl | exact Or.inr rfl) (pe_op op_modN (pv 6) pe_int))) pss_nil)
  (pss_cons (ps_set (i := 7) (show List.Nodup (["script", "cells", "marks", "ways", "rooms", "room", "length", "many", "one", "other", "pair", "rows"] : List Str) by decide +kernel) (by rfl) (by first | exact Or.inl rfl | exact Or.inr rfl) (pe_call (G_count) hr (by rfl) T.g_count T.k_count T.b_count .nil pass0 (pa_cons (pv 4) (pa_cons (pv 5) (pa_cons (pv 6) pa_nil)))))
  (pss_cons (ps_if (pt_cmpR (op_neD (cA := ⟨t.c, K⟩) (hr.units)) (pe_call (G_row_at) hr (by rfl) T.g_row_at T.k_row_at T.b_row_at .nil pass0 (pa_cons (pv 4) (pa_cons (pv 5) (pa_cons (pv 6) (pa_cons pe_int pa_nil))))) (pe_call (G__law_edge) hr (by rfl) T.g__law_edge T.k__law_edge T.b__law_edge .nil pass0 (pa_cons (pv 2) (pa_cons (pv 3) (pa_cons (pv 5) (pa_cons (pv 6) (pa_cons pe_int pa_nil)))))) (nomark _)) (pss_one (ps_ret pe_bl)) pss_nil)
  (pss_cons (ps_if (pt_cmpR (op_neD (cA := ⟨t.c, K⟩) (hr.units)) (pe_call (G_row_at) hr (by rfl) T.g_row_at T.k_row_at T.b_row_at .nil pass0 (pa_cons (pv 4) (pa_cons (pv 5) (pa_cons (pv 6) (pa_cons (pe_op op_sub (pv 7) pe_int) pa_nil))))) (pe_call (G__law_edge) hr (by rfl) T.g__law_edge T.k__law_edge T.b__law_edge .nil pass0 (pa_cons (pv 2) (pa_cons (pv 3) (pa_cons (pv 5) (pa_cons (pv 6) (pa_cons (pe_un un_neg pe_int) pa_nil)))))) (nomark _)) (pss_one (ps_ret pe_bl)) pss_nil)
  (pss_cons (ps_set (i := 8) (show List.Nodup (["script", "cells", "marks", "ways", "rooms", "room", "length", "many", "one", "other", "pair", "rows"] : List Str) by decide +kernel) (by rfl) (by first | exact Or.inl rfl | exact Or.inr rfl) (pe_call (G__law_number) hr (by rfl) T.g__law_number T.k__law_number T.b__law_number .nil pass0 (pa_cons (pv 0) (pa_cons (pv 7) (pa_cons (pe_call (G__law_cell_at) hr (by rfl) T.g__law_cell_at T.k__law_cell_at T.b__law_cell_at .nil pass0 (pa_cons (pv 0) (pa_cons pe_int pa_nil))) pa_nil)))))
  (pss_cons (ps_set (i := 9) (show List.Nodup (["script", "cells", "marks", "ways", "rooms", "room", "length", "many", "one", "other", "pair", "rows"] : List Str) by decide +kernel) (by rfl) (by first | exact Or.inl rfl | exact Or.inr rfl) (pe_call (G__law_number) hr (by rfl) T.g__law_number T.k__law_number T.b__law_number .nil pass0 (pa_cons (pv 0) (pa_cons (pv 7) (pa_cons (pe_ix (k_ix (K := K)) (pv 1) pe_int (fun _ _ => rfl)) pa_nil)))))
  (pss_cons ((ps_for PassesOwn.never (by rfl) (k_pi (K := K) (pe_lst (pa_cons (pe_tup (pa_cons (pe_callB (call_min2 (by rfl)) (by rfl) T.n_min boot_min (pa_cons (pv 8) (pa_cons (pv 9) pa_nil))) (pa_cons (pe_callB (call_max2 (by rfl)) (by rfl) T.n_max boot_max (pa_cons (pv 8) (pa_cons (pv 9) pa_nil))) pa_nil))) (pa_cons (pe_tup (pa_cons (pv 8) (pa_cons (pe_callB (call_min2 (by rfl)) (by rfl) T.n_min boot_min (pa_cons (pe_op (k_addZ (K := K)) (pv 8) pe_int) (pa_cons (pe_op op_sub (pv 7) pe_int) pa_nil))) pa_nil))) pa_nil)))) (pg_name (i := 10) (show List.Nodup (["script", "cells", "marks", "ways", "rooms", "room", "length", "many", "one", "other", "pair", "rows"] : List Str) by decide +kernel) (by rfl) (by first | exact Or.inl rfl | exact Or.inr rfl)) (pss_cons (ps_setC (i := 11) (show List.Nodup (["script", "cells", "marks", "ways", "rooms", "room", "length", "many", "one", "other", "pair", "rows"] : List Str) by decide +kernel) (by rfl) (by rfl) (by rfl) (CompSc.mk' (tn := ["number"]) (cn := ["rooms", "room", "length"]) (js := [4, 5, 6]) (osc := defScope s_law) (oN := ["script", "cells", "marks", "ways", "rooms", "room", "length", "many", "one", "other", "pair", "rows"]) (by rfl) (by rfl) (by rfl) (by decide +kernel)) (k_pi (K := K) (pv 10)) (fun C s₂ H₂ fp => pg_name (i := 0) (show List.Nodup (["number", "rooms", "room", "length"] : List Str) by decide +kernel) (by rfl) (by first | exact Or.inl rfl | exact Or.inr rfl)) (fun C s₂ H₂ fp => pts_nil) (fun C s₂ H₂ fp => (pe_call (G_row_at) hr (by rfl) T.g_row_at T.k_row_at T.b_row_at .nil pass0 (pa_cons (pv 1) (pa_cons (pv 2) (pa_cons (pv 3) (pa_cons (pv 0) pa_nil)))))))
  (pss_one (ps_if (pt_cmpR (op_neD (cA := ⟨t.c, K⟩) (hr.units)) (pe_cmpR op_lt (pe_ix (k_ix (K := K)) (pv 10) pe_int (fun _ _ => rfl)) (pe_ix (k_ix (K := K)) (pv 10) pe_int (fun _ _ => rfl)) (nomark _)) (pe_call (G__law_ahead) hr (by rfl) T.g__law_ahead T.k__law_ahead T.b__law_ahead .nil pass0 (pa_cons (pv 2) (pa_cons (pe_ix (k_ix (K := K)) (pv 11) pe_int (fun _ _ => rfl)) (pa_cons (pe_ix (k_ix (K := K)) (pv 11) pe_int (fun _ _ => rfl)) pa_nil)))) (nomark _)) (pss_one (ps_ret pe_bl)) pss_nil)))))
  (pss_cons (ps_if (pt_cmpR op_gt (pv 7) pe_int (nomark _)) (pss_one (ps_ret pe_bl)) pss_nil)
  (pss_one (ps_ret (pe_cmpR (op_eqD (cA := ⟨t.c, K⟩) (hr.units)) (pe_comp (by rfl) (CompSc.mk' (tn := ["number"]) (cn := ["rooms", "room", "length"]) (js := [4, 5, 6]) (osc := defScope s_law) (oN := ["script", "cells", "marks", "ways", "rooms", "room", "length", "many", "one", "other", "pair", "rows"]) (by rfl) (by rfl) (by rfl) (by decide +kernel)) (pi_range1 (by rfl) T.n_range (pa_cons (pv 7) pa_nil)) (fun C s₂ H₂ fp => pg_name (i := 0) (show List.Nodup (["number", "rooms", "room", "length"] : List Str) by decide +kernel) (by rfl) (by first | exact Or.inl rfl | exact Or.inr rfl)) (fun C s₂ H₂ fp => pts_nil) (fun C s₂ H₂ fp => (pe_call (G_row_at) hr (by rfl) T.g_row_at T.k_row_at T.b_row_at .nil pass0 (pa_cons (pv 1) (pa_cons (pv 2) (pa_cons (pv 3) (pa_cons (pv 0) pa_nil))))))) (pe_call (G__law_listed) hr (by rfl) T.g__law_listed T.k__law_listed T.b__law_listed .nil pass0 (pa_cons (pv 2) (pa_cons (pv 3) (pa_cons (pv 5) (pa_cons (pv 6) pa_nil))))) (nomark _)))))))))))))))))), [], ?_⟩
  unfold f_law
  exact (vs_seq (show VS _ _ [] _ _ _ _ from (vs_asg 1 (ve_call [] (by rfl) (va_cons (ve_var 0 (by rfl)) (va_cons (ve_c (d := (.int 5)) (by rfl) (by rfl)) (va_cons (ve_c (d := (.int 30)) (by rfl) (by rfl)) va_nil)))) (by rfl) (by rfl) (by rfl) (by rfl)))
  (vs_seq (show VS _ _ [] _ _ _ _ from (vs_asg 2 (ve_call [] (by rfl) (va_cons (ve_call [] (by rfl) (va_cons (ve_var 0 (by rfl)) (va_cons (ve_c (d := (.int 0)) (by rfl) (by rfl)) va_nil))) va_nil)) (by rfl) (by rfl) (by rfl) (by rfl)))
  (vs_seq (show VS _ _ [] _ _ _ _ from (vs_asg 3 (ve_call [] (by rfl) (va_cons (ve_var 1 (by rfl)) (va_cons (ve_op ok_addX (ve_c (d := (.int 1)) (by rfl) (by rfl)) (ve_op ok_modW (ve_call [] (by rfl) (va_cons (ve_var 0 (by rfl)) (va_cons (ve_c (d := (.int 1)) (by rfl) (by rfl)) va_nil))) (ve_c (d := (.int 6)) (by rfl) (by rfl)))) (va_cons (ve_cb cb_len (va_cons (ve_var 2 (by rfl)) va_nil)) va_nil)))) (by rfl) (by rfl) (by rfl) (by rfl)))
  (vs_seq (show VS _ _ [] _ _ _ _ from (vs_asg 4 (ve_make (c := "Rooms") [] (by rfl) (va_cons (ve_var 2 (by rfl)) (va_cons (ve_var 3 (by rfl)) va_nil))) (by rfl) (by rfl) (by rfl) (by rfl)))
  (vs_seq (show VS _ _ [] _ _ _ _ from (vs_asg 5 (ve_op ok_modW (ve_call [] (by rfl) (va_cons (ve_var 0 (by rfl)) (va_cons (ve_c (d := (.int 2)) (by rfl) (by rfl)) va_nil))) (ve_cb cb_len (va_cons (ve_var 3 (by rfl)) va_nil))) (by rfl) (by rfl) (by rfl) (by rfl)))
  (vs_seq (show VS _ _ [] _ _ _ _ from (vs_asg 6 (ve_op ok_modW (ve_call [] (by rfl) (va_cons (ve_var 0 (by rfl)) (va_cons (ve_c (d := (.int 3)) (by rfl) (by rfl)) va_nil))) (ve_c (d := (.int 31)) (by rfl) (by rfl))) (by rfl) (by rfl) (by rfl) (by rfl)))
  (vs_seq (vs_if (vt_t (ve_op ok_eq (ve_op ok_modW (ve_op ok_fdivW (ve_call [] (by rfl) (va_cons (ve_var 0 (by rfl)) (va_cons (ve_c (d := (.int 3)) (by rfl) (by rfl)) va_nil))) (ve_c (d := (.int 31)) (by rfl) (by rfl))) (ve_c (d := (.int 3)) (by rfl) (by rfl))) (ve_c (d := (.int 1)) (by rfl) (by rfl)))) (show VS _ _ [] _ _ _ _ from (vs_asg 6 (ve_op ok_modW (ve_var 6 (by rfl)) (ve_c (d := (.int 4)) (by rfl) (by rfl))) (by rfl) (by rfl) (by rfl) (by rfl))) vs_next)
  (vs_seq (show VS _ _ [] _ _ _ _ from (vs_asg 7 (ve_call [] (by rfl) (va_cons (ve_var 4 (by rfl)) (va_cons (ve_var 5 (by rfl)) (va_cons (ve_var 6 (by rfl)) va_nil)))) (by rfl) (by rfl) (by rfl) (by rfl)))
  (vs_seq (vs_if (vt_t (ve_op ok_ne (ve_call [] (by rfl) (va_cons (ve_var 4 (by rfl)) (va_cons (ve_var 5 (by rfl)) (va_cons (ve_var 6 (by rfl)) (va_cons (ve_c (d := (.int 0)) (by rfl) (by rfl)) va_nil))))) (ve_call [] (by rfl) (va_cons (ve_var 2 (by rfl)) (va_cons (ve_var 3 (by rfl)) (va_cons (ve_var 5 (by rfl)) (va_cons (ve_var 6 (by rfl)) (va_cons (ve_c (d := (.int 0)) (by rfl) (by rfl)) va_nil)))))))) (vs_ret (ve_c (d := (.bl false)) (by rfl) (by rfl))) vs_next)
  (vs_seq (vs_if (vt_t (ve_op ok_ne (ve_call [] (by rfl) (va_cons (ve_var 4 (by rfl)) (va_cons (ve_var 5 (by rfl)) (va_cons (ve_var 6 (by rfl)) (va_cons (ve_op ok_sub (ve_var 7 (by rfl)) (ve_c (d := (.int 1)) (by rfl) (by rfl))) va_nil))))) (ve_call [] (by rfl) (va_cons (ve_var 2 (by rfl)) (va_cons (ve_var 3 (by rfl)) (va_cons (ve_var 5 (by rfl)) (va_cons (ve_var 6 (by rfl)) (va_cons (ve_neg (ve_c (d := (.int 1)) (by rfl) (by rfl))) va_nil)))))))) (vs_ret (ve_c (d := (.bl false)) (by rfl) (by rfl))) vs_next)
  (vs_seq (show VS _ _ [] _ _ _ _ from (vs_asg 8 (ve_call [] (by rfl) (va_cons (ve_var 0 (by rfl)) (va_cons (ve_var 7 (by rfl)) (va_cons (ve_call [] (by rfl) (va_cons (ve_var 0 (by rfl)) (va_cons (ve_c (d := (.int 4)) (by rfl) (by rfl)) va_nil))) va_nil)))) (by rfl) (by rfl) (by rfl) (by rfl)))
  (vs_seq (show VS _ _ [] _ _ _ _ from (vs_asg 9 (ve_call [] (by rfl) (va_cons (ve_var 0 (by rfl)) (va_cons (ve_var 7 (by rfl)) (va_cons (ve_op ok_ix (ve_var 1 (by rfl)) (ve_c (d := (.int 29)) (by rfl) (by rfl))) va_nil)))) (by rfl) (by rfl) (by rfl) (by rfl)))
  (vs_seq (vs_for (vi_any (VF.cl (vf_lst (va_cons (ve_tup (va_cons (ve_cb cb_min (va_cons (ve_var 8 (by rfl)) (va_cons (ve_var 9 (by rfl)) va_nil))) (va_cons (ve_cb cb_max (va_cons (ve_var 8 (by rfl)) (va_cons (ve_var 9 (by rfl)) va_nil))) va_nil))) (va_cons (ve_tup (va_cons (ve_var 8 (by rfl)) (va_cons (ve_cb cb_min (va_cons (ve_op ok_addX (ve_var 8 (by rfl)) (ve_c (d := (.int 1)) (by rfl) (by rfl))) (va_cons (ve_op ok_sub (ve_var 7 (by rfl)) (ve_c (d := (.int 1)) (by rfl) (by rfl))) va_nil))) va_nil))) va_nil))))) (vg_name 10 (by rfl) (by rfl)) (vs_seq (show VS _ _ [] _ _ _ _ from (vs_asg 11 (VF.cl (vf_comp (by rfl) (vi_any (ve_var 10 (by rfl))) (vg_name 0 (by rfl) (by rfl)) vt_yes (ve_call [] (by rfl) (va_cons (ve_var 1 (by rfl)) (va_cons (ve_var 2 (by rfl)) (va_cons (ve_var 3 (by rfl)) (va_cons (ve_var 0 (by rfl)) va_nil))))))) (by rfl) (by rfl) (by rfl) (by rfl)))
  (vs_if (vt_t (ve_op ok_ne (ve_op ok_cmp (ve_op ok_ix (ve_var 10 (by rfl)) (ve_c (d := (.int 0)) (by rfl) (by rfl))) (ve_op ok_ix (ve_var 10 (by rfl)) (ve_c (d := (.int 1)) (by rfl) (by rfl)))) (ve_call [] (by rfl) (va_cons (ve_var 2 (by rfl)) (va_cons (ve_op ok_ix (ve_var 11 (by rfl)) (ve_c (d := (.int 0)) (by rfl) (by rfl))) (va_cons (ve_op ok_ix (ve_var 11 (by rfl)) (ve_c (d := (.int 1)) (by rfl) (by rfl))) va_nil)))))) (vs_ret (ve_c (d := (.bl false)) (by rfl) (by rfl))) vs_next)))
  (vs_seq (vs_if (vt_t (ve_op ok_cmp (ve_var 7 (by rfl)) (ve_c (d := (.int 24)) (by rfl) (by rfl)))) (vs_ret (ve_c (d := (.bl true)) (by rfl) (by rfl))) vs_next)
  (vs_ret (ve_op ok_eq (VF.cl (vf_comp (by rfl) (vi_rng1 (va_cons (ve_var 7 (by rfl)) va_nil) len1) (vg_name 0 (by rfl) (by rfl)) vt_yes (ve_call [] (by rfl) (va_cons (ve_var 1 (by rfl)) (va_cons (ve_var 2 (by rfl)) (va_cons (ve_var 3 (by rfl)) (va_cons (ve_var 0 (by rfl)) va_nil))))))) (ve_call [] (by rfl) (va_cons (ve_var 2 (by rfl)) (va_cons (ve_var 3 (by rfl)) (va_cons (ve_var 5 (by rfl)) (va_cons (ve_var 6 (by rfl)) va_nil)))))))))))))))))))))
end
end K21

namespace K21
open DL L2
theorem modP {i j : Int} (h : 0 < j) : modW (.int i) (.int j) = some (.int (i % j)) := (modW_of (by omega)).trans (by rw [Int.fmod_eq_emod_of_nonneg i (by omega)])
theorem wd_n {j : Int} (h0 : 0 < j) (h1 : j < 10000000000000000000) : Wd j := by
  unfold Wd
  have : j.natAbs < 10000000000000000000 := by omega
  exact Nat.lt_trans this (by decide +kernel)
theorem divP {i j : Int} (h0 : 0 < j) (h1 : j < 10000000000000000000) : fdivW (.int i) (.int j) = some (.int (i / j)) := (fdivW_of (by omega) (wd_n h0 h1)).trans (by rw [Int.fdiv_eq_ediv_of_nonneg i (by omega)])
theorem cell_at (ns : List Int) (k : Nat) : m__law_cell_at [.lst (ns.map D.int), .int k] = some (.int (ns.getD k 0)) := by
  by_cases h : k < ns.length
  · have hz : atI (ns.map D.int) (k : Int) = some (.int (ns.getD k 0)) := by
      refine atI_nat ?_
      rw [List.getElem?_map, List.getElem?_eq_getElem h, List.getD_eq_getElem?_getD, List.getElem?_eq_getElem h]
      rfl
    simp [m__law_cell_at, f__law_cell_at, h, hz, DL.run, DL.runI, sSeq, sIf, sRet, sRetN, sNext, sAsg, sExpr, sFldD, sBase, sNever, xB, bD, xNot, xAnd, xOr, eVar, eC, eOp, eAnd, eOr, eNot, eIf, eIsN, eNotN, isNon, eChain, eUn, negD, eNil, eCons, eLst, eTup, eCB, lenD, minD, maxD, eCall, eMake, eMeth, eFld, eSl, xP, xNoP, addD, subD, mulD, fdivD, modD, cmpD, ixD, isD, eBM, eIsi, isiD, kind, plainKinds, eqD_int, eqD_str, eqD_bl', eqD_nn, eqD_ni, eqD_in, neD_int, neD_str, neD_nn, neD_ni, neD_in, List.lookup, CDiv, CMul, PySem.sizeLine_eq, List.replicate]
  · have hz : ns.getD k 0 = 0 := by rw [List.getD_eq_getElem?_getD, List.getElem?_eq_none (by omega)]; rfl
    simp [m__law_cell_at, f__law_cell_at, h, hz, DL.run, DL.runI, sSeq, sIf, sRet, sRetN, sNext, sAsg, sExpr, sFldD, sBase, sNever, xB, bD, xNot, xAnd, xOr, eVar, eC, eOp, eAnd, eOr, eNot, eIf, eIsN, eNotN, isNon, eChain, eUn, negD, eNil, eCons, eLst, eTup, eCB, lenD, minD, maxD, eCall, eMake, eMeth, eFld, eSl, xP, xNoP, addD, subD, mulD, fdivD, modD, cmpD, ixD, isD, eBM, eIsi, isiD, kind, plainKinds, eqD_int, eqD_str, eqD_bl', eqD_nn, eqD_ni, eqD_in, neD_int, neD_str, neD_nn, neD_ni, neD_in, List.lookup, CDiv, CMul, PySem.sizeLine_eq, List.replicate]
/-! ### the marks -/
def SG : List Nat := [97, 98, 99, 100, 101, 102, 103, 104, 105, 106, 107, 108, 109, 110, 111, 112, 113, 114, 115, 116, 117, 118, 119, 120, 121, 122, 48, 49, 50, 51, 52, 53, 54, 55, 56, 57]
structure Mk (M : List Nat) : Prop where
  lo : 2 ≤ M.length
  hi : M.length ≤ 4
  nd : M.Nodup
  cd : Codes M
theorem SG_at {i : Int} (h0 : 0 ≤ i) (h1 : i < 36) : atI SG i = some (SG.getD i.toNat 0) := by
  obtain ⟨x, h2, h3⟩ := atI_lt (xs := SG) h0 (by rw [show SG.length = 36 from rfl]; exact h1)
  rw [h2, List.getD_eq_getElem?_getD, h3]
  rfl
def mk1 (c : Int) (k : Nat) : Nat := SG.getD ((c / 3 + 5 * (k : Int)) % 36).toNat 0
noncomputable def mkE : DL.Env → Option D := (eOp ixD (eVar 1) (eOp modW (eOp addX (eOp fdivW (eVar 2) (eC (.int 3))) (eOp mulX (eC (.int 5)) (eVar 0))) (eCB lenD (eCons (eVar 1) eNil))))
theorem mk_one (c : Int) (k : Nat) (hk : k ≤ 100) : mkE [some (.int k), some (.str SG), some (.int c)] = some (.str [mk1 c k]) := by
  have e2 : eOp fdivW (eVar 2) (eC (.int 3)) [some (.int k), some (.str SG), some (.int c)] = some (.int (c / 3)) := (op_of (x := .int c) (y := .int 3) rfl rfl).trans (divP (by decide) (by decide))
  have e3 : eOp mulX (eC (.int 5)) (eVar 0) [some (.int k), some (.str SG), some (.int c)] = some (.int (5 * (k : Int))) := (op_of (x := .int 5) (y := .int (k : Int)) rfl rfl).trans (mul_small (by omega) (by omega))
  have e4 : eCB lenD (eCons (eVar 1) eNil) [some (.int k), some (.str SG), some (.int c)] = some (.int 36) := rfl
  exact (op_of rfl ((op_of ((op_of e2 e3).trans (add_int _ _)) e4).trans (modP (by decide)))).trans (ixD_str (by decide) (SG_at (by omega) (by omega)))
def mkF (c : Int) : D → D
  | .int k => .str [mk1 c k.toNat]
  | _ => .non
theorem SG_inj : ∀ i j : Fin 36, SG.getD i.val 0 = SG.getD j.val 0 → i = j := by decide
theorem SG_lt (i : Nat) : SG.getD i 0 < 1114112 := by
  by_cases h : i < 36
  · exact (show ∀ i : Fin 36, SG.getD i.val 0 < 1114112 by decide) ⟨i, h⟩
  · rw [List.getD_eq_getElem?_getD, List.getElem?_eq_none (by show 36 ≤ i; omega)]
    decide
theorem mk_inj (c : Int) {i j : Nat} (hi : i < 4) (hj : j < 4) (h : mk1 c i = mk1 c j) : i = j := by
  unfold mk1 at h
  have := SG_inj ⟨_, (show ((c / 3 + 5 * (i : Int)) % 36).toNat < 36 by omega)⟩ ⟨_, (show ((c / 3 + 5 * (j : Int)) % 36).toNat < 36 by omega)⟩ h
  have e : ((c / 3 + 5 * (i : Int)) % 36).toNat = ((c / 3 + 5 * (j : Int)) % 36).toNat := congrArg Fin.val this
  omega
theorem marks_eq : f__law_marks = sSeq (sAsg 1 (eC (.str SG))) (sRet (eBM joinD (eC (.str [])) (eCons (eComp (iotaR (eCons (eOp addX (eC (.int 2)) (eOp modW (eVar 0) (eC (.int 3)))) eNil)) (gSet 0) (fun _ => some true) mkE 1 [1, 0]) eNil))) := rfl
theorem marks_ok (c : Int) : ∃ M, Mk M ∧ m__law_marks [.int c] = some (.str M) := by
  obtain ⟨n, hn⟩ := nat_of (show 0 ≤ 2 + c % 3 by omega)
  have hcomp : compD (gSet 0) (fun _ => some true) mkE [none, some (.str SG), some (.int c)] (rngI 0 1 n) = some ((List.range n).map fun k => .str [mk1 c k]) := by
    rw [compD_map (mkF c)]
    · unfold rngI
      rw [List.map_map]
      congr 1
      refine List.map_congr_left fun k _ => ?_
      show mkF c (.int (0 + (k : Int) * 1)) = _
      rw [show (0 + (k : Int) * 1) = k by omega]
      rfl
    · intro x hx
      obtain ⟨i, hi, rfl⟩ := rng_mem hx
      rw [show (0 + (i : Int) * 1) = i by omega]
      exact ⟨_, rfl, mk_one c i (by omega)⟩
  have hj := join_ones (mk1 c) (List.range n) (by rw [List.length_range, PySem.sizeLine_eq]; omega)
  have hr : iotaR (eCons (eOp addX (eC (.int 2)) (eOp modW (eVar 0) (eC (.int 3)))) eNil) [some (.int c), some (.str SG)] = some (rngI 0 1 n) := by
    refine (iotaR1 (j := (n : Int)) (cons_of ?_ nil_of) (by omega) (by omega)).trans (by rw [Int.toNat_natCast])
    refine (op_of (x := .int 2) (y := .int (c % 3)) rfl ((op_of (x := .int c) (y := .int 3) rfl rfl).trans (modP (by decide)))).trans ?_
    rw [add_int, hn]
  have hc : eComp (iotaR (eCons (eOp addX (eC (.int 2)) (eOp modW (eVar 0) (eC (.int 3)))) eNil)) (gSet 0) (fun _ => some true) mkE 1 [1, 0] [some (.int c), some (.str SG)] = some (.lst ((List.range n).map fun k => .str [mk1 c k])) :=
    comp_of hr rfl hcomp (by rw [List.length_map, List.length_range]; omega)
  refine ⟨(List.range n).map (mk1 c), ⟨by simp; omega, by simp; omega, ?_, fun x hx => by obtain ⟨k, _, rfl⟩ := List.mem_map.mp hx; exact SG_lt _⟩, ?_⟩
  · rw [List.Nodup, List.pairwise_iff_getElem]
    intro i j hi hj hij
    simp at hi hj ⊢
    intro z
    have := mk_inj c (by omega) (by omega) z
    omega
  · have h : f__law_marks [some (.int c), none] = some (.rt (.str ((List.range n).map (mk1 c)))) := by
      rw [marks_eq, seq_nx (δ' := [some (.int c), some (.str SG)]) rfl]
      exact ret_of ((bm_of rfl (cons_of hc nil_of)).trans hj)
    exact run_of rfl h
/-! ### ways -/
abbrev Wy := List (List (Option Nat))
def oD : Option Nat → D
  | none => .non
  | some a => .int (a : Int)
def rowL (r : List (Option Nat)) : D := .lst (r.map oD)
def rowT (r : List (Option Nat)) : D := .tup (r.map oD)
structure Ok1 (m n : Nat) (r : List (Option Nat)) : Prop where
  ln : r.length = n
  pl : ∀ a, some a ∈ r → a < m
structure Ok (m n : Nat) (W : Wy) : Prop where
  m0 : 0 < m
  m6 : m ≤ 6
  n2 : 2 ≤ n
  n4 : n ≤ 4
  ln : W.length = m
  rw : ∀ r ∈ W, Ok1 m n r
def matD (W : Wy) : D := .lst (W.map rowL)
def put (W : Wy) (a k : Nat) (x : Option Nat) : Wy := W.set a ((W.getD a []).set k x)
theorem Ok1.set {m n : Nat} {r : List (Option Nat)} {k : Nat} {x : Nat} (h : Ok1 m n r) (hx : x < m) : Ok1 m n (r.set k (some x)) := ⟨by rw [List.length_set]; exact h.ln, fun a ha => by
  rcases List.mem_or_eq_of_mem_set ha with h1 | h1
  · exact h.pl a h1
  · cases h1; exact hx⟩
theorem Ok.row {m n : Nat} {W : Wy} (h : Ok m n W) {a : Nat} (ha : a < m) : ∃ r, W[a]? = some r ∧ W.getD a [] = r ∧ Ok1 m n r := by
  have hl : a < W.length := by rw [h.ln]; exact ha
  refine ⟨W[a], List.getElem?_eq_getElem hl, ?_, h.rw _ (List.getElem_mem hl)⟩
  rw [List.getD_eq_getElem?_getD, List.getElem?_eq_getElem hl]
  rfl
theorem Ok.put {m n : Nat} {W : Wy} (h : Ok m n W) {a k x : Nat} (ha : a < m) (hx : x < m) : Ok m n (put W a k (some x)) := by
  obtain ⟨r, h1, h2, h3⟩ := h.row ha
  refine ⟨h.m0, h.m6, h.n2, h.n4, by unfold K21.put; rw [List.length_set]; exact h.ln, fun r' hr' => ?_⟩
  unfold K21.put at hr'
  rcases List.mem_or_eq_of_mem_set hr' with h4 | h4
  · exact h.rw r' h4
  · rw [h4, h2]; exact h3.set hx
/-- one store -/
theorem set2_of {i : Nat} {κ1 κ2 ε : DL.Env → Option D} {δ : DL.Env} {m n : Nat} {W : Wy} (h : Ok m n W) {a k x : Nat} (ha : a < m) (hk : k < n) (hv : eVar i δ = some (matD W)) (h1 : κ1 δ = some (.int (a : Int))) (h2 : κ2 δ = some (.int (k : Int))) (h3 : ε δ = some (.int (x : Int))) : sSet2 i κ1 κ2 ε δ = some (.nx (δ.set i (some (matD (put W a k (some x)))))) := by
  obtain ⟨r, hr1, hr2, hr3⟩ := h.row ha
  have hW := h.ln
  have e1 : eScal ε δ = some (.int (x : Int)) := by unfold eScal; rw [h3]; rfl
  unfold sSet2
  rw [e1, hv, h1, h2]
  unfold matD
  dsimp only
  rw [List.length_map, ixN_nat (by omega)]
  dsimp only
  rw [List.getElem?_map, hr1]
  show (match ixN (r.map oD).length (k : Int) with
    | some l => some (Out.nx (δ.set i (some (.lst ((W.map rowL).set a (.lst ((r.map oD).set l (.int (x : Int)))))))))
    | none => none) = _
  rw [List.length_map, ixN_nat (by rw [hr3.ln]; exact hk)]
  dsimp only
  unfold put
  rw [hr2, List.map_set]
  unfold rowL
  rw [List.map_set]
  rfl
/-- one reading -/
theorem ix2_of {κ0 κ1 κ2 : DL.Env → Option D} {δ : DL.Env} {m n : Nat} {W : Wy} (h : Ok m n W) {a k : Nat} (ha : a < m) (hk : k < n) (hv : κ0 δ = some (matD W)) (h1 : κ1 δ = some (.int (a : Int))) (h2 : κ2 δ = some (.int (k : Int))) : eOp ixD (eOp ixD κ0 κ1) κ2 δ = some (oD ((W.getD a []).getD k none)) := by
  obtain ⟨r, hr1, hr2, hr3⟩ := h.row ha
  have hkl : k < r.length := by rw [hr3.ln]; exact hk
  have e : r[k]? = some r[k] := List.getElem?_eq_getElem hkl
  refine (op_of (x := rowL r) ((op_of hv h1).trans (ix_at (by rw [List.getElem?_map, hr1]; rfl))) h2).trans ((ix_at (x := oD r[k]) (by rw [List.getElem?_map, e]; rfl)).trans ?_)
  rw [hr2, List.getD_eq_getElem?_getD, e]
  rfl
theorem ix1_of {κ0 κ1 : DL.Env → Option D} {δ : DL.Env} {m n : Nat} {W : Wy} (h : Ok m n W) {a : Nat} (ha : a < m) (hv : κ0 δ = some (matD W)) (h1 : κ1 δ = some (.int (a : Int))) : eOp ixD κ0 κ1 δ = some (rowL (W.getD a [])) := by
  obtain ⟨r, hr1, hr2, hr3⟩ := h.row ha
  rw [hr2]
  exact (op_of hv h1).trans (ix_at (by rw [List.getElem?_map, hr1]; rfl))
theorem isNon_oD (x : Option Nat) : isNon (oD x) = x.isNone := by cases x <;> rfl
theorem scal_of' {ε : DL.Env → Option D} {δ : DL.Env} {d : D} (h : ε δ = some d) (hs : scalar d = true) : eScal ε δ = some d := by unfold eScal; rw [h]; exact if_pos hs
theorem hide_nx {i : Nat} {φ : DL.Env → Option Out} {δ δ' : DL.Env} (h : φ (δ.set i none) = some (.nx δ')) (hi : δ'[i]? = some none) : sHide i φ δ = some (.nx (δ'.set i ((δ[i]?).getD none))) := by
  unfold sHide
  rw [h]
  dsimp only
  rw [hi]
end K21

namespace K21
open DL L2
abbrev IL (w : List Int) : D := .lst (w.map D.int)
theorem len_of {xs : List Int} {i : Nat} {δ : DL.Env} (h : eVar i δ = some (IL xs)) : eCB lenD (eCons (eVar i) eNil) δ = some (.int (xs.length : Int)) := by
  refine (cb_of (cons_of h nil_of)).trans ?_
  rw [len_lst, List.length_map]
theorem comp_cons {γ : D → DL.Env → Option DL.Env} {ε : DL.Env → Option D} {δ0 δ1 : DL.Env} {x y : D} {r ys : List D} (h1 : γ x δ0 = some δ1) (h2 : ε δ1 = some y) (h3 : compD γ (fun _ => some true) ε δ0 r = some ys) : compD γ (fun _ => some true) ε δ0 (x :: r) = some (y :: ys) := by
  unfold compD
  rw [h1]
  dsimp only
  rw [h2, h3]
theorem comp_emb {α : Type} (emb g : α → D) {ε : DL.Env → Option D} {δ0 : DL.Env} : ∀ L : List α, (∀ a ∈ L, ε (δ0.set 0 (some (emb a))) = some (g a)) → compD (gSet 0) (fun _ => some true) ε δ0 (L.map emb) = some (L.map g)
  | [], _ => rfl
  | a :: L, h => by
    rw [List.map_cons, List.map_cons]
    exact comp_cons (δ1 := δ0.set 0 (some (emb a))) rfl (h a List.mem_cons_self) (comp_emb emb g L fun x hx => h x (List.mem_cons_of_mem _ hx))
theorem comp_rng {ε : DL.Env → Option D} {δ0 : DL.Env} (g : Nat → D) (m : Nat) (h : ∀ j : Nat, j < m → ε (δ0.set 0 (some (.int (j : Int)))) = some (g j)) : compD (gSet 0) (fun _ => some true) ε δ0 (rngI 0 1 m) = some ((List.range m).map g) := by
  unfold rngI
  refine comp_emb (fun k : Nat => D.int (0 + (k : Int) * 1)) g (List.range m) fun j hj => ?_
  show ε (δ0.set 0 (some (.int (0 + (j : Int) * 1)))) = _
  rw [show (0 + (j : Int) * 1) = j by omega]
  exact h j (List.mem_range.mp hj)
theorem iotaA_of {ε : DL.Env → Option D} {δ : DL.Env} {xs : List D} (h : ε δ = some (.lst xs)) : iotaA ε δ = some xs := by
  unfold iotaA
  rw [h]
theorem setI_ints {i : Nat} {κ ε : DL.Env → Option D} {δ : DL.Env} {xs : List Int} {k : Nat} {x : Int} (hk : k < xs.length) (hv : eVar i δ = some (IL xs)) (h1 : κ δ = some (.int (k : Int))) (h2 : ε δ = some (.int x)) : sSetI i κ ε δ = some (.nx (δ.set i (some (IL (xs.set k x))))) := by
  unfold sSetI
  rw [h2, hv, h1]
  dsimp only
  rw [List.length_map, ixN_nat hk]
  dsimp only
  rw [← List.map_set]
theorem hide_of {i : Nat} {φ : DL.Env → Option Out} {δ δ0 δ' δ'' : DL.Env} (e : δ.set i none = δ0) (h : φ δ0 = some (.nx δ')) (hi : δ'[i]? = some none) (hr : δ'.set i ((δ[i]?).getD none) = δ'') : sHide i φ δ = some (.nx δ'') := by
  subst e hr
  exact hide_nx h hi
/-! ### the cells -/
noncomputable def fo1 : DL.Env → Option Out := (sAsg 5 (eOp modW (eOp subD (eVar 4) (eVar 1)) (eVar 2)))
noncomputable def fo2 : DL.Env → Option Out := (sSetI 3 (eVar 5) (eOp modW (eOp addX (eOp mulX (eOp ixD (eVar 3) (eVar 5)) (eC (.int 31))) (eOp ixD (eVar 0) (eVar 4))) (eC (.int 1000000000039))))
theorem folded_eq : f__law_folded = sSeq (sAsg 3 (eComp (iotaR (eCons (eVar 2) eNil)) (gSet 0) (fun _ => some true) (eOp addX (eOp mulX (eVar 0) (eVar 0)) (eVar 0)) 1 [])) (sSeq (sFor (iotaR (eCons (eVar 1) (eCons (eCB lenD (eCons (eVar 0) eNil)) eNil))) (gSet 4) (sSeq fo1 fo2)) (sRet (eVar 3))) := rfl
abbrev FE (ns : List Int) (cs : List Int) (v4 v5 : Option D) (b : Int) : DL.Env := [some (IL ns), some (.int b), some (.int 30), some (IL cs), v4, v5]
theorem folded_ok (ns : List Int) (b : Nat) (hb : b ≤ 10) (hl : ns.length ≤ 63) : ∃ cs : List Int, cs.length = 30 ∧ m__law_folded [IL ns, .int (b : Int), .int 30] = some (IL cs) := by
  have hc := comp_rng (ε := eOp addX (eOp mulX (eVar 0) (eVar 0)) (eVar 0)) (δ0 := [none]) (fun k : Nat => D.int ((k : Int) * (k : Int) + (k : Int))) 30 (fun k hk => by
    refine (op_of (x := .int ((k : Int) * k)) (y := .int (k : Int)) ((op_of (x := .int (k : Int)) (y := .int (k : Int)) rfl rfl).trans (mul_small (by omega) (by omega))) rfl).trans (add_int _ _))
  have e0 : ((List.range 30).map fun k : Nat => D.int ((k : Int) * (k : Int) + (k : Int))) = ((List.range 30).map fun k : Nat => (k : Int) * (k : Int) + (k : Int)).map D.int := by rw [List.map_map]; rfl
  rw [e0] at hc
  have hlen0 : ((List.range 30).map fun k : Nat => (k : Int) * (k : Int) + (k : Int)).length = 30 := by simp
  generalize ((List.range 30).map fun k : Nat => (k : Int) * (k : Int) + (k : Int)) = c0 at *
  have t0 : sAsg 3 (eComp (iotaR (eCons (eVar 2) eNil)) (gSet 0) (fun _ => some true) (eOp addX (eOp mulX (eVar 0) (eVar 0)) (eVar 0)) 1 []) [some (IL ns), some (.int (b : Int)), some (.int 30), none, none, none] = some (.nx (FE ns c0 none none (b : Int))) := asg_of (comp_of (iotaR1 (j := 30) rfl (by decide) (by decide)) rfl hc (by rw [List.length_map, hlen0]; decide))
  obtain ⟨δ', h1, cs, v4, v5, e, hcl⟩ := forD_keep (γ := gSet 4) (φ := sSeq fo1 fo2) (fun δ => ∃ cs v4 v5, δ = FE ns cs v4 v5 (b : Int) ∧ cs.length = 30) (rngI (b : Int) 1 ((ns.length : Int) - b).toNat) (FE ns c0 none none (b : Int)) ⟨_, _, _, rfl, hlen0⟩ (by
    intro x hx δ ⟨cs, v4, v5, e, hcl⟩
    subst e
    obtain ⟨k, hk, rfl⟩ := rng_mem hx
    rw [show ((b : Int) + (k : Int) * 1) = ((b + k : Nat) : Int) by omega]
    obtain ⟨at', ha, ha30⟩ := mod_nat (k : Int) (m := 30) (by decide)
    have t1 : fo1 (FE ns cs (some (.int ((b + k : Nat) : Int))) v5 (b : Int)) = some (.nx (FE ns cs (some (.int ((b + k : Nat) : Int))) (some (.int (at' : Int))) (b : Int))) := by
      unfold fo1
      refine asg_of ((op_of (x := .int (k : Int)) (y := .int 30) ((op_of (x := .int ((b + k : Nat) : Int)) (y := .int (b : Int)) rfl rfl).trans ?_) rfl).trans ((modP (by decide)).trans ?_))
      · show some (D.int (((b + k : Nat) : Int) - (b : Int))) = _
        exact congrArg (fun z => some (D.int z)) (by omega)
      · exact congrArg (fun z => some (D.int z)) ha
    have t2 : fo2 (FE ns cs (some (.int ((b + k : Nat) : Int))) (some (.int (at' : Int))) (b : Int)) = some (.nx (FE ns (cs.set at' ((cs.getD at' 0 * 31 + ns.getD (b + k) 0) % 1000000000039)) (some (.int ((b + k : Nat) : Int))) (some (.int (at' : Int))) (b : Int))) := by
      unfold fo2
      refine (setI_ints (by omega) rfl rfl ((op_of (x := .int (cs.getD at' 0 * 31 + ns.getD (b + k) 0)) (y := .int 1000000000039) ((op_of (x := .int (cs.getD at' 0 * 31)) (y := .int (ns.getD (b + k) 0)) ((op_of (x := .int (cs.getD at' 0)) (y := .int 31) ((op_of (x := IL cs) (y := .int (at' : Int)) rfl rfl).trans (ix_ints (by omega))) rfl).trans (mul_small (by decide) (by decide))) ((op_of (x := IL ns) (y := .int ((b + k : Nat) : Int)) rfl rfl).trans (ix_ints (by omega)))).trans (add_int _ _)) rfl).trans (modP (by decide)))).trans rfl
    exact ⟨_, rfl, _, (seq_nx t1).trans t2, _, _, _, rfl, by rw [List.length_set]; exact hcl⟩)
  subst e
  refine ⟨cs, hcl, run_of (δ := [some (IL ns), some (.int (b : Int)), some (.int 30), none, none, none]) rfl ?_⟩
  rw [folded_eq, seq_nx t0]
  refine (seq_nx (for_of (iotaR2 (i := (b : Int)) (j := (ns.length : Int)) (cons_of (x := .int (b : Int)) rfl (cons_of (len_of rfl) nil_of)) (by omega) (by omega) (by omega) (by omega)) h1)).trans rfl
/-! ### the spots that are taken -/
abbrev tkK (tk : List Nat) : List Key := tk.map fun t : Nat => (.inl (t : Int) : Key)
def TK (tk : List Nat) : D := .dct (tkK tk) (tk.map fun _ => .bl true)
theorem memK_nat (t : Nat) : ∀ tk : List Nat, memK (.inl (t : Int)) (tkK tk) = decide (t ∈ tk)
  | [] => by simp [memK, tkK]
  | u :: tk => by
    show (decide ((.inl (u : Int) : Key) = .inl (t : Int)) || memK (.inl (t : Int)) (tkK tk)) = _
    rw [memK_nat t tk]
    by_cases h : u = t
    · subst h
      simp
    · have h2 : ¬ t = u := fun z => h z.symm
      have h3 : ¬ ((.inl (u : Int) : Key) = .inl (t : Int)) := fun z => by
        have := Sum.inl.inj z
        omega
      simp [h2, h3]
theorem notin_of (t : Nat) (tk : List Nat) : inK true (.int (t : Int)) (TK tk) = some (.bl (!decide (t ∈ tk))) := by
  show some (D.bl (true != memK (.inl (t : Int)) (tkK tk))) = _
  rw [memK_nat]
  cases decide (t ∈ tk) <;> rfl
theorem putK_of {i : Nat} {κ : DL.Env → Option D} {δ : DL.Env} {tk : List Nat} {t : Nat} (h1 : eVar i δ = some (TK tk)) (h2 : κ δ = some (.int (t : Int))) (hn : t ∉ tk) (hl : tk.length ≤ 1000) : sPutK i κ (eC (.bl true)) δ = some (.nx (δ.set i (some (TK (tk ++ [t]))))) := by
  unfold sPutK
  rw [h1, h2]
  show (if (tkK tk).length < PySem.sizeLine then some (Out.nx (δ.set i (some (putD (tkK tk) (tk.map fun _ => .bl true) (.inl (t : Int)) (.bl true))))) else none) = _
  rw [if_pos (by rw [List.length_map, PySem.sizeLine_eq]; omega)]
  unfold putD
  rw [memK_nat, decide_eq_false hn, if_neg (by simp)]
  unfold TK tkK
  rw [List.map_append, List.map_append]
  rfl
theorem pig : ∀ (N : Nat) (tk : List Nat), (∀ p, p < N → p ∈ tk) → N ≤ tk.length
  | 0, _, _ => Nat.zero_le _
  | N + 1, tk, h => by
    have hm := h N (Nat.lt_succ_self N)
    have ih := pig N (tk.erase N) fun p hp => (List.mem_erase_of_ne (by omega)).mpr (h p (by omega))
    rw [List.length_erase_of_mem hm] at ih
    have := List.length_pos_of_mem hm
    omega
end K21

namespace K21
open DL L2
theorem mul_an (a n : Nat) (hn : n ≤ 100) {i j : DL.Env → Option D} {δ : DL.Env} (h1 : i δ = some (.int (a : Int))) (h2 : j δ = some (.int (n : Int))) : eOp mulX i j δ = some (.int ((a * n : Nat) : Int)) := by
  refine (op_of h1 h2).trans ((mul_small (by omega) (by omega)).trans ?_)
  rw [Int.natCast_mul]
theorem div_of {i j : DL.Env → Option D} {δ : DL.Env} {s n : Nat} (h1 : i δ = some (.int (s : Int))) (h2 : j δ = some (.int (n : Int))) (hn : 0 < n) (hn4 : n ≤ 100) : eOp fdivW i j δ = some (.int ((s / n : Nat) : Int)) := by
  refine (op_of h1 h2).trans ((divP (by omega) (by omega)).trans ?_)
  rw [Int.natCast_ediv]
theorem mod_of {i j : DL.Env → Option D} {δ : DL.Env} {s n : Nat} (h1 : i δ = some (.int (s : Int))) (h2 : j δ = some (.int (n : Int))) (hn : 0 < n) : eOp modW i j δ = some (.int ((s % n : Nat) : Int)) := by
  refine (op_of h1 h2).trans ((modP (by omega)).trans ?_)
  rw [Int.natCast_emod]
/-! ### every room is led to -/
noncomputable def lnE : DL.Env → Option D := (eCB lenD (eCons (eOp ixD (eVar 0) (eC (.int 0))) eNil))
noncomputable def nuE : DL.Env → Option D := (eOp modW (eOp addX (eOp ixD (eVar 1) (eOp addX (eC (.int 24)) (eVar 3))) (eVar 5)) (eOp mulX (eVar 3) lnE))
noncomputable def d1 : DL.Env → Option Out := (sHide 0 (sAsg 4 (eC .non)))
noncomputable def ib1 : DL.Env → Option Out := (sAsg 6 (eScal nuE))
noncomputable def ib2 : DL.Env → Option Out := (sIf (xAnd (xB (eIsN (eVar 4))) (xB (eOp (inK true) (eVar 6) (eVar 2)))) (sHide 0 (sAsg 4 (eVar 6))) sNext)
noncomputable def d2 : DL.Env → Option Out := (sFor (iotaR (eCons (eOp mulX (eVar 3) lnE) eNil)) (gSet 5) (sSeq ib1 ib2))
noncomputable def d3 : DL.Env → Option Out := (sHide 0 (sPutK 2 (eVar 4) (eC (.bl true))))
noncomputable def d4 : DL.Env → Option Out := (sSet2 0 (eOp fdivW (eVar 4) lnE) (eOp modW (eVar 4) lnE) (eVar 3))
theorem led_eq : f__law_led_to = sSeq (sHide 0 (sAsg 2 (eC (.dct [] [])))) (sFor (iotaR (eCons (eC (.int 1)) (eCons (eCB lenD (eCons (eVar 0) eNil)) eNil))) (gSet 3) (sSeq d1 (sSeq d2 (sSeq d3 d4)))) := rfl
abbrev GE (W : Wy) (cs : List Int) (v2 v3 v4 v5 v6 : Option D) : DL.Env := [some (matD W), some (IL cs), v2, v3, v4, v5, v6]
section
variable {m n : Nat} {W : Wy} {cs : List Int}
theorem ln_of (h : Ok m n W) (v2 v3 v4 v5 v6 : Option D) : lnE (GE W cs v2 v3 v4 v5 v6) = some (.int (n : Int)) := by
  obtain ⟨r, h1, h2, h3⟩ := h.row h.m0
  unfold lnE
  refine (cb_of (cons_of (ix1_of h (a := 0) h.m0 rfl rfl) nil_of)).trans ?_
  rw [h2]
  show some (D.int ((r.map oD).length : Int)) = _
  rw [List.length_map, h3.ln]
theorem nu_of (h : Ok m n W) (hc : cs.length = 30) (a s : Nat) (ha0 : 0 < a) (ha : a < m) (v2 v4 v6 : Option D) : ∃ q : Nat, q < a * n ∧ (q : Int) = (cs.getD (24 + a) 0 + s) % ((a * n : Nat) : Int) ∧ nuE (GE W cs v2 (some (.int (a : Int))) v4 (some (.int (s : Int))) v6) = some (.int (q : Int)) := by
  have hm6 := h.m6
  have hn2 := h.n2
  have hn4 := h.n4
  have hN : 0 < a * n := Nat.mul_pos ha0 (by omega)
  obtain ⟨q, hq, hqN⟩ := mod_nat (cs.getD (24 + a) 0 + s) hN
  refine ⟨q, hqN, hq.symm, ?_⟩
  unfold nuE
  refine (op_of (x := .int (cs.getD (24 + a) 0 + s)) (y := .int ((a * n : Nat) : Int)) ((op_of (x := .int (cs.getD (24 + a) 0)) (y := .int (s : Int)) ((op_of (x := IL cs) (y := .int ((24 + a : Nat) : Int)) rfl ((op_of (x := .int 24) (y := .int (a : Int)) rfl rfl).trans ?_)).trans (ix_ints (by omega))) rfl).trans (add_int _ _)) (mul_an a n (by omega) rfl (ln_of h _ _ _ _ _))).trans ((modP (by omega)).trans ?_)
  · rw [add_int, Int.natCast_add]
    rfl
  · rw [hq]
theorem i_turn (h : Ok m n W) (hc : cs.length = 30) (tk : List Nat) (a s : Nat) (ha0 : 0 < a) (ha : a < m) (x : Option Nat) (v6 : Option D) : ∃ q : Nat, q < a * n ∧ (q : Int) = (cs.getD (24 + a) 0 + s) % ((a * n : Nat) : Int) ∧ sSeq ib1 ib2 (GE W cs (some (TK tk)) (some (.int (a : Int))) (some (oD x)) (some (.int (s : Int))) v6) = some (.nx (GE W cs (some (TK tk)) (some (.int (a : Int))) (some (oD (match x with
    | none => if q ∈ tk then none else some q
    | some p => some p))) (some (.int (s : Int))) (some (.int (q : Int))))) := by
  obtain ⟨q, hq, hq2, hv⟩ := nu_of h hc a s ha0 ha (some (TK tk)) (some (oD x)) v6
  refine ⟨q, hq, hq2, ?_⟩
  have t1 : ib1 (GE W cs (some (TK tk)) (some (.int (a : Int))) (some (oD x)) (some (.int (s : Int))) v6) = some (.nx (GE W cs (some (TK tk)) (some (.int (a : Int))) (some (oD x)) (some (.int (s : Int))) (some (.int (q : Int))))) := by
    unfold ib1
    exact asg_of (scal_of' hv rfl)
  rw [seq_nx t1]
  unfold ib2
  cases x with
  | some p => exact (if_no (xAnd_no (xB_of rfl))).trans rfl
  | none =>
    have e2 : xB (eOp (inK true) (eVar 6) (eVar 2)) (GE W cs (some (TK tk)) (some (.int (a : Int))) (some (oD none)) (some (.int (s : Int))) (some (.int (q : Int)))) = some (!decide (q ∈ tk)) := xB_of ((op_of (x := .int (q : Int)) (y := TK tk) rfl rfl).trans (notin_of q tk))
    have e3 := xAnd_yes (a := xB (eIsN (eVar 4))) (xB_of rfl) e2
    by_cases hm : q ∈ tk
    · rw [if_no (by rw [e3, decide_eq_true hm]; rfl)]
      show _ = some (Out.nx (GE W cs (some (TK tk)) (some (.int (a : Int))) (some (oD (if q ∈ tk then none else some q))) (some (.int (s : Int))) (some (.int (q : Int)))))
      rw [if_pos hm]
      rfl
    · rw [if_yes (by rw [e3, decide_eq_false hm]; rfl)]
      show _ = some (Out.nx (GE W cs (some (TK tk)) (some (.int (a : Int))) (some (oD (if q ∈ tk then none else some q))) (some (.int (s : Int))) (some (.int (q : Int)))))
      rw [if_neg hm]
      exact hide_of (δ0 := [none, some (IL cs), some (TK tk), some (.int (a : Int)), some (oD none), some (.int (s : Int)), some (.int (q : Int))]) (δ' := [none, some (IL cs), some (TK tk), some (.int (a : Int)), some (.int (q : Int)), some (.int (s : Int)), some (.int (q : Int))]) rfl (asg_of rfl) rfl rfl
theorem surj (c : Int) {N : Nat} (hN : 0 < N) {p : Nat} (hp : p < N) : ∃ s : Nat, s < N ∧ (c + s) % (N : Int) = (p : Int) := by
  obtain ⟨s, hs, hsN⟩ := mod_nat ((p : Int) - c) hN
  refine ⟨s, hsN, ?_⟩
  rw [← hs, Int.add_emod_emod, show c + ((p : Int) - c) = (p : Int) by omega]
  exact Int.emod_eq_of_lt (by omega) (by omega)
theorem i_all (h : Ok m n W) (hc : cs.length = 30) (tk : List Nat) (a : Nat) (ha0 : 0 < a) (ha : a < m) (ht : tk.length < a * n) (v5 v6 : Option D) : ∃ p w5 w6, p < a * n ∧ p ∉ tk ∧ d2 (GE W cs (some (TK tk)) (some (.int (a : Int))) (some .non) v5 v6) = some (.nx (GE W cs (some (TK tk)) (some (.int (a : Int))) (some (.int (p : Nat))) w5 w6)) := by
  have hm6 := h.m6
  have hn4 := h.n4
  have hn2 := h.n2
  have hN : 0 < a * n := Nat.mul_pos ha0 (by omega)
  have hNb : a * n ≤ 6 * 4 := Nat.mul_le_mul (by omega) hn4
  obtain ⟨δ', h1, x, w5, w6, e, hx⟩ := forD_inv (γ := gSet 5) (φ := sSeq ib1 ib2) (fun j δ => ∃ (x : Option Nat) (v5 v6 : Option D), δ = GE W cs (some (TK tk)) (some (.int (a : Int))) (some (oD x)) v5 v6 ∧ ((∃ p, x = some p ∧ p < a * n ∧ p ∉ tk) ∨ (x = none ∧ ∀ s : Nat, s < j → ∃ q : Nat, q ∈ tk ∧ (q : Int) = (cs.getD (24 + a) 0 + s) % ((a * n : Nat) : Int)))) (rngI 0 1 (a * n)) 0 (GE W cs (some (TK tk)) (some (.int (a : Int))) (some .non) v5 v6) ⟨none, _, _, rfl, .inr ⟨rfl, fun s hs => absurd hs (by omega)⟩⟩ (by
    intro j y δ hy ⟨x, v5, v6, e, hx⟩
    subst e
    obtain ⟨hj, rfl⟩ := rng_get hy
    rw [Nat.zero_add] at hx ⊢
    obtain ⟨q, hq, hq2, t⟩ := i_turn h hc tk a j ha0 ha x v6
    refine ⟨_, rfl, _, t, _, _, _, rfl, ?_⟩
    rcases hx with ⟨p, rfl, hp1, hp2⟩ | ⟨rfl, hs⟩
    · exact .inl ⟨p, rfl, hp1, hp2⟩
    · by_cases hm : q ∈ tk
      · refine .inr ⟨if_pos hm, fun s hs' => ?_⟩
        by_cases hsj : s = j
        · rw [hsj]; exact ⟨q, hm, hq2⟩
        · exact hs s (by omega)
      · exact .inl ⟨q, if_neg hm, hq, hm⟩)
  subst e
  rw [rng_len, Nat.zero_add] at hx
  rcases hx with ⟨p, rfl, hp1, hp2⟩ | ⟨rfl, hs⟩
  · refine ⟨p, w5, w6, hp1, hp2, ?_⟩
    unfold d2
    exact for_of ((iotaR1 (j := ((a * n : Nat) : Int)) (cons_of (mul_an a n (by omega) rfl (ln_of h _ _ _ _ _)) nil_of) (by omega) (by omega)).trans (by rw [Int.toNat_natCast])) h1
  · exfalso
    have := pig (a * n) tk fun p hp => by
      obtain ⟨s, hsN, e⟩ := surj (cs.getD (24 + a) 0) hN hp
      obtain ⟨q, hq, e2⟩ := hs s hsN
      have : q = p := by omega
      rw [← this]
      exact hq
    omega
theorem l_turn (h : Ok m n W) (hc : cs.length = 30) (tk : List Nat) (a : Nat) (ha0 : 0 < a) (ha : a < m) (ht : tk.length = a - 1) (v4 v5 v6 : Option D) : ∃ W' p w4 w5 w6, Ok m n W' ∧ sSeq d1 (sSeq d2 (sSeq d3 d4)) (GE W cs (some (TK tk)) (some (.int (a : Int))) v4 v5 v6) = some (.nx (GE W' cs (some (TK (tk ++ [p]))) (some (.int (a : Int))) w4 w5 w6)) := by
  have hm6 := h.m6
  have hn4 := h.n4
  have hn2 := h.n2
  have hN : a * 2 ≤ a * n := Nat.mul_le_mul_left a hn2
  obtain ⟨p, w5, w6, hp, hpn, t2⟩ := i_all h hc tk a ha0 ha (by omega) v5 v6
  have t1 : d1 (GE W cs (some (TK tk)) (some (.int (a : Int))) v4 v5 v6) = some (.nx (GE W cs (some (TK tk)) (some (.int (a : Int))) (some .non) v5 v6)) := by
    unfold d1
    exact hide_of (δ0 := [none, some (IL cs), some (TK tk), some (.int (a : Int)), v4, v5, v6]) (δ' := [none, some (IL cs), some (TK tk), some (.int (a : Int)), some .non, v5, v6]) rfl (asg_of rfl) rfl rfl
  have t3 : d3 (GE W cs (some (TK tk)) (some (.int (a : Int))) (some (.int (p : Nat))) w5 w6) = some (.nx (GE W cs (some (TK (tk ++ [p]))) (some (.int (a : Int))) (some (.int (p : Nat))) w5 w6)) := by
    unfold d3
    exact hide_of (δ0 := [none, some (IL cs), some (TK tk), some (.int (a : Int)), some (.int (p : Nat)), w5, w6]) (δ' := [none, some (IL cs), some (TK (tk ++ [p])), some (.int (a : Int)), some (.int (p : Nat)), w5, w6]) rfl (putK_of rfl rfl hpn (by omega)) rfl rfl
  have hpa : p / n < a := (Nat.div_lt_iff_lt_mul (by omega)).mpr hp
  have hpm : p % n < n := Nat.mod_lt _ (by omega)
  refine ⟨put W (p / n) (p % n) (some a), p, some (.int (p : Nat)), w5, w6, h.put (by omega) ha, ?_⟩
  rw [seq_nx t1, seq_nx t2, seq_nx t3]
  unfold d4
  exact (set2_of h (by omega) hpm rfl (div_of (s := p) (n := n) rfl (ln_of h _ _ _ _ _) (by omega) (by omega)) (mod_of (s := p) (n := n) rfl (ln_of h _ _ _ _ _) (by omega)) rfl).trans rfl
theorem len_mat {i : Nat} {δ : DL.Env} (h : Ok m n W) (hi : eVar i δ = some (matD W)) : eCB lenD (eCons (eVar i) eNil) δ = some (.int (m : Int)) := by
  refine (cb_of (cons_of hi nil_of)).trans ?_
  show some (D.int ((W.map rowL).length : Int)) = _
  rw [List.length_map, h.ln]
theorem runI_of {n : Nat} {f : DL.Env → Option Out} {vs : List D} {δ δ' : DL.Env} {d : D} (h1 : (vs.map some ++ List.replicate (n - vs.length) none) = δ) (h2 : f δ = some (.nx δ')) (h3 : eVar 0 δ' = some d) : DL.runI n f vs = some d := by
  unfold DL.runI
  rw [h1, h2]
  exact h3
theorem led_ok (h : Ok m n W) (hc : cs.length = 30) : ∃ W', Ok m n W' ∧ m__law_led_to [matD W, IL cs] = some (matD W') := by
  have hm6 := h.m6
  have hm0 := h.m0
  have t0 : sHide 0 (sAsg 2 (eC (.dct [] []))) (GE W cs none none none none none) = some (.nx (GE W cs (some (TK [])) none none none none)) := hide_of (δ0 := [none, some (IL cs), none, none, none, none, none]) (δ' := [none, some (IL cs), some (TK []), none, none, none, none]) rfl (asg_of rfl) rfl rfl
  obtain ⟨δ', h1, W', tk, v3, v4, v5, v6, e, hW, _⟩ := forD_inv (γ := gSet 3) (φ := sSeq d1 (sSeq d2 (sSeq d3 d4))) (fun k δ => ∃ W tk v3 v4 v5 v6, δ = GE W cs (some (TK tk)) v3 v4 v5 v6 ∧ Ok m n W ∧ tk.length = k) (rngI 1 1 (m - 1)) 0 (GE W cs (some (TK [])) none none none none) ⟨W, [], _, _, _, _, rfl, h, rfl⟩ (by
    intro j x δ hx ⟨W, tk, v3, v4, v5, v6, e, hW, ht⟩
    subst e
    obtain ⟨hj, rfl⟩ := rngI_get hx
    rw [show (1 + (j : Int) * 1) = ((j + 1 : Nat) : Int) by omega]
    obtain ⟨W', p, w4, w5, w6, h2, h3⟩ := l_turn hW hc tk (j + 1) (by omega) (by omega) (by omega) v4 v5 v6
    exact ⟨_, rfl, _, h3, W', _, _, _, _, _, rfl, h2, by rw [List.length_append, ht]; rfl⟩)
  subst e
  refine ⟨W', hW, ?_⟩
  have hf : f__law_led_to (GE W cs none none none none none) = some (.nx (GE W' cs (some (TK tk)) v3 v4 v5 v6)) := by
    rw [led_eq, seq_nx t0]
    exact for_of ((iotaR2 (i := 1) (j := (m : Int)) (cons_of rfl (cons_of (len_mat h rfl) nil_of)) (by omega) (by omega) (by decide) (by decide)).trans (by rw [show ((m : Int) - 1).toNat = m - 1 by omega])) h1
  exact runI_of rfl hf rfl
end
end K21

namespace K21
open DL L2
def el (m : Nat) (c : Int) : Option Nat := if c % 3 = 0 then none else some (c / 3 % (m : Int)).toNat
noncomputable def xE : DL.Env → Option D := (eOp modW (eOp fdivW (eVar 7) (eC (.int 3))) (eVar 1))
noncomputable def pE : DL.Env → Option D := (eOp ixD (eLst (eCons (eC .non) (eCons xE (eCons xE eNil)))) (eOp modW (eVar 7) (eC (.int 3))))
noncomputable def g1 : DL.Env → Option Out := (sHide 3 (sAsg 5 (eLst eNil)))
noncomputable def gi1 : DL.Env → Option Out := (sAsg 7 (eOp ixD (eVar 0) (eOp addX (eOp mulX (eVar 4) (eVar 2)) (eVar 6))))
noncomputable def gF : DL.Env → Option Out := (sFor (iotaR (eCons (eVar 2) eNil)) (gSet 6) (sSeq gi1 (sApp 5 pE)))
noncomputable def fcE : DL.Env → Option D := (eComp (iotaA (eOp ixD (eVar 3) (eVar 4))) (gSet 0) (xB (eNotN (eVar 0))) (eVar 0) 1 [])
noncomputable def c1 : DL.Env → Option Out := (sIf (xB (eOp eqD (eCB lenD (eCons fcE eNil)) (eC (.int 0)))) (sSet2 3 (eVar 4) (eOp modW (eOp fdivW (eOp ixD (eVar 0) (eVar 4)) (eC (.int 7))) (eVar 2)) (eOp modW (eOp fdivW (eOp ixD (eVar 0) (eVar 4)) (eC (.int 35))) (eVar 1))) sNext)
def tupC : DL.Env → Option D := (eCB tupleD (eCons (eVar 0) eNil))
theorem ways_eq : f__law_ways = sSeq (sMat 3 (eLst eNil)) (sSeq (sFor (iotaR (eCons (eVar 1) eNil)) (gSet 4) (sSeq g1 (sSeq (sHide 3 gF) (sPush 3 5)))) (sSeq (sCallU 3 2 m__law_led_to (eCons (eVar 0) eNil)) (sSeq (sFor (iotaR (eCons (eVar 1) eNil)) (gSet 4) c1) (sRet (eCB tupleD (eCons (eComp (iotaA (eVar 3)) (gSet 0) (fun _ => some true) tupC 1 []) eNil)))))) := rfl
abbrev HE (cs : List Int) (m n : Nat) (v3 v4 v5 v6 v7 : Option D) : DL.Env := [some (IL cs), some (.int (m : Int)), some (.int (n : Int)), v3, v4, v5, v6, v7]
theorem el_at (x : Int) {v : Int} (h0 : 0 ≤ v) (h1 : v < 3) : ixD (.lst [.non, .int x, .int x]) (.int v) = some (if v = 0 then .non else .int x) := by
  have : v = 0 ∨ v = 1 ∨ v = 2 := by omega
  rcases this with rfl | rfl | rfl <;> rfl
theorem p_of (cs : List Int) (m n : Nat) (hm : 0 < m) (hm6 : m ≤ 6) (c : Int) (v3 v4 v5 v6 : Option D) : pE (HE cs m n v3 v4 v5 v6 (some (.int c))) = some (oD (el m c)) := by
  have hx : xE (HE cs m n v3 v4 v5 v6 (some (.int c))) = some (.int (c / 3 % (m : Int))) := by
    unfold xE
    exact (op_of (x := .int (c / 3)) (y := .int (m : Int)) ((op_of (x := .int c) (y := .int 3) rfl rfl).trans (divP (by decide) (by decide))) rfl).trans (modP (by omega))
  unfold pE
  refine (op_of (x := .lst [.non, .int (c / 3 % (m : Int)), .int (c / 3 % (m : Int))]) (y := .int (c % 3)) (lst_of (cons_of (x := .non) rfl (cons_of hx (cons_of hx nil_of))) (by show 3 ≤ 1000; decide)) ((op_of (x := .int c) (y := .int 3) rfl rfl).trans (modP (by decide)))).trans ((el_at _ (by omega) (by omega)).trans ?_)
  unfold el
  by_cases h : c % 3 = 0
  · rw [if_pos h, if_pos h]
    rfl
  · rw [if_neg h, if_neg h]
    show some (D.int (c / 3 % (m : Int))) = some (D.int (((c / 3 % (m : Int)).toNat : Nat) : Int))
    rw [Int.toNat_of_nonneg (Int.emod_nonneg _ (by omega))]
theorem el_lt {m : Nat} (hm : 0 < m) {c : Int} {t : Nat} (h : el m c = some t) : t < m := by
  unfold el at h
  by_cases hc : c % 3 = 0
  · rw [if_pos hc] at h; cases h
  · rw [if_neg hc] at h
    cases h
    have := Int.emod_lt_of_pos (c / 3) (show 0 < (m : Int) by omega)
    omega
theorem push_of {i k : Nat} {δ : DL.Env} {xs r : List D} (h1 : eVar i δ = some (.lst xs)) (h2 : eVar k δ = some (.lst r)) (hl : xs.length ≤ 1000) (hs : r.all scalar = true) : sPush i k δ = some (.nx ((δ.set k none).set i (some (.lst (xs ++ [.lst r]))))) := by
  unfold sPush
  rw [h1, h2]
  exact if_pos ⟨by rw [PySem.sizeLine_eq]; omega, hs⟩
theorem row_sc (r : List (Option Nat)) : (r.map oD).all scalar = true := by
  rw [List.all_map]
  exact List.all_eq_true.mpr fun x _ => by cases x <;> rfl
theorem g_row (cs : List Int) (hc : cs.length = 30) (m n : Nat) (hm : 0 < m) (hm6 : m ≤ 6) (hn4 : n ≤ 4) (a : Nat) (ha : a < m) (v6 v7 : Option D) : ∃ r w6 w7, Ok1 m n r ∧ gF (HE cs m n none (some (.int (a : Int))) (some (.lst [])) v6 v7) = some (.nx (HE cs m n none (some (.int (a : Int))) (some (rowL r)) w6 w7)) := by
  obtain ⟨δ', h1, r, w6, w7, e, hl, hp⟩ := forD_inv (γ := gSet 6) (φ := sSeq gi1 (sApp 5 pE)) (fun k δ => ∃ (r : List (Option Nat)) (v6 v7 : Option D), δ = HE cs m n none (some (.int (a : Int))) (some (rowL r)) v6 v7 ∧ r.length = k ∧ ∀ t, some t ∈ r → t < m) (rngI 0 1 n) 0 (HE cs m n none (some (.int (a : Int))) (some (.lst [])) v6 v7) ⟨[], _, _, rfl, rfl, fun t z => by cases z⟩ (by
    intro j x δ hx ⟨r, v6, v7, e, hl, hp⟩
    subst e
    obtain ⟨hj, rfl⟩ := rng_get hx
    rw [Nat.zero_add] at hl ⊢
    have hb : a * n ≤ 5 * 4 := Nat.mul_le_mul (by omega) hn4
    have t1 : gi1 (HE cs m n none (some (.int (a : Int))) (some (rowL r)) (some (.int (j : Int))) v7) = some (.nx (HE cs m n none (some (.int (a : Int))) (some (rowL r)) (some (.int (j : Int))) (some (.int (cs.getD (a * n + j) 0))))) := by
      unfold gi1
      refine asg_of ((op_of (x := IL cs) (y := .int ((a * n + j : Nat) : Int)) rfl ((op_of (x := .int ((a * n : Nat) : Int)) (y := .int (j : Int)) (mul_an a n (by omega) rfl rfl) rfl).trans ?_)).trans (ix_ints (by omega)))
      rw [add_int, Int.natCast_add]
    refine ⟨_, rfl, HE cs m n none (some (.int (a : Int))) (some (rowL (r ++ [el m (cs.getD (a * n + j) 0)]))) (some (.int (j : Int))) (some (.int (cs.getD (a * n + j) 0))), (seq_nx t1).trans ((app_of (xs := r.map oD) rfl (p_of cs m n hm hm6 _ _ _ _ _) (by rw [List.length_map]; omega)).trans ?_), _, _, _, rfl, by rw [List.length_append, hl]; rfl, fun t ht => ?_⟩
    · have er : r.map oD ++ [oD (el m (cs.getD (a * n + j) 0))] = (r ++ [el m (cs.getD (a * n + j) 0)]).map oD := by rw [List.map_append]; rfl
      rw [er]
      rfl
    · rcases List.mem_append.mp ht with z | z
      · exact hp t z
      · exact el_lt hm (List.mem_singleton.mp z).symm)
  subst e
  rw [rng_len, Nat.zero_add] at hl
  refine ⟨r, w6, w7, ⟨hl, hp⟩, ?_⟩
  unfold gF
  exact for_of ((iotaR1 (j := (n : Int)) rfl (by omega) (by omega)).trans (by rw [Int.toNat_natCast])) h1
theorem mat_of {i : Nat} {ε : DL.Env → Option D} {δ : DL.Env} {d : D} (h : ε δ = some d) (hi : i < δ.length) : sMat i ε δ = some (.nx (δ.set i (some d))) := by
  unfold sMat
  rw [h]
  exact if_pos hi
theorem callU_of {i n : Nat} {mm : List D → Option D} {α : DL.Env → Option (List D)} {δ : DL.Env} {d d' : D} {ds : List D} (h1 : eVar i δ = some d) (h2 : α (δ.set i none) = some ds) (hn : ds.length + 1 = n) (h3 : mm (d :: ds) = some d') : sCallU i n mm α δ = some (.nx (δ.set i (some d'))) := by
  unfold sCallU
  rw [h1, h2]
  dsimp only
  rw [if_pos (by rw [List.length_cons]; exact hn), h3]
def Live (W : Wy) : Prop := ∀ r ∈ W, ∃ t, some t ∈ r
theorem fc_of {m n : Nat} {W : Wy} (h : Ok m n W) (cs : List Int) (a : Nat) (ha : a < m) (v5 v6 v7 : Option D) : fcE (HE cs m n (some (matD W)) (some (.int (a : Int))) v5 v6 v7) = some (.lst ((((W.getD a []).map oD).filter fun d => !isNon d).map id)) := by
  have hn4 := h.n4
  obtain ⟨r, h1, h2, h3⟩ := h.row ha
  have hx := ix1_of h (κ0 := eVar 3) (κ1 := eVar 4) (δ := HE cs m n (some (matD W)) (some (.int (a : Int))) v5 v6 v7) ha rfl rfl
  unfold fcE
  refine comp_of (iotaA_of hx) rfl (compD_filter (δ0 := [none]) (fun d => !isNon d) id _ fun x _ => ⟨[some x], rfl, xB_of rfl, fun _ => rfl⟩) ?_
  rw [List.length_map, h2]
  have := List.length_filter_le (fun d => !isNon d) (r.map oD)
  rw [List.length_map, h3.ln] at this
  omega
theorem put_row {W : Wy} {a k : Nat} {x : Option Nat} {r : List (Option Nat)} (hr : r ∈ put W a k x) : r ∈ W ∨ r = (W.getD a []).set k x := by
  unfold put at hr
  rcases List.mem_or_eq_of_mem_set hr with z | z
  · exact .inl z
  · exact .inr z
theorem put_at {W : Wy} {a k b : Nat} {x : Option Nat} (hb : b ≠ a) : (put W a k x).getD b [] = W.getD b [] := by
  unfold put
  rw [List.getD_eq_getElem?_getD, List.getElem?_set_ne (Ne.symm hb), ← List.getD_eq_getElem?_getD]
theorem put_same {W : Wy} {a k : Nat} {x : Option Nat} (ha : a < W.length) : (put W a k x).getD a [] = (W.getD a []).set k x := by
  unfold put
  rw [List.getD_eq_getElem?_getD, List.getElem?_set_self ha]
  rfl
theorem c_turn {m n : Nat} {W : Wy} (h : Ok m n W) (cs : List Int) (hc : cs.length = 30) (a : Nat) (ha : a < m) (hL : ∀ b, b < a → ∃ t, some t ∈ W.getD b []) (v5 v6 v7 : Option D) : ∃ W', Ok m n W' ∧ (∀ b, b < a + 1 → ∃ t, some t ∈ W'.getD b []) ∧ c1 (HE cs m n (some (matD W)) (some (.int (a : Int))) v5 v6 v7) = some (.nx (HE cs m n (some (matD W')) (some (.int (a : Int))) v5 v6 v7)) := by
  have hm6 := h.m6
  have hn2 := h.n2
  have hn4 := h.n4
  obtain ⟨r, h1, h2, h3⟩ := h.row ha
  have e0 : xB (eOp eqD (eCB lenD (eCons fcE eNil)) (eC (.int 0))) (HE cs m n (some (matD W)) (some (.int (a : Int))) v5 v6 v7) = some (decide (((((r.map oD).filter fun d => !isNon d).map id).length : Int) = 0)) := by
    have := fc_of h cs a ha v5 v6 v7
    rw [h2] at this
    exact xB_of ((op_of (x := .int ((((r.map oD).filter fun d => !isNon d).map id).length : Int)) (y := .int 0) ((cb_of (cons_of this nil_of)).trans rfl) rfl).trans (eqD_int _ _))
  unfold c1
  by_cases hz : ((((r.map oD).filter fun d => !isNon d).map id).length : Int) = 0
  · obtain ⟨k, hk, hkn⟩ := mod_nat (cs.getD a 0 / 7) (show 0 < n by omega)
    obtain ⟨t, ht, htm⟩ := mod_nat (cs.getD a 0 / 35) (show 0 < m by omega)
    have hca : ∀ v, eOp ixD (eVar 0) (eVar 4) (HE cs m n v (some (.int (a : Int))) v5 v6 v7) = some (.int (cs.getD a 0)) := fun v => (op_of (x := IL cs) (y := .int (a : Int)) rfl rfl).trans (ix_ints (by omega))
    refine ⟨put W a k (some t), h.put ha htm, fun b hb => ?_, ?_⟩
    · by_cases hba : b = a
      · subst hba
        rw [put_same (by rw [h.ln]; exact ha), h2]
        exact ⟨t, List.mem_iff_getElem.mpr ⟨k, by rw [List.length_set, h3.ln]; exact hkn, List.getElem_set_self _⟩⟩
      · rw [put_at hba]
        exact hL b (by omega)
    · rw [if_yes (by rw [e0, decide_eq_true hz])]
      exact (set2_of h ha hkn rfl rfl ((op_of (x := .int (cs.getD a 0 / 7)) (y := .int (n : Int)) ((op_of (y := .int 7) (hca _) rfl).trans (divP (by decide) (by decide))) rfl).trans ((modP (by omega)).trans (by rw [hk]))) ((op_of (x := .int (cs.getD a 0 / 35)) (y := .int (m : Int)) ((op_of (y := .int 35) (hca _) rfl).trans (divP (by decide) (by decide))) rfl).trans ((modP (by omega)).trans (by rw [ht])))).trans rfl
  · refine ⟨W, h, fun b hb => ?_, (if_no (by rw [e0, decide_eq_false hz])).trans rfl⟩
    by_cases hba : b = a
    · subst hba
      rw [h2]
      apply Classical.byContradiction
      intro hne
      apply hz
      have : (r.map oD).filter (fun d => !isNon d) = [] := by
        rw [List.filter_eq_nil_iff]
        intro d hd
        obtain ⟨x, hx, rfl⟩ := List.mem_map.mp hd
        cases x with
        | none => simp [oD, isNon]
        | some t => exact absurd ⟨t, hx⟩ hne
      rw [this]
      rfl
    · exact hL b (by omega)
theorem tup_rows (f : List (Option Nat) → D) (hf : ∀ r, tupleD [f r] = some (rowT r)) (W : Wy) : compD (gSet 0) (fun _ => some true) tupC [none] (W.map f) = some (W.map rowT) := comp_emb f rowT W fun r _ => (cb_of (cons_of (x := f r) rfl nil_of)).trans (hf r)
theorem ways_ok (cs : List Int) (hc : cs.length = 30) (m n : Nat) (hm0 : 0 < m) (hm6 : m ≤ 6) (hn2 : 2 ≤ n) (hn4 : n ≤ 4) : ∃ W, Ok m n W ∧ Live W ∧ m__law_ways [IL cs, .int (m : Int), .int (n : Int)] = some (.tup (W.map rowT)) := by
  have t0 : sMat 3 (eLst eNil) (HE cs m n none none none none none) = some (.nx (HE cs m n (some (.lst (([] : Wy).map rowL))) none none none none)) := mat_of rfl (by show 3 < 8; decide)
  obtain ⟨δ1, l1, W1, v4, v5, v6, v7, e1, hl1, hw1⟩ := forD_inv (γ := gSet 4) (φ := sSeq g1 (sSeq (sHide 3 gF) (sPush 3 5))) (fun k δ => ∃ (W : Wy) (v4 v5 v6 v7 : Option D), δ = HE cs m n (some (.lst (W.map rowL))) v4 v5 v6 v7 ∧ W.length = k ∧ ∀ r ∈ W, Ok1 m n r) (rngI 0 1 m) 0 (HE cs m n (some (.lst (([] : Wy).map rowL))) none none none none) ⟨[], _, _, _, _, rfl, rfl, fun r z => by cases z⟩ (by
    intro j x δ hx ⟨W, v4, v5, v6, v7, e, hl, hw⟩
    subst e
    obtain ⟨hj, rfl⟩ := rng_get hx
    rw [Nat.zero_add] at hl ⊢
    obtain ⟨r, w6, w7, hr, t2⟩ := g_row cs hc m n hm0 hm6 hn4 j hj v6 v7
    have t1 : g1 (HE cs m n (some (.lst (W.map rowL))) (some (.int (j : Int))) v5 v6 v7) = some (.nx (HE cs m n (some (.lst (W.map rowL))) (some (.int (j : Int))) (some (.lst [])) v6 v7)) := by
      unfold g1
      exact hide_of (δ0 := HE cs m n none (some (.int (j : Int))) v5 v6 v7) (δ' := HE cs m n none (some (.int (j : Int))) (some (.lst [])) v6 v7) rfl (asg_of rfl) rfl rfl
    have t3 : sHide 3 gF (HE cs m n (some (.lst (W.map rowL))) (some (.int (j : Int))) (some (.lst [])) v6 v7) = some (.nx (HE cs m n (some (.lst (W.map rowL))) (some (.int (j : Int))) (some (rowL r)) w6 w7)) := hide_of (δ0 := HE cs m n none (some (.int (j : Int))) (some (.lst [])) v6 v7) (δ' := HE cs m n none (some (.int (j : Int))) (some (rowL r)) w6 w7) rfl t2 rfl rfl
    refine ⟨_, rfl, HE cs m n (some (.lst ((W ++ [r]).map rowL))) (some (.int (j : Int))) none w6 w7, (seq_nx t1).trans ((seq_nx t3).trans ((push_of (xs := W.map rowL) (r := r.map oD) rfl rfl (by rw [List.length_map]; omega) (row_sc r)).trans ?_)), W ++ [r], _, _, _, _, rfl, by rw [List.length_append, hl]; rfl, fun r' hr' => ?_⟩
    · rw [List.map_append]
      rfl
    · rcases List.mem_append.mp hr' with z | z
      · exact hw r' z
      · rw [List.mem_singleton.mp z]; exact hr)
  subst e1
  rw [rng_len, Nat.zero_add] at hl1
  have hW1 : Ok m n W1 := ⟨hm0, hm6, hn2, hn4, hl1, hw1⟩
  obtain ⟨W2, hW2, t2⟩ := led_ok hW1 hc
  have t3 : sCallU 3 2 m__law_led_to (eCons (eVar 0) eNil) (HE cs m n (some (matD W1)) v4 v5 v6 v7) = some (.nx (HE cs m n (some (matD W2)) v4 v5 v6 v7)) := callU_of (ds := [IL cs]) rfl rfl rfl t2
  obtain ⟨δ3, l3, W3, u4, e3, hW3, hL3⟩ := forD_inv (γ := gSet 4) (φ := c1) (fun k δ => ∃ (W : Wy) (v4 : Option D), δ = HE cs m n (some (matD W)) v4 v5 v6 v7 ∧ Ok m n W ∧ ∀ b, b < k → ∃ t, some t ∈ W.getD b []) (rngI 0 1 m) 0 (HE cs m n (some (matD W2)) v4 v5 v6 v7) ⟨W2, _, rfl, hW2, fun b hb => absurd hb (by omega)⟩ (by
    intro j x δ hx ⟨W, v4, e, hW, hL⟩
    subst e
    obtain ⟨hj, rfl⟩ := rng_get hx
    rw [Nat.zero_add] at hL ⊢
    obtain ⟨W', h1, h2, h3⟩ := c_turn hW cs hc j hj hL v5 v6 v7
    exact ⟨_, rfl, _, h3, W', _, rfl, h1, h2⟩)
  subst e3
  rw [rng_len, Nat.zero_add] at hL3
  refine ⟨W3, hW3, fun r hr => ?_, ?_⟩
  · obtain ⟨b, hb, e⟩ := List.mem_iff_getElem.mp hr
    have := hL3 b (by rw [← hW3.ln]; exact hb)
    rw [List.getD_eq_getElem?_getD, List.getElem?_eq_getElem hb, e] at this
    exact this
  · have hr : ∀ v4, iotaR (eCons (eVar 1) eNil) (HE cs m n v4 none none none none) = some (rngI 0 1 m) := fun v4 => (iotaR1 (j := (m : Int)) rfl (by omega) (by omega)).trans (by rw [Int.toNat_natCast])
    refine run_of (δ := HE cs m n none none none none none) rfl ?_
    rw [ways_eq, seq_nx t0]
    refine (seq_nx (for_of ((iotaR1 (j := (m : Int)) rfl (by omega) (by omega)).trans (by rw [Int.toNat_natCast])) l1)).trans ?_
    refine (seq_nx t3).trans ?_
    refine (seq_nx (for_of ((iotaR1 (j := (m : Int)) rfl (by omega) (by omega)).trans (by rw [Int.toNat_natCast])) l3)).trans (ret_of ?_)
    exact (cb_of (cons_of (comp_of (iotaA_of (xs := W3.map rowL) rfl) rfl (tup_rows rowL (fun r => rfl) W3) (by rw [List.length_map, hW3.ln]; omega)) nil_of)).trans rfl
end K21

namespace K21
open DL L2
/-! ### the rooms -/
def roomsD (M : List Nat) (W : Wy) : DL.D := .obj "Rooms" ["marks", "ways"] [.str M, .tup (W.map rowT)]
theorem iotaT_of {ε : DL.Env → Option D} {δ : DL.Env} {xs : List D} (h : ε δ = some (.tup xs)) : iotaA ε δ = some xs := by
  unfold iotaA
  rw [h]
theorem fld_ways {M : List Nat} {W : Wy} {i : Nat} {δ : DL.Env} (h : eVar i δ = some (roomsD M W)) : eFld fc_ways "ways" (eVar i) δ = some (.tup (W.map rowT)) := by unfold eFld; rw [h]; rfl
theorem init_ok (M : List Nat) (W : Wy) (hl : W.length ≤ 100) : m_Rooms_init [.obj "Rooms" [] [], .str M, .tup (W.map rowT)] = some (roomsD M W) := by
  have hc := tup_rows rowT (fun r => rfl) W
  have he : ∀ x0, eCB tupleD (eCons (eComp (iotaA (eVar 2)) (gSet 0) (fun _ => some true) tupC 1 []) eNil) [x0, some (.str M), some (.tup (W.map rowT))] = some (.tup (W.map rowT)) := fun x0 => (cb_of (cons_of (comp_of (iotaT_of (xs := W.map rowT) rfl) rfl hc (by rw [List.length_map]; omega)) nil_of)).trans rfl
  have hf : f_Rooms_init [some (.obj "Rooms" [] []), some (.str M), some (.tup (W.map rowT))] = some (.nx [some (roomsD M W), some (.str M), some (.tup (W.map rowT))]) := by
    show sSeq (sFldD 0 fc_marks "marks" (eVar 1)) (sFldD 0 fc_ways "ways" (eCB tupleD (eCons (eComp (iotaA (eVar 2)) (gSet 0) (fun _ => some true) tupC 1 []) eNil))) _ = _
    rw [seq_nx (δ' := [some (.obj "Rooms" ["marks"] [.str M]), some (.str M), some (.tup (W.map rowT))]) rfl]
    unfold sFldD
    rw [he]
    rfl
  exact runI_of rfl hf rfl
theorem many_ok (M : List Nat) (W : Wy) : m_Rooms_many [roomsD M W] = some (.int (W.length : Int)) := by
  refine run_of (δ := [some (roomsD M W)]) rfl (ret_of ((cb_of (cons_of (fld_ways rfl) nil_of)).trans ?_))
  show some (D.int ((W.map rowT).length : Int)) = _
  rw [List.length_map]
theorem meth_many {M : List Nat} {W : Wy} {i : Nat} {δ : DL.Env} (h : eVar i δ = some (roomsD M W)) : eMeth "many" tab_many (eVar i) eNil δ = some (.int (W.length : Int)) := by
  unfold eMeth
  rw [h]
  exact many_ok M W
/-! ### counts -/
def nxt (W : Wy) (c : List Int) : List Int := W.map fun r => ((r.filterMap id).map fun t => c.getD t 0).sum
def cv (W : Wy) : Nat → List Int
  | 0 => List.replicate W.length 1
  | k + 1 => nxt W (cv W k)
theorem cv_len (W : Wy) : ∀ k, (cv W k).length = W.length
  | 0 => List.length_replicate
  | k + 1 => by show (nxt W (cv W k)).length = _; unfold nxt; rw [List.length_map]
theorem intsD_map : ∀ ns : List Int, intsD (ns.map D.int) = some ns
  | [] => rfl
  | n :: ns => by
    rw [List.map_cons, intsD, intsD_map ns]
theorem sum_ints (ns : List Int) : sumLD [.lst (ns.map D.int)] = some (.int ns.sum) := by
  unfold sumLD
  dsimp only
  rw [intsD_map]
theorem comp_opt {ε : DL.Env → Option D} {rest : DL.Env} (g : Nat → D) : ∀ r : List (Option Nat), (∀ t, some t ∈ r → ε (some (.int (t : Int)) :: rest) = some (g t)) → compD (gSet 0) (xB (eNotN (eVar 0))) ε (none :: rest) (r.map oD) = some ((r.filterMap id).map g)
  | [], _ => rfl
  | none :: r, h => by
    have ih := comp_opt g r fun t ht => h t (List.mem_cons_of_mem _ ht)
    rw [List.map_cons]
    unfold compD
    have e1 : gSet 0 (oD none) (none :: rest) = some (some .non :: rest) := rfl
    have e2 : xB (eNotN (eVar 0)) (some .non :: rest) = some false := xB_of rfl
    rw [e1]
    dsimp only
    rw [e2]
    dsimp only
    rw [ih]
    rfl
  | some t :: r, h => by
    have ih := comp_opt g r fun t ht => h t (List.mem_cons_of_mem _ ht)
    rw [List.map_cons]
    unfold compD
    have e1 : gSet 0 (oD (some t)) (none :: rest) = some (some (.int (t : Int)) :: rest) := rfl
    have e2 : xB (eNotN (eVar 0)) (some (.int (t : Int)) :: rest) = some true := xB_of rfl
    rw [e1]
    dsimp only
    rw [e2]
    dsimp only
    rw [h t List.mem_cons_self, ih]
    rfl
noncomputable def inE : DL.Env → Option D := (eComp (iotaA (eVar 0)) (gSet 0) (xB (eNotN (eVar 0))) (eOp ixD (eVar 1) (eVar 0)) 1 [1])
theorem longer_eq : f_counts_longer = sRet (eComp (iotaA (eFld fc_ways "ways" (eVar 0))) (gSet 0) (fun _ => some true) (eCB sumLD (eCons inE eNil)) 1 [1]) := rfl
theorem fm_len (r : List (Option Nat)) : (r.filterMap id).length ≤ r.length := List.length_filterMap_le ..
theorem longer_ok {m n : Nat} {W : Wy} (h : Ok m n W) (M : List Nat) {c : List Int} (hc : c.length = m) : m_counts_longer [roomsD M W, IL c] = some (IL (nxt W c)) := by
  have hm6 := h.m6
  have hn4 := h.n4
  have hin : ∀ r ∈ W, inE [some (rowT r), some (IL c)] = some (IL ((r.filterMap id).map fun t => c.getD t 0)) := fun r hr => by
    have hr' := h.rw r hr
    have hcc := comp_opt (ε := eOp ixD (eVar 1) (eVar 0)) (rest := [some (IL c)]) (fun t => D.int (c.getD t 0)) r (fun t ht => by
      have := hr'.pl t ht
      exact (op_of (x := IL c) (y := .int (t : Int)) rfl rfl).trans (ix_ints (by omega)))
    have e : ((r.filterMap id).map fun t => c.getD t 0).map D.int = (r.filterMap id).map fun t => D.int (c.getD t 0) := by rw [List.map_map]; rfl
    show _ = some (D.lst (((r.filterMap id).map fun t => c.getD t 0).map D.int))
    rw [e]
    unfold inE
    have := fm_len r
    have := hr'.ln
    exact comp_of (iotaT_of rfl) rfl hcc (by rw [List.length_map]; omega)
  refine run_of (δ := [some (roomsD M W), some (IL c)]) rfl ?_
  rw [longer_eq]
  refine ret_of ?_
  have e : (nxt W c).map D.int = W.map fun r => D.int ((r.filterMap id).map fun t => c.getD t 0).sum := by unfold nxt; rw [List.map_map]; rfl
  show _ = some (D.lst ((nxt W c).map D.int))
  rw [e]
  exact comp_of (iotaT_of (fld_ways rfl)) rfl (comp_emb rowT _ (δ0 := [none, some (IL c)]) W fun r hr => (cb_of (cons_of (hin r hr) nil_of)).trans (sum_ints _)) (by rw [List.length_map, h.ln]; omega)
def CT (W : Wy) (L : Nat) : List D := (List.range (L + 1)).map fun k => IL (cv W k)
theorem CT_len (W : Wy) (L : Nat) : (CT W L).length = L + 1 := by unfold CT; simp
theorem CT_snoc (W : Wy) (L : Nat) : CT W (L + 1) = CT W L ++ [IL (cv W (L + 1))] := by
  unfold CT
  rw [List.range_succ, List.map_append]
  rfl
theorem CT_at {W : Wy} {L k : Nat} (hk : k ≤ L) : (CT W L)[k]? = some (IL (cv W k)) := by
  unfold CT
  rw [List.getElem?_map, List.getElem?_range (by omega)]
  rfl
theorem mulF_lst (a : List D) (n : Int) : mulF (.lst a) (.int n) = mulX (.lst a) (.int n) := by
  unfold mulF
  rfl
theorem ones {ε : DL.Env → Option D} {δ : DL.Env} {n : Nat} (hn : n ≤ 1000) (h : ε δ = some (.int (n : Int))) : eOp mulF (eLst (eCons (eC (.int 1)) eNil)) ε δ = some (IL (List.replicate n 1)) := by
  rw [op_of (x := .lst [.int 1]) (y := .int (n : Int)) rfl h, mulF_lst, mul_lst (by simp; omega) (by omega)]
  rw [List.flatten_replicate_singleton, ← List.map_replicate]
noncomputable def upB : DL.Env → Option Out := (sApp 2 (eCall 2 m_counts_longer [] (eCons (eVar 0) (eCons (eOp ixD (eVar 2) (eVar 3)) eNil))))
theorem up_eq : f_counts_up_to = sSeq (sAsg 2 (eLst (eCons (eOp mulF (eLst (eCons (eC (.int 1)) eNil)) (eMeth "many" tab_many (eVar 0) eNil)) eNil))) (sSeq (sFor (iotaR (eCons (eVar 1) eNil)) (gSet 3) upB) (sRet (eVar 2))) := rfl
theorem up_ok {m n : Nat} {W : Wy} (h : Ok m n W) (M : List Nat) (L : Nat) (hL : L ≤ 1000) : m_counts_up_to [roomsD M W, .int (L : Int)] = some (.lst (CT W L)) := by
  have hm6 := h.m6
  have hml := h.ln
  obtain ⟨δ', h1, v3, e⟩ := forD_inv (γ := gSet 3) (φ := upB) (fun k δ => ∃ v3, δ = [some (roomsD M W), some (.int (L : Int)), some (.lst (CT W k)), v3]) (rngI 0 1 L) 0 [some (roomsD M W), some (.int (L : Int)), some (.lst (CT W 0)), none] ⟨_, rfl⟩ (by
    intro j x δ hx ⟨v3, e⟩
    subst e
    obtain ⟨hj, rfl⟩ := rng_get hx
    rw [Nat.zero_add]
    refine ⟨_, rfl, [some (roomsD M W), some (.int (L : Int)), some (.lst (CT W (j + 1))), some (.int (j : Int))], ?_, _, rfl⟩
    unfold upB
    have hl := CT_len W j
    refine (app_of (xs := CT W j) (d := IL (cv W (j + 1))) rfl ((call_of (n := 2) (cons_of (x := roomsD M W) rfl (cons_of (x := IL (cv W j)) ((op_of (x := .lst (CT W j)) (y := .int (j : Int)) rfl rfl).trans (ix_at (CT_at (Nat.le_refl _)))) nil_of)) rfl).trans (longer_ok h M (by rw [cv_len]; exact hml))) (by omega)).trans ?_
    rw [CT_snoc]
    rfl)
  subst e
  rw [rng_len, Nat.zero_add] at h1
  refine run_of (δ := [some (roomsD M W), some (.int (L : Int)), none, none]) rfl ?_
  have t0 : sAsg 2 (eLst (eCons (eOp mulF (eLst (eCons (eC (.int 1)) eNil)) (eMeth "many" tab_many (eVar 0) eNil)) eNil)) [some (roomsD M W), some (.int (L : Int)), none, none] = some (.nx [some (roomsD M W), some (.int (L : Int)), some (.lst (CT W 0)), none]) := asg_of (lst_of (cons_of (ones (n := W.length) (by omega) (meth_many rfl)) nil_of) (by show 1 ≤ 1000; decide))
  rw [up_eq, seq_nx t0]
  exact (seq_nx (for_of ((iotaR1 (j := (L : Int)) rfl (by omega) (by omega)).trans (by rw [Int.toNat_natCast])) h1)).trans (ret_of rfl)
theorem count_ok {m n : Nat} {W : Wy} (h : Ok m n W) (M : List Nat) {a : Nat} (ha : a < m) (L : Nat) (hL : L ≤ 1000) : m_count [roomsD M W, .int (a : Int), .int (L : Int)] = some (.int ((cv W L).getD a 0)) := by
  refine run_of (δ := [some (roomsD M W), some (.int (a : Int)), some (.int (L : Int))]) rfl (ret_of ?_)
  exact (op_of (x := IL (cv W L)) (y := .int (a : Int)) ((op_of (x := .lst (CT W L)) (y := .int (L : Int)) ((call_of (n := 2) (cons_of (x := roomsD M W) rfl (cons_of (x := .int (L : Int)) rfl nil_of)) rfl).trans (up_ok h M L hL)) rfl).trans (ix_at (CT_at (Nat.le_refl _)))) rfl).trans (ix_ints (by rw [cv_len, h.ln]; exact ha))
/-! ### sums along the ways -/
abbrev succs (W : Wy) (e : Nat) : List Nat := (W.getD e []).filterMap id
theorem cv_at {m n : Nat} {W : Wy} (h : Ok m n W) (j : Nat) {e : Nat} (he : e < m) : (cv W (j + 1)).getD e 0 = ((succs W e).map fun t => (cv W j).getD t 0).sum := by
  obtain ⟨r, h1, h2, h3⟩ := h.row he
  show (nxt W (cv W j)).getD e 0 = _
  unfold nxt succs
  rw [List.getD_eq_getElem?_getD, List.getElem?_map, h1, h2]
  rfl
theorem cv_zero {m n : Nat} {W : Wy} (h : Ok m n W) {e : Nat} (he : e < m) : (cv W 0).getD e 0 = 1 := by
  show (List.replicate W.length (1 : Int)).getD e 0 = 1
  rw [List.getD_eq_getElem?_getD, List.getElem?_replicate, if_pos (by rw [h.ln]; exact he)]
  rfl
theorem succs_lt {m n : Nat} {W : Wy} (h : Ok m n W) {e t : Nat} (he : e < m) (ht : t ∈ succs W e) : t < m := by
  obtain ⟨r, h1, h2, h3⟩ := h.row he
  obtain ⟨x, hx, e2⟩ := List.mem_filterMap.mp ht
  rw [h2] at hx
  have : x = some t := e2
  subst this
  exact h3.pl t hx
def S (W : Wy) (j : Nat) (xs : List Nat) : Int := (xs.map fun e => (cv W j).getD e 0).sum
theorem S_app (W : Wy) (j : Nat) (a b : List Nat) : S W j (a ++ b) = S W j a + S W j b := by
  unfold S
  rw [List.map_append, List.sum_append]
theorem S_step {m n : Nat} {W : Wy} (h : Ok m n W) (j : Nat) : ∀ xs : List Nat, (∀ e ∈ xs, e < m) → S W j (xs.flatMap (succs W)) = S W (j + 1) xs
  | [], _ => rfl
  | e :: xs, hx => by
    rw [List.flatMap_cons, S_app, S_step h j xs fun e he => hx e (List.mem_cons_of_mem _ he)]
    have : S W (j + 1) (e :: xs) = (cv W (j + 1)).getD e 0 + S W (j + 1) xs := by unfold S; rw [List.map_cons, List.sum_cons]
    rw [this, cv_at h j (hx e List.mem_cons_self)]
    rfl
theorem S_zero {m n : Nat} {W : Wy} (h : Ok m n W) : ∀ xs : List Nat, (∀ e ∈ xs, e < m) → S W 0 xs = (xs.length : Int)
  | [], _ => rfl
  | e :: xs, hx => by
    have : S W 0 (e :: xs) = (cv W 0).getD e 0 + S W 0 xs := by unfold S; rw [List.map_cons, List.sum_cons]
    rw [this, cv_zero h (hx e List.mem_cons_self), S_zero h xs fun e he => hx e (List.mem_cons_of_mem _ he), List.length_cons]
    omega
def RR (W : Wy) (a : Nat) : Nat → List Nat
  | 0 => [a]
  | k + 1 => (RR W a k).flatMap (succs W)
theorem RR_lt {m n : Nat} {W : Wy} (h : Ok m n W) {a : Nat} (ha : a < m) : ∀ k, ∀ e ∈ RR W a k, e < m
  | 0 => fun e he => by rw [List.mem_singleton.mp he]; exact ha
  | k + 1 => fun e he => by
    obtain ⟨x, hx, hy⟩ := List.mem_flatMap.mp he
    exact succs_lt h (RR_lt h ha k x hx) hy
theorem RR_sum {m n : Nat} {W : Wy} (h : Ok m n W) {a : Nat} (ha : a < m) : ∀ k j, S W j (RR W a k) = (cv W (j + k)).getD a 0
  | 0, j => by
    show ((cv W j).getD a 0 + 0) = _
    rw [Nat.add_zero, Int.add_zero]
  | k + 1, j => by
    show S W j ((RR W a k).flatMap (succs W)) = _
    rw [S_step h j _ (RR_lt h ha k), RR_sum h ha k (j + 1)]
    rw [show j + 1 + k = j + (k + 1) by omega]
theorem RR_count {m n : Nat} {W : Wy} (h : Ok m n W) {a : Nat} (ha : a < m) (L : Nat) : (cv W L).getD a 0 = ((RR W a L).length : Int) := by
  have := RR_sum h ha L 0
  rw [Nat.zero_add] at this
  rw [← this, S_zero h _ (RR_lt h ha L)]
theorem RR_len {m n : Nat} {W : Wy} (h : Ok m n W) {a : Nat} (ha : a < m) : ∀ k, (RR W a k).length ≤ 4 ^ k
  | 0 => Nat.le_refl _
  | k + 1 => by
    have ih := RR_len h ha k
    have hlt := RR_lt h ha k
    have : ∀ xs : List Nat, (∀ e ∈ xs, e < m) → (xs.flatMap (succs W)).length ≤ 4 * xs.length := by
      intro xs
      induction xs with
      | nil => intro _; exact Nat.zero_le _
      | cons e xs ih =>
        intro hx
        obtain ⟨r, h1, h2, h3⟩ := h.row (hx e List.mem_cons_self)
        have := ih fun e he => hx e (List.mem_cons_of_mem _ he)
        have hf : (succs W e).length ≤ 4 := by
          unfold succs
          rw [h2]
          have := fm_len r
          have := h3.ln
          have := h.n4
          omega
        rw [List.flatMap_cons, List.length_append, List.length_cons]
        omega
    have := this _ hlt
    show ((RR W a k).flatMap (succs W)).length ≤ 4 ^ (k + 1)
    rw [Nat.pow_succ]
    omega
end K21

namespace K21
open DL L2
theorem iotaRd {α : DL.Env → Option (List D)} {δ : DL.Env} {L : Nat} (hL : L ≤ 1000) (h : α δ = some [.int ((L : Int) - 1), .int (-1), .int (-1)]) : iotaR α δ = some (rngI ((L : Int) - 1) (-1) L) := by
  have e1 : (PySem.Builtin.Range.rangeSize ((L : Int) - 1) (-1) (-1)).toNat = L := by
    unfold PySem.Builtin.Range.rangeSize
    rw [if_neg (by decide), show (- (-1) : Int) = 1 from rfl, Int.ediv_one]
    split <;> omega
  have e2 : PySem.Builtin.Range.small ((L : Int) - 1) (-1) (-1) = true := by
    unfold PySem.Builtin.Range.small PySem.Builtin.Range.rangeSize
    simp only [PySem.Builtin.Range.rangeFitsLong, Bool.and_eq_true, Bool.or_eq_true, decide_eq_true_eq, beq_iff_eq]
    rw [if_neg (by decide), show (- (-1) : Int) = 1 from rfl, Int.ediv_one]
    refine ⟨?_, .inr (by decide)⟩
    split <;> omega
  unfold iotaR
  rw [h]
  dsimp only
  rw [if_pos ⟨by decide, by decide, e2⟩, e1]
theorem find_nd {M : List Nat} (hM : M.Nodup) {k : Nat} (hk : k < M.length) : findL M[k] M = (k : Int) := by
  obtain ⟨i, h1, h2, h3⟩ := findL_mem (List.getElem_mem hk)
  obtain ⟨h4, h5⟩ := List.getElem?_eq_some_iff.mp h2
  have : i = k := by
    rcases Nat.lt_trichotomy i k with h | h | h
    · exact absurd h5 (List.pairwise_iff_getElem.mp hM i k h3 hk h)
    · exact h
    · exact absurd h5.symm (List.pairwise_iff_getElem.mp hM k i hk h3 h)
  rw [h1, this]
theorem getD_lt {M : List Nat} {k : Nat} (hk : k < M.length) : M.getD k 0 = M[k] := by
  rw [List.getD_eq_getElem?_getD, List.getElem?_eq_getElem hk]
  rfl
theorem ch_mem {M : List Nat} {k : Nat} (hk : k < M.length) : M.getD k 0 ∈ M := by rw [getD_lt hk]; exact List.getElem_mem hk
theorem ix_mark {M : List Nat} (hM : M.Nodup) {k : Nat} (hk : k < M.length) : indexD M [.str [M.getD k 0]] = some (.int (k : Int)) := by
  show (if 0 ≤ findL (M.getD k 0) M then some (D.int (findL (M.getD k 0) M)) else none) = _
  rw [getD_lt hk, find_nd hM hk, if_pos (by omega)]
theorem self_range (M : List Nat) : (List.range M.length).map (fun k => M.getD k 0) = M := by
  apply List.ext_getElem?
  intro k
  by_cases hk : k < M.length
  · rw [List.getElem?_map, List.getElem?_range hk, List.getElem?_eq_getElem hk]
    show some (M.getD k 0) = _
    rw [getD_lt hk]
  · rw [List.getElem?_eq_none (by simp; omega), List.getElem?_eq_none (by omega)]
theorem fld_marks {M : List Nat} {W : Wy} {i : Nat} {δ : DL.Env} (h : eVar i δ = some (roomsD M W)) : eFld fc_marks "marks" (eVar i) δ = some (.str M) := by unfold eFld; rw [h]; rfl
abbrev sg (M : List Nat) (k : Nat) : D := .str [M.getD k 0]
abbrev nx1 (W : Wy) (e k : Nat) : Option Nat := (W.getD e []).getD k none
/-! ### rows ahead -/
def aw (c : List Int) : Option Nat → Int
  | some t => c.getD t 0
  | none => 0
def ahead (r : List (Option Nat)) (c : List Int) (k : Nat) : Int := (((r.take k).filterMap id).map fun t => c.getD t 0).sum
theorem ahead_succ {r : List (Option Nat)} (c : List Int) {k : Nat} (hk : k < r.length) : ahead r c (k + 1) = ahead r c k + aw c (r.getD k none) := by
  unfold ahead
  rw [← List.take_append_getElem hk, List.filterMap_append, List.map_append, List.sum_append, List.getD_eq_getElem?_getD, List.getElem?_eq_getElem hk]
  cases h : r[k] with
  | none => simp [aw]
  | some t => simp [aw]
theorem ahead_mono {r : List (Option Nat)} {c : List Int} (hc : ∀ o, 0 ≤ aw c o) {i j : Nat} (hij : i ≤ j) (hj : j ≤ r.length) : ahead r c i ≤ ahead r c j := by
  induction j with
  | zero => rw [show i = 0 by omega]; exact Int.le_refl _
  | succ j ih =>
    by_cases e : i = j + 1
    · rw [e]; exact Int.le_refl _
    · have h1 := ih (by omega) (by omega)
      have h2 := ahead_succ c (show j < r.length by omega)
      have h3 := hc (r.getD j none)
      omega
theorem ahead_full (r : List (Option Nat)) (c : List Int) : ahead r c r.length = ((r.filterMap id).map fun t => c.getD t 0).sum := by
  unfold ahead
  rw [List.take_length]
theorem ahead_zero (r : List (Option Nat)) (c : List Int) : ahead r c 0 = 0 := rfl
theorem cut_to {xs : List D} {k : Nat} (hk : k ≤ xs.length) : L2.cutL xs none (some (k : Int)) = xs.take k := by
  unfold L2.cutL sIx'
  dsimp only
  rw [if_neg (by omega), Int.toNat_natCast, List.drop_zero, Nat.sub_zero, Nat.min_eq_left hk]
noncomputable def raE : DL.Env → Option D := (eComp (iotaA (eVar 4)) (gSet 0) (xB (eNotN (eVar 0))) (eOp ixD (eVar 1) (eVar 0)) 1 [3])
theorem ra_eq : f_rows_ahead = sSeq (sAsg 4 (eSl (eOp ixD (eFld fc_ways "ways" (eVar 0)) (eVar 1)) xNoP (xP (eBM indexD (eFld fc_marks "marks" (eVar 0)) (eCons (eVar 2) eNil))))) (sRet (eCB sumLD (eCons raE eNil))) := rfl
section
variable {m : Nat} {M : List Nat} {W : Wy}
theorem ra_ok (hM : M.Nodup) (h : Ok m M.length W) {e k : Nat} (he : e < m) (hk : k < M.length) {c : List Int} (hc : c.length = m) : m_rows_ahead [roomsD M W, .int (e : Int), sg M k, IL c] = some (.int (ahead (W.getD e []) c k)) := by
  have hn4 := h.n4
  obtain ⟨r, hr1, hr2, hr3⟩ := h.row he
  have hrl := hr3.ln
  rw [hr2]
  have ex : eOp ixD (eFld fc_ways "ways" (eVar 0)) (eVar 1) [some (roomsD M W), some (.int (e : Int)), some (sg M k), some (IL c), none] = some (rowT r) := (op_of (y := .int (e : Int)) (fld_ways rfl) rfl).trans (ix_tup (by rw [List.getElem?_map, hr1]; rfl))
  have ei : eBM indexD (eFld fc_marks "marks" (eVar 0)) (eCons (eVar 2) eNil) [some (roomsD M W), some (.int (e : Int)), some (sg M k), some (IL c), none] = some (.int (k : Int)) := (bm_of (fld_marks rfl) (cons_of (x := sg M k) rfl nil_of)).trans (ix_mark hM hk)
  have t1 : sAsg 4 (eSl (eOp ixD (eFld fc_ways "ways" (eVar 0)) (eVar 1)) xNoP (xP (eBM indexD (eFld fc_marks "marks" (eVar 0)) (eCons (eVar 2) eNil)))) [some (roomsD M W), some (.int (e : Int)), some (sg M k), some (IL c), none] = some (.nx [some (roomsD M W), some (.int (e : Int)), some (sg M k), some (IL c), some (rowT (r.take k))]) := by
    refine asg_of ?_
    unfold eSl
    rw [ex]
    unfold xP
    rw [ei]
    show (if sIx' (r.map oD).length 0 none = 0 ∧ sIx' (r.map oD).length (r.map oD).length (some (k : Int)) = (r.map oD).length then none else some (D.tup (L2.cutL (r.map oD) none (some (k : Int))))) = _
    have hne : ¬ (sIx' (r.map oD).length 0 none = 0 ∧ sIx' (r.map oD).length (r.map oD).length (some (k : Int)) = (r.map oD).length) := fun ⟨_, z⟩ => by
      rw [List.length_map] at z
      unfold sIx' at z
      dsimp only at z
      rw [if_neg (by omega), Int.toNat_natCast] at z
      omega
    rw [if_neg hne, cut_to (by rw [List.length_map]; omega), ← List.map_take]
    rfl
  have hin : raE [some (roomsD M W), some (.int (e : Int)), some (sg M k), some (IL c), some (rowT (r.take k))] = some (IL (((r.take k).filterMap id).map fun t => c.getD t 0)) := by
    have hcc := comp_opt (ε := eOp ixD (eVar 1) (eVar 0)) (rest := [some (IL c)]) (fun t => D.int (c.getD t 0)) (r.take k) (fun t ht => by
      have := hr3.pl t (List.mem_of_mem_take ht)
      exact (op_of (x := IL c) (y := .int (t : Int)) rfl rfl).trans (ix_ints (by omega)))
    have e2 : (((r.take k).filterMap id).map fun t => c.getD t 0).map D.int = ((r.take k).filterMap id).map fun t => D.int (c.getD t 0) := by rw [List.map_map]; rfl
    show _ = some (D.lst ((((r.take k).filterMap id).map fun t => c.getD t 0).map D.int))
    rw [e2]
    unfold raE
    have := fm_len (r.take k)
    have := List.length_take_le k r
    exact comp_of (iotaT_of rfl) rfl hcc (by rw [List.length_map]; omega)
  refine run_of (δ := [some (roomsD M W), some (.int (e : Int)), some (sg M k), some (IL c), none]) rfl ?_
  rw [ra_eq, seq_nx t1]
  exact ret_of ((cb_of (cons_of hin nil_of)).trans (sum_ints _))
/-! ### the mark of a number -/
theorem comp_filt {α : Type} (emb : α → D) (p : α → Bool) {τ : DL.Env → Option Bool} {δ0 : DL.Env} : ∀ L : List α, (∀ a ∈ L, τ (some (emb a) :: δ0) = some (p a)) → compD (gSet 0) τ (eVar 0) (none :: δ0) (L.map emb) = some ((L.filter p).map emb)
  | [], _ => rfl
  | a :: L, h => by
    have ih := comp_filt emb p L fun x hx => h x (List.mem_cons_of_mem _ hx)
    rw [List.map_cons]
    unfold compD
    have e1 : gSet 0 (emb a) (none :: δ0) = some (some (emb a) :: δ0) := rfl
    rw [e1]
    dsimp only
    rw [h a List.mem_cons_self]
    cases hp : p a with
    | true =>
      dsimp only
      rw [show eVar 0 (some (emb a) :: δ0) = some (emb a) from rfl, ih, List.filter_cons_of_pos hp]
      rfl
    | false =>
      dsimp only
      rw [ih, List.filter_cons_of_neg (by rw [hp]; exact Bool.false_ne_true)]
theorem filt_last (p : Nat → Bool) : ∀ n, (∃ k, k < n ∧ p k = true) → ∃ K pre, K < n ∧ p K = true ∧ (∀ k, K < k → k < n → p k = false) ∧ (List.range n).filter p = pre ++ [K]
  | 0, ⟨k, hk, _⟩ => absurd hk (by omega)
  | n + 1, ⟨k, hk, hp⟩ => by
    rw [List.range_succ, List.filter_append]
    by_cases hn : p n = true
    · refine ⟨n, (List.range n).filter p, Nat.lt_succ_self n, hn, fun k h1 h2 => absurd h1 (by omega), ?_⟩
      rw [show [n].filter p = [n] by simp [hn]]
    · have hkn : k ≠ n := fun z => hn (z ▸ hp)
      obtain ⟨K, pre, h1, h2, h3, h4⟩ := filt_last p n ⟨k, by omega, hp⟩
      refine ⟨K, pre, by omega, h2, fun k' h5 h6 => ?_, ?_⟩
      · by_cases e : k' = n
        · rw [e]; simpa using hn
        · exact h3 k' h5 (by omega)
      · rw [h4, show [n].filter p = [] by simp [hn], List.append_nil]
theorem ixN_last (n : Nat) : ixN (n + 1) (-1) = some n := by
  unfold ixN
  rw [if_neg (by decide), if_pos (by omega)]
  exact congrArg some (by omega)
theorem ix_last (xs : List D) (x : D) : ixD (.lst (xs ++ [x])) (.int (-1)) = some x := by
  refine atI_ixN (j := xs.length) ?_ ?_
  · rw [List.length_append]
    exact ixN_last _
  · rw [List.getElem?_append_right (Nat.le_refl _), Nat.sub_self]
    rfl
noncomputable def maT : DL.Env → Option Bool := (xB (eOp (cmpD fun i j => decide (i ≤ j)) (eCall 4 m_rows_ahead [] (eCons (eVar 1) (eCons (eVar 2) (eCons (eVar 0) (eCons (eVar 3) eNil))))) (eVar 4)))
theorem ma_eq : f_mark_at = sRet (eOp ixD (eComp (iotaA (eFld fc_marks "marks" (eVar 0))) (gSet 0) maT (eVar 0) 1 [0, 1, 3, 2]) (eUn negD (eC (.int 1)))) := rfl
theorem aw_nn {W : Wy} {m n : Nat} (h : Ok m n W) (L : Nat) : ∀ o, 0 ≤ aw (cv W L) o := by
  have nn : ∀ L, ∀ x ∈ cv W L, 0 ≤ x := by
    intro L
    induction L with
    | zero => intro x hx; rw [(List.mem_replicate.mp hx).2]; decide
    | succ L ih =>
      intro x hx
      obtain ⟨r, _, rfl⟩ := List.mem_map.mp (show x ∈ nxt W (cv W L) from hx)
      have : ∀ ts : List Nat, 0 ≤ (ts.map fun t => (cv W L).getD t 0).sum := by
        intro ts
        induction ts with
        | nil => exact Int.le_refl _
        | cons t ts ih2 =>
          rw [List.map_cons, List.sum_cons]
          have : 0 ≤ (cv W L).getD t 0 := by
            by_cases ht : t < (cv W L).length
            · rw [List.getD_eq_getElem?_getD, List.getElem?_eq_getElem ht]
              exact ih _ (List.getElem_mem ht)
            · rw [List.getD_eq_getElem?_getD, List.getElem?_eq_none (by omega)]
              exact Int.le_refl _
          omega
      exact this _
  intro o
  cases o with
  | none => exact Int.le_refl _
  | some t =>
    show 0 ≤ (cv W L).getD t 0
    by_cases ht : t < (cv W L).length
    · rw [List.getD_eq_getElem?_getD, List.getElem?_eq_getElem ht]
      exact nn L _ (List.getElem_mem ht)
    · rw [List.getD_eq_getElem?_getD, List.getElem?_eq_none (by omega)]
      exact Int.le_refl _
/-- the mark: K leads on, and x lies among the rows that begin with it -/
theorem ma_ok (hM : M.Nodup) (h : Ok m M.length W) {e : Nat} (he : e < m) (L : Nat) {x : Int} (h0 : 0 ≤ x) (h1 : x < (cv W (L + 1)).getD e 0) : ∃ K t, K < M.length ∧ nx1 W e K = some t ∧ t < m ∧ ahead (W.getD e []) (cv W L) K ≤ x ∧ x < ahead (W.getD e []) (cv W L) K + (cv W L).getD t 0 ∧ m_mark_at [roomsD M W, .int (e : Int), .int x, IL (cv W L)] = some (sg M K) := by
  have hn2 := h.n2
  have hn4 := h.n4
  have hcl : (cv W L).length = m := by rw [cv_len]; exact h.ln
  obtain ⟨r, hr1, hr2, hr3⟩ := h.row he
  have hrl := hr3.ln
  rw [cv_at h L he] at h1
  unfold succs at h1
  have hcomp := comp_filt (sg M) (fun k => decide (ahead (W.getD e []) (cv W L) k ≤ x)) (τ := maT) (δ0 := [some (roomsD M W), some (.int (e : Int)), some (IL (cv W L)), some (.int x)]) (List.range M.length) (fun k hk => by
    unfold maT
    exact xB_of ((op_of (x := .int (ahead (W.getD e []) (cv W L) k)) (y := .int x) ((call_of (n := 4) (cons_of (x := roomsD M W) rfl (cons_of (x := .int (e : Int)) rfl (cons_of (x := sg M k) rfl (cons_of (x := IL (cv W L)) rfl nil_of)))) rfl).trans (ra_ok hM h he (List.mem_range.mp hk) hcl)) rfl).trans rfl))
  rw [hr2] at h1 hcomp ⊢
  obtain ⟨K, pre, hK, hpK, hafter, hfil⟩ := filt_last (fun k => decide (ahead r (cv W L) k ≤ x)) M.length ⟨0, by omega, decide_eq_true (by rw [ahead_zero]; exact h0)⟩
  have hle : ahead r (cv W L) K ≤ x := of_decide_eq_true hpK
  have hs := ahead_succ (cv W L) (show K < r.length by omega)
  have hlt : x < ahead r (cv W L) (K + 1) := by
    by_cases hKn : K + 1 < M.length
    · have := of_decide_eq_false (hafter (K + 1) (by omega) hKn)
      omega
    · rw [show K + 1 = r.length by omega, ahead_full]
      exact h1
  have hnx : ∃ t, r.getD K none = some t := by
    cases hx : r.getD K none with
    | none => rw [hx] at hs; simp only [aw] at hs; omega
    | some t => exact ⟨t, rfl⟩
  obtain ⟨t, ht⟩ := hnx
  have htm : t < m := hr3.pl t (by
    rw [List.getD_eq_getElem?_getD, List.getElem?_eq_getElem (show K < r.length by omega)] at ht
    have : r[K] = some t := ht
    rw [← this]
    exact List.getElem_mem _)
  refine ⟨K, t, hK, by show (W.getD e []).getD K none = some t; rw [hr2]; exact ht, htm, hle, ?_, ?_⟩
  · rw [hs, ht] at hlt
    exact hlt
  · refine run_of (δ := [some (roomsD M W), some (.int (e : Int)), some (.int x), some (IL (cv W L))]) rfl ?_
    rw [ma_eq]
    refine ret_of ((op_of (x := .lst ((pre ++ [K]).map (sg M))) (y := .int (-1)) ?_ rfl).trans ?_)
    · rw [← hfil]
      have em : (List.range M.length).map (sg M) = M.map fun c => D.str [c] := by
        have := congrArg (List.map fun c => D.str [c]) (self_range M)
        rw [List.map_map] at this
        exact this
      have hio : iotaA (eFld fc_marks "marks" (eVar 0)) [some (roomsD M W), some (.int (e : Int)), some (.int x), some (IL (cv W L))] = some ((List.range M.length).map (sg M)) := by
        rw [em]
        unfold iotaA
        rw [fld_marks (M := M) (W := W) rfl]
      refine comp_of hio rfl hcomp ?_
      have := List.length_filter_le (fun k => decide (ahead r (cv W L) k ≤ x)) (List.range M.length)
      rw [List.length_range] at this
      rw [List.length_map]
      omega
    · rw [List.map_append]
      exact ix_last _ _
end
end K21

namespace K21
open DL L2
theorem for_cons {γ : D → DL.Env → Option DL.Env} {φ : DL.Env → Option Out} {x : D} {xs : List D} {δ δ1 δ2 : DL.Env} {o : Option Out} (h1 : γ x δ = some δ1) (h2 : φ δ1 = some (.nx δ2)) (h3 : forD γ φ xs δ2 = o) : forD γ φ (x :: xs) δ = o := by
  unfold forD
  rw [h1]
  dsimp only
  rw [h2]
  exact h3
abbrev WT (W : Wy) : D := .tup (W.map rowT)
/-- a row of marks, by their numbers, that can be walked -/
inductive Wk (W : Wy) (n : Nat) : Nat → List Nat → Nat → Prop
  | nil (e : Nat) : Wk W n e [] e
  | cons {e k t z : Nat} {ks : List Nat} (hk : k < n) (h : nx1 W e k = some t) (r : Wk W n t ks z) : Wk W n e (k :: ks) z
def rk (W : Wy) : Nat → List Nat → Int
  | _, [] => 0
  | e, k :: ks => ahead (W.getD e []) (cv W ks.length) k + (match nx1 W e k with
    | some t => rk W t ks
    | none => 0)
theorem rk_cons {W : Wy} {e k t : Nat} {ks : List Nat} (h : nx1 W e k = some t) : rk W e (k :: ks) = ahead (W.getD e []) (cv W ks.length) k + rk W t ks := by
  show ahead (W.getD e []) (cv W ks.length) k + (match nx1 W e k with
    | some t => rk W t ks
    | none => 0) = _
  rw [h]
section
variable {m : Nat} {M : List Nat} {W : Wy}
theorem nx1_lt (h : Ok m M.length W) {e k t : Nat} (he : e < m) (hk : k < M.length) (hx : nx1 W e k = some t) : t < m := by
  obtain ⟨r, hr1, hr2, hr3⟩ := h.row he
  refine hr3.pl t ?_
  have hx : (W.getD e []).getD k none = some t := hx
  rw [hr2, List.getD_eq_getElem?_getD, List.getElem?_eq_getElem (show k < r.length by rw [hr3.ln]; exact hk)] at hx
  have : r[k]'(by rw [hr3.ln]; exact hk) = some t := hx
  rw [← this]
  exact List.getElem_mem _
theorem rk_lt (h : Ok m M.length W) : ∀ {e z : Nat} {ks : List Nat}, e < m → Wk W M.length e ks z → 0 ≤ rk W e ks ∧ rk W e ks < (cv W ks.length).getD e 0
  | e, _, _, he, .nil _ => by
    show 0 ≤ (0 : Int) ∧ (0 : Int) < (cv W 0).getD e 0
    rw [cv_zero h he]
    decide
  | e, z, _, he, .cons (k := k) (t := t) (ks := ks) hk hx r => by
    have ht := nx1_lt h he hk hx
    obtain ⟨i0, i1⟩ := rk_lt h ht r
    obtain ⟨rr, hr1, hr2, hr3⟩ := h.row he
    have hrl := hr3.ln
    have hnn := aw_nn h ks.length
    have hz := ahead_mono (r := W.getD e []) hnn (Nat.zero_le k) (by rw [hr2]; omega)
    have hs := ahead_succ (cv W ks.length) (show k < (W.getD e []).length by rw [hr2]; omega)
    have hf := ahead_mono (r := W.getD e []) hnn (show k + 1 ≤ M.length by omega) (by rw [hr2]; omega)
    have hfull : ahead (W.getD e []) (cv W ks.length) M.length = (cv W (ks.length + 1)).getD e 0 := by
      rw [cv_at h _ he]
      unfold succs
      rw [← ahead_full, hr2, hrl]
    rw [rk_cons hx, List.length_cons, ← hfull]
    rw [ahead_zero] at hz
    have hx : (W.getD e []).getD k none = some t := hx
    rw [hx] at hs
    simp only [aw] at hs
    omega
theorem head_eq (h : Ok m M.length W) {e : Nat} (he : e < m) (L : Nat) {k1 k2 t1 t2 : Nat} (h1 : k1 < M.length) (h2 : k2 < M.length) (x1 : nx1 W e k1 = some t1) (x2 : nx1 W e k2 = some t2) {x : Int} (a1 : ahead (W.getD e []) (cv W L) k1 ≤ x) (b1 : x < ahead (W.getD e []) (cv W L) k1 + (cv W L).getD t1 0) (a2 : ahead (W.getD e []) (cv W L) k2 ≤ x) (b2 : x < ahead (W.getD e []) (cv W L) k2 + (cv W L).getD t2 0) : k1 = k2 := by
  obtain ⟨rr, hr1, hr2, hr3⟩ := h.row he
  have hrl := hr3.ln
  have hnn := aw_nn h L
  have s1 := ahead_succ (cv W L) (show k1 < (W.getD e []).length by rw [hr2]; omega)
  have s2 := ahead_succ (cv W L) (show k2 < (W.getD e []).length by rw [hr2]; omega)
  have x1 : (W.getD e []).getD k1 none = some t1 := x1
  have x2 : (W.getD e []).getD k2 none = some t2 := x2
  rw [x1] at s1
  rw [x2] at s2
  simp only [aw] at s1 s2
  rcases Nat.lt_trichotomy k1 k2 with hl | hl | hl
  · have := ahead_mono (r := W.getD e []) hnn (show k1 + 1 ≤ k2 by omega) (by rw [hr2]; omega)
    omega
  · exact hl
  · have := ahead_mono (r := W.getD e []) hnn (show k2 + 1 ≤ k1 by omega) (by rw [hr2]; omega)
    omega
theorem rk_inj (h : Ok m M.length W) : ∀ {e z z' : Nat} {ks ks' : List Nat}, e < m → Wk W M.length e ks z → Wk W M.length e ks' z' → ks.length = ks'.length → rk W e ks = rk W e ks' → ks = ks'
  | e, _, _, _, _, _, .nil _, .nil _, _, _ => rfl
  | e, _, _, _, _, _, .nil _, .cons _ _ _, hl, _ => by simp at hl
  | e, _, _, _, _, _, .cons _ _ _, .nil _, hl, _ => by simp at hl
  | e, _, _, _, _, he, .cons (k := k) (t := t) (ks := ks) hk hx r, .cons (k := k') (t := t') (ks := ks') hk' hx' r', hl0, hr => by
    have hl : ks.length = ks'.length := by simpa using hl0
    clear hl0
    have ht := nx1_lt h he hk hx
    have ht' := nx1_lt h he hk' hx'
    obtain ⟨i0, i1⟩ := rk_lt h ht r
    obtain ⟨j0, j1⟩ := rk_lt h ht' r'
    rw [rk_cons hx, rk_cons hx'] at hr
    rw [← hl] at hr j1
    have ek : k = k' := head_eq h he ks.length hk hk' hx hx' (x := ahead (W.getD e []) (cv W ks.length) k + rk W t ks) (by omega) (by omega) (by omega) (by omega)
    subst ek
    rw [hx] at hx'
    cases hx'
    rw [rk_inj h ht r r' hl (by omega)]
/-! ### one way -/
theorem is_mark (c : Nat) (hc : c ∈ M) : m_is_mark [.str M, .str [c]] = some (.bl true) := by
  refine run_of (δ := [some (.str M), some (.str [c])]) rfl (ret_of (and_yes rfl ((op_of (x := .str [c]) (y := .str M) rfl rfl).trans ?_)))
  show some (D.bl (false != decide (c ∈ M))) = some (D.bl true)
  rw [decide_eq_true hc]
  rfl
theorem led_k (hM : M.Nodup) (h : Ok m M.length W) {e k : Nat} (he : e < m) (hk : k < M.length) : m_Rooms_led [roomsD M W, .int (e : Int), sg M k] = some (oD (nx1 W e k)) := by
  obtain ⟨r, h1, h2, h3⟩ := h.row he
  have hkr : k < r.length := by rw [h3.ln]; exact hk
  have e2 : r[k]? = some r[k] := List.getElem?_eq_getElem hkr
  have e3 : nx1 W e k = r[k] := by
    show (W.getD e []).getD k none = _
    rw [h2, List.getD_eq_getElem?_getD, e2]
    rfl
  have ht : xNot (xB (eCall 2 m_is_mark [] (eCons (eFld fc_marks "marks" (eVar 0)) (eCons (eVar 2) eNil)))) [some (roomsD M W), some (.int (e : Int)), some (sg M k)] = some false := xNot_of (b := true) (xB_of ((call_of (n := 2) (cons_of (fld_marks rfl) (cons_of (x := sg M k) rfl nil_of)) rfl).trans (is_mark _ (ch_mem hk))))
  refine run_of (δ := [some (roomsD M W), some (.int (e : Int)), some (sg M k)]) rfl ?_
  refine (seq_nx ((if_no ht).trans rfl)).trans (ret_of ?_)
  rw [e3]
  exact (op_of (x := rowT r) (y := .int (k : Int)) ((op_of (fld_ways rfl) rfl).trans (ix_tup (by rw [List.getElem?_map, h1]; rfl))) ((bm_of (fld_marks rfl) (cons_of (x := sg M k) rfl nil_of)).trans (ix_mark hM hk))).trans (ix_tup (by rw [List.getElem?_map, e2]; rfl))
theorem meth_led (hM : M.Nodup) (h : Ok m M.length W) {e k i j : Nat} {δ : DL.Env} (he : e < m) (hk : k < M.length) (h0 : eVar 0 δ = some (roomsD M W)) (h1 : eVar i δ = some (.int (e : Int))) (h2 : eVar j δ = some (sg M k)) : eMeth "led" tab_led (eVar 0) (eCons (eVar i) (eCons (eVar j) eNil)) δ = some (oD (nx1 W e k)) := by
  have ha : eCons (eVar i) (eCons (eVar j) eNil) δ = some [.int (e : Int), sg M k] := cons_of h1 (cons_of h2 nil_of)
  unfold eMeth
  rw [h0, ha]
  exact led_k hM h he hk
/-! ### the row of a number -/
noncomputable def y1 : DL.Env → Option Out := (sAsg 7 (eCall 4 m_mark_at [] (eCons (eVar 0) (eCons (eVar 1) (eCons (eVar 3) (eCons (eOp ixD (eVar 4) (eVar 6)) eNil))))))
noncomputable def y2 : DL.Env → Option Out := (sAsg 3 (eOp subD (eVar 3) (eCall 4 m_rows_ahead [] (eCons (eVar 0) (eCons (eVar 1) (eCons (eVar 7) (eCons (eOp ixD (eVar 4) (eVar 6)) eNil)))))))
noncomputable def y3 : DL.Env → Option Out := (sAsg 1 (eMeth "led" tab_led (eVar 0) (eCons (eVar 1) (eCons (eVar 7) eNil))))
noncomputable def yB : DL.Env → Option Out := sSeq y1 (sSeq y2 (sSeq y3 (sApp 5 (eVar 7))))
abbrev YE (M : List Nat) (W : Wy) (L e : Nat) (x : Int) (acc : List Nat) (v6 v7 : Option D) : DL.Env := [some (roomsD M W), some (.int (e : Int)), some (.int (L : Int)), some (.int x), some (.lst (CT W L)), some (.lst (acc.map (sg M))), v6, v7]
theorem down_succ (R : Nat) : rngI (((R + 1 : Nat) : Int) - 1) (-1) (R + 1) = .int (R : Int) :: rngI ((R : Int) - 1) (-1) R := by
  unfold rngI
  rw [List.range_succ_eq_map, List.map_cons, List.map_map]
  congr 1
  · exact congrArg D.int (by omega)
  · refine List.map_congr_left fun k _ => ?_
    exact congrArg D.int (by simp; omega)
theorem y_all (hM : M.Nodup) (h : Ok m M.length W) (L : Nat) : ∀ (R e : Nat) (x : Int) (acc : List Nat) (v6 v7 : Option D), R ≤ L → acc.length + R ≤ 1000 → e < m → 0 ≤ x → x < (cv W R).getD e 0 → ∃ ks z x' w6 w7, ks.length = R ∧ Wk W M.length e ks z ∧ rk W e ks = x ∧ forD (gSet 6) yB (rngI ((R : Int) - 1) (-1) R) (YE M W L e x acc v6 v7) = some (.nx (YE M W L z x' (acc ++ ks) w6 w7))
  | 0, e, x, acc, v6, v7, _, _, he, h0, h1 => by
    rw [cv_zero h he] at h1
    refine ⟨[], e, x, v6, v7, rfl, .nil e, ?_, ?_⟩
    · show (0 : Int) = x
      omega
    · rw [List.append_nil]
      rfl
  | R + 1, e, x, acc, v6, v7, hRL, hl, he, h0, h1 => by
    obtain ⟨K, t, hK, hx, ht, a1, b1, hma⟩ := ma_ok hM h he R h0 h1
    obtain ⟨ks, z, x', w6, w7, hks, hw, hrk, ih⟩ := y_all hM h L R t (x - ahead (W.getD e []) (cv W R) K) (acc ++ [K]) (some (.int (R : Int))) (some (sg M K)) (by omega) (by rw [List.length_append]; simp; omega) ht (by omega) (by omega)
    refine ⟨K :: ks, z, x', w6, w7, by rw [List.length_cons, hks], .cons hK hx hw, by rw [rk_cons hx, hks, hrk]; omega, ?_⟩
    have hcr : ∀ e x acc v7, eOp ixD (eVar 4) (eVar 6) (YE M W L e x acc (some (.int (R : Int))) v7) = some (IL (cv W R)) := fun e x acc v7 => (op_of (x := .lst (CT W L)) (y := .int (R : Int)) rfl rfl).trans (ix_at (CT_at (by omega)))
    have t1 : y1 (YE M W L e x acc (some (.int (R : Int))) v7) = some (.nx (YE M W L e x acc (some (.int (R : Int))) (some (sg M K)))) := by
      unfold y1
      exact asg_of ((call_of (n := 4) (cons_of (x := roomsD M W) rfl (cons_of (x := .int (e : Int)) rfl (cons_of (x := .int x) rfl (cons_of (hcr _ _ _ _) nil_of)))) rfl).trans hma)
    have t2 : y2 (YE M W L e x acc (some (.int (R : Int))) (some (sg M K))) = some (.nx (YE M W L e (x - ahead (W.getD e []) (cv W R) K) acc (some (.int (R : Int))) (some (sg M K)))) := by
      unfold y2
      exact asg_of ((op_of (x := .int x) rfl ((call_of (n := 4) (cons_of (x := roomsD M W) rfl (cons_of (x := .int (e : Int)) rfl (cons_of (x := sg M K) rfl (cons_of (hcr _ _ _ _) nil_of)))) rfl).trans (ra_ok hM h he hK (by rw [cv_len]; exact h.ln)))).trans rfl)
    have t3 : y3 (YE M W L e (x - ahead (W.getD e []) (cv W R) K) acc (some (.int (R : Int))) (some (sg M K))) = some (.nx (YE M W L t (x - ahead (W.getD e []) (cv W R) K) acc (some (.int (R : Int))) (some (sg M K)))) := by
      unfold y3
      refine asg_of ((meth_led hM h he hK rfl rfl rfl).trans ?_)
      rw [hx]
      rfl
    have t4 : sApp 5 (eVar 7) (YE M W L t (x - ahead (W.getD e []) (cv W R) K) acc (some (.int (R : Int))) (some (sg M K))) = some (.nx (YE M W L t (x - ahead (W.getD e []) (cv W R) K) (acc ++ [K]) (some (.int (R : Int))) (some (sg M K)))) := by
      refine (app_of (xs := acc.map (sg M)) (d := sg M K) rfl rfl (by rw [List.length_map]; omega)).trans ?_
      rw [show acc.map (sg M) ++ [sg M K] = (acc ++ [K]).map (sg M) by rw [List.map_append]; rfl]
      rfl
    rw [down_succ, show acc ++ K :: ks = (acc ++ [K]) ++ ks by simp]
    refine for_cons (δ1 := YE M W L e x acc (some (.int (R : Int))) v7) rfl (?_ : yB _ = _) ih
    unfold yB
    rw [seq_nx t1, seq_nx t2, seq_nx t3]
    exact t4
noncomputable def rT : DL.Env → Option Out := (sIf (xOr (xB (eOp (cmpD fun i j => decide (i < j)) (eVar 3) (eC (.int 0)))) (xB (eOp (cmpD fun i j => decide (j ≤ i)) (eVar 3) (eOp ixD (eOp ixD (eVar 4) (eVar 2)) (eVar 1))))) sNever sNext)
theorem row_at_eq : f_row_at = sSeq (sAsg 4 (eCall 2 m_counts_up_to [] (eCons (eVar 0) (eCons (eVar 2) eNil)))) (sSeq rT (sSeq (sAsg 5 (eLst eNil)) (sSeq (sFor (iotaR (eCons (eOp subD (eVar 2) (eC (.int 1))) (eCons (eUn negD (eC (.int 1))) (eCons (eUn negD (eC (.int 1))) eNil)))) (gSet 6) yB) (sRet (eBM joinD (eC (.str [])) (eCons (eVar 5) eNil)))))) := rfl
abbrev tx' (M : List Nat) (ks : List Nat) : D := .str (ks.map fun k => M.getD k 0)
theorem row_ok (hM : M.Nodup) (h : Ok m M.length W) {e : Nat} (he : e < m) (L : Nat) (hL : L ≤ 900) {x : Int} (h0 : 0 ≤ x) (h1 : x < (cv W L).getD e 0) : ∃ ks z, ks.length = L ∧ Wk W M.length e ks z ∧ rk W e ks = x ∧ m_row_at [roomsD M W, .int (e : Int), .int (L : Int), .int x] = some (tx' M ks) := by
  obtain ⟨ks, z, x', w6, w7, hks, hw, hrk, t⟩ := y_all hM h L L e x [] none none (Nat.le_refl _) (by simp; omega) he h0 h1
  rw [List.nil_append] at t
  refine ⟨ks, z, hks, hw, hrk, ?_⟩
  refine run_of (δ := [some (roomsD M W), some (.int (e : Int)), some (.int (L : Int)), some (.int x), none, none, none, none]) rfl ?_
  have t1 : sAsg 4 (eCall 2 m_counts_up_to [] (eCons (eVar 0) (eCons (eVar 2) eNil))) [some (roomsD M W), some (.int (e : Int)), some (.int (L : Int)), some (.int x), none, none, none, none] = some (.nx [some (roomsD M W), some (.int (e : Int)), some (.int (L : Int)), some (.int x), some (.lst (CT W L)), none, none, none]) := asg_of ((call_of (n := 2) (cons_of (x := roomsD M W) rfl (cons_of (x := .int (L : Int)) rfl nil_of)) rfl).trans (up_ok h M L (by omega)))
  have t2 : rT [some (roomsD M W), some (.int (e : Int)), some (.int (L : Int)), some (.int x), some (.lst (CT W L)), none, none, none] = some (.nx [some (roomsD M W), some (.int (e : Int)), some (.int (L : Int)), some (.int x), some (.lst (CT W L)), none, none, none]) := by
    unfold rT
    have e1 : xB (eOp (cmpD fun i j => decide (i < j)) (eVar 3) (eC (.int 0))) [some (roomsD M W), some (.int (e : Int)), some (.int (L : Int)), some (.int x), some (.lst (CT W L)), none, none, none] = some (decide (x < 0)) := xB_of ((op_of (x := .int x) (y := .int 0) rfl rfl).trans rfl)
    have e2 : xB (eOp (cmpD fun i j => decide (j ≤ i)) (eVar 3) (eOp ixD (eOp ixD (eVar 4) (eVar 2)) (eVar 1))) [some (roomsD M W), some (.int (e : Int)), some (.int (L : Int)), some (.int x), some (.lst (CT W L)), none, none, none] = some (decide ((cv W L).getD e 0 ≤ x)) := xB_of ((op_of (x := .int x) (y := .int ((cv W L).getD e 0)) rfl ((op_of (x := IL (cv W L)) (y := .int (e : Int)) ((op_of (x := .lst (CT W L)) (y := .int (L : Int)) rfl rfl).trans (ix_at (CT_at (Nat.le_refl _)))) rfl).trans (ix_ints (by rw [cv_len, h.ln]; exact he)))).trans rfl)
    rw [decide_eq_false (by omega)] at e1 e2
    exact (if_no (xOr_no e1 e2)).trans rfl
  rw [row_at_eq, seq_nx t1, seq_nx t2, seq_nx (δ' := YE M W L e x [] none none) rfl]
  refine (seq_nx (for_of (iotaRd (L := L) (by omega) (cons_of (x := .int ((L : Int) - 1)) ((op_of (x := .int (L : Int)) (y := .int 1) rfl rfl).trans rfl) (cons_of (x := .int (-1)) rfl (cons_of (x := .int (-1)) rfl nil_of)))) t)).trans (ret_of ((bm_of (s := []) rfl (cons_of (x := .lst (ks.map (sg M))) rfl nil_of)).trans ?_))
  exact join_ones (fun k => M.getD k 0) ks (by rw [PySem.sizeLine_eq]; omega)
end
end K21

namespace K21
open DL L2
theorem chars (M ks : List Nat) : (ks.map fun k => M.getD k 0).map (fun c => D.str [c]) = ks.map (sg M) := by rw [List.map_map]; rfl
section
variable {m : Nat} {M : List Nat} {W : Wy}
theorem ixT_of (h : Ok m M.length W) {κ0 κ1 : DL.Env → Option D} {δ : DL.Env} {e : Nat} (he : e < m) (hv : κ0 δ = some (WT W)) (h1 : κ1 δ = some (.int (e : Int))) : eOp ixD κ0 κ1 δ = some (rowT (W.getD e [])) := by
  obtain ⟨r, hr1, hr2, hr3⟩ := h.row he
  rw [hr2]
  exact (op_of hv h1).trans (ix_tup (by rw [List.getElem?_map, hr1]; rfl))
theorem ixT2_of (h : Ok m M.length W) {κ0 κ1 κ2 : DL.Env → Option D} {δ : DL.Env} {e k : Nat} (he : e < m) (hk : k < M.length) (hv : κ0 δ = some (WT W)) (h1 : κ1 δ = some (.int (e : Int))) (h2 : κ2 δ = some (.int (k : Int))) : eOp ixD (eOp ixD κ0 κ1) κ2 δ = some (oD (nx1 W e k)) := by
  obtain ⟨r, hr1, hr2, hr3⟩ := h.row he
  have hkl : k < r.length := by rw [hr3.ln]; exact hk
  have ex : r[k]? = some r[k] := List.getElem?_eq_getElem hkl
  refine (op_of (ixT_of h he hv h1) h2).trans ?_
  rw [hr2]
  refine (ix_tup (x := oD r[k]) (by rw [List.getElem?_map, ex]; rfl)).trans ?_
  show some (oD r[k]) = some (oD ((W.getD e []).getD k none))
  rw [hr2, List.getD_eq_getElem?_getD, ex]
  rfl
theorem Wk.snoc {n : Nat} : ∀ {e z t k : Nat} {ks : List Nat}, Wk W n e ks z → k < n → nx1 W z k = some t → Wk W n e (ks ++ [k]) t
  | _, _, t, _, _, .nil _, hk, hx => .cons hk hx (.nil t)
  | _, _, _, _, _, .cons h1 h2 r, hk, hx => .cons h1 h2 (Wk.snoc r hk hx)
theorem Wk.lt (h : Ok m M.length W) : ∀ {e z : Nat} {ks : List Nat}, e < m → Wk W M.length e ks z → z < m
  | _, _, _, he, .nil _ => he
  | _, _, _, he, .cons hk hx r => Wk.lt h (nx1_lt h he hk hx) r
/-! ### the marks that lead on -/
abbrev opn (W : Wy) (e n : Nat) : List Nat := (List.range n).filter fun k => (nx1 W e k).isSome
noncomputable def opE : DL.Env → Option D := (eComp (iotaR (eCons (eCB lenD (eCons (eVar 0) eNil)) eNil)) (gSet 0) (xB (eNotN (eOp ixD (eOp ixD (eVar 1) (eVar 2)) (eVar 0)))) (eVar 0) 1 [1, 2])
theorem op_of' (h : Ok m M.length W) {e : Nat} (he : e < m) {δ : DL.Env} (h0 : eVar 0 δ = some (.str M)) (h1 : (δ[1]?).getD none = some (WT W)) (h2 : (δ[2]?).getD none = some (.int (e : Int))) : opE δ = some (IL ((opn W e M.length).map fun k : Nat => (k : Int))) := by
  have hn4 := h.n4
  have hf := comp_filt (fun k : Nat => D.int (0 + (k : Int) * 1)) (fun k => (nx1 W e k).isSome) (τ := xB (eNotN (eOp ixD (eOp ixD (eVar 1) (eVar 2)) (eVar 0)))) (δ0 := [some (WT W), some (.int (e : Int))]) (List.range M.length) (fun k hk => by
    have hk := List.mem_range.mp hk
    refine xB_of ?_
    unfold eNotN
    rw [ixT2_of h (k := k) he hk rfl rfl (show eVar 0 [some (D.int (0 + (k : Int) * 1)), some (WT W), some (.int (e : Int))] = some (.int (k : Int)) by rw [show (0 + (k : Int) * 1) = k by omega]; rfl)]
    dsimp only
    rw [isNon_oD]
    cases nx1 W e k <;> rfl)
  have hfl : (opn W e M.length).length ≤ M.length := by
    have := List.length_filter_le (fun k => (nx1 W e k).isSome) (List.range M.length)
    rw [List.length_range] at this
    exact this
  have hopm : (opn W e M.length).map (fun k : Nat => D.int (0 + (k : Int) * 1)) = ((opn W e M.length).map fun k : Nat => (k : Int)).map D.int := by
    rw [List.map_map]
    refine List.map_congr_left fun k _ => ?_
    show D.int (0 + (k : Int) * 1) = D.int (k : Int)
    rw [show (0 + (k : Int) * 1) = k by omega]
  rw [hopm] at hf
  have hd : blkD 1 δ [1, 2] = [none, some (WT W), some (.int (e : Int))] := by
    show [none, (δ[1]?).getD none, (δ[2]?).getD none] = _
    rw [h1, h2]
  unfold opE
  exact comp_of ((iotaR1 (j := (M.length : Int)) (cons_of ((cb_of (cons_of h0 nil_of)).trans (len_str (by omega))) nil_of) (by omega) (by omega)).trans (by rw [Int.toNat_natCast]; rfl)) hd hf (by rw [List.length_map, List.length_map]; omega)
theorem op_ne (h : Ok m M.length W) (hv : Live W) {e : Nat} (he : e < m) : ∃ k, k < M.length ∧ (nx1 W e k).isSome = true := by
  obtain ⟨r, hr1, hr2, hr3⟩ := h.row he
  obtain ⟨t, ht⟩ := hv r (List.mem_of_getElem? hr1)
  obtain ⟨k, hk, ek⟩ := List.mem_iff_getElem.mp ht
  refine ⟨k, by rw [← hr3.ln]; exact hk, ?_⟩
  show ((W.getD e []).getD k none).isSome = true
  rw [hr2, List.getD_eq_getElem?_getD, List.getElem?_eq_getElem hk, ek]
  rfl
theorem filt_first (p : Nat → Bool) : ∀ n, (∃ k, k < n ∧ p k = true) → ∃ K post, K < n ∧ p K = true ∧ (∀ k, k < K → p k = false) ∧ (List.range n).filter p = K :: post
  | 0, ⟨k, hk, _⟩ => absurd hk (by omega)
  | n + 1, ⟨k, hk, hp⟩ => by
    rw [List.range_succ, List.filter_append]
    by_cases hx : ∃ k, k < n ∧ p k = true
    · obtain ⟨K, post, h1, h2, h3, h4⟩ := filt_first p n hx
      exact ⟨K, post ++ [n].filter p, by omega, h2, h3, by rw [h4]; rfl⟩
    · have hk' : k = n := by
        apply Classical.byContradiction
        intro z
        exact hx ⟨k, by omega, hp⟩
      subst hk'
      have e : (List.range k).filter p = [] := by
        rw [List.filter_eq_nil_iff]
        intro x hxr hpx
        exact hx ⟨x, List.mem_range.mp hxr, hpx⟩
      refine ⟨k, [], Nat.lt_succ_self k, hp, fun x hxk => ?_, ?_⟩
      · cases hq : p x with
        | false => rfl
        | true => exact absurd ⟨x, hxk, hq⟩ hx
      · rw [e, show [k].filter p = [k] by simp [hp]]
        rfl
theorem ahead_none {r : List (Option Nat)} (c : List Int) : ∀ k, k ≤ r.length → (∀ i, i < k → r.getD i none = none) → ahead r c k = 0
  | 0, _, _ => rfl
  | k + 1, hk, h => by
    rw [ahead_succ c (by omega), ahead_none c k (by omega) fun i hi => h i (by omega), h k (by omega)]
    rfl
theorem ahead_same {r : List (Option Nat)} (c : List Int) {k : Nat} : ∀ j, k ≤ j → j ≤ r.length → (∀ i, k ≤ i → i < j → r.getD i none = none) → ahead r c j = ahead r c k
  | 0, hkj, _, _ => by rw [show k = 0 by omega]
  | j + 1, hkj, hj, h => by
    by_cases e : k = j + 1
    · rw [e]
    · rw [ahead_succ c (by omega), ahead_same c j (by omega) (by omega) fun i h1 h2 => h i h1 (by omega), h j (by omega) (by omega)]
      simp [aw]
/-! ### the first row and the last -/
noncomputable def e1 : DL.Env → Option Out := (sAsg 7 opE)
noncomputable def e2 : DL.Env → Option Out := (sAsg 8 (eOp ixD (eVar 7) (eVar 4)))
noncomputable def e3 : DL.Env → Option Out := (sAsg 5 (eOp addX (eVar 5) (eOp ixD (eVar 0) (eVar 8))))
noncomputable def e4 : DL.Env → Option Out := (sAsg 2 (eOp ixD (eOp ixD (eVar 1) (eVar 2)) (eVar 8)))
theorem edge_eq : f__law_edge = sSeq (sAsg 5 (eC (.str []))) (sSeq (sFor (iotaR (eCons (eVar 3) eNil)) (gSet 6) (sSeq e1 (sSeq e2 (sSeq e3 e4)))) (sRet (eVar 5))) := rfl
abbrev EE (M : List Nat) (W : Wy) (e L : Nat) (l : Int) (ks : List Nat) (v6 v7 v8 : Option D) : DL.Env := [some (.str M), some (WT W), some (.int (e : Int)), some (.int (L : Int)), some (.int l), some (tx' M ks), v6, v7, v8]
/-- the mark that is taken: R marks are still to come behind it -/
theorem pick_of (h : Ok m M.length W) (hv : Live W) {e : Nat} (he : e < m) (l : Int) (hl : l = 0 ∨ l = -1) : ∃ K t, K < M.length ∧ nx1 W e K = some t ∧ ixD (IL ((opn W e M.length).map fun k : Nat => (k : Int))) (.int l) = some (.int (K : Int)) ∧ (∀ R, l = 0 → ahead (W.getD e []) (cv W R) K = 0) ∧ (∀ R, l = -1 → ahead (W.getD e []) (cv W R) K + (cv W R).getD t 0 = (cv W (R + 1)).getD e 0) := by
  obtain ⟨r, hr1, hr2, hr3⟩ := h.row he
  have hrl := hr3.ln
  have hex := op_ne h hv he
  rcases hl with rfl | rfl
  · obtain ⟨K, post, h1, h2, h3, h4⟩ := filt_first (fun k => (nx1 W e k).isSome) M.length hex
    obtain ⟨t, ht⟩ := Option.isSome_iff_exists.mp h2
    refine ⟨K, t, h1, ht, ?_, fun R _ => ?_, fun R z => absurd z (by decide)⟩
    · show ixD (.lst (((List.range M.length).filter (fun k => (nx1 W e k).isSome)).map (fun k : Nat => (k : Int)) |>.map D.int)) (.int ((0 : Nat) : Int)) = _
      rw [h4]
      exact ix_at rfl
    · refine ahead_none _ K (by rw [hr2]; omega) fun i hi => ?_
      have := h3 i hi
      cases hx : (W.getD e []).getD i none with
      | none => rfl
      | some u =>
        have hx : nx1 W e i = some u := hx
        rw [hx] at this
        cases this
  · obtain ⟨K, pre, h1, h2, h3, h4⟩ := filt_last (fun k => (nx1 W e k).isSome) M.length hex
    obtain ⟨t, ht⟩ := Option.isSome_iff_exists.mp h2
    refine ⟨K, t, h1, ht, ?_, fun R z => absurd z (by decide), fun R _ => ?_⟩
    · show ixD (.lst (((List.range M.length).filter (fun k => (nx1 W e k).isSome)).map (fun k : Nat => (k : Int)) |>.map D.int)) (.int (-1)) = _
      rw [h4, List.map_append, List.map_append]
      exact ix_last _ _
    · have hs := ahead_succ (cv W R) (show K < (W.getD e []).length by rw [hr2]; omega)
      have hn : (W.getD e []).getD K none = some t := ht
      rw [hn] at hs
      have hf := ahead_same (r := W.getD e []) (cv W R) (k := K + 1) M.length (by omega) (by rw [hr2]; omega) fun i i1 i2 => by
        have := h3 i (by omega) i2
        cases hx : (W.getD e []).getD i none with
        | none => rfl
        | some u =>
          have hx : nx1 W e i = some u := hx
          rw [hx] at this
          cases this
      have hfull : ahead (W.getD e []) (cv W R) M.length = (cv W (R + 1)).getD e 0 := by
        rw [cv_at h _ he]
        unfold succs
        rw [← ahead_full, hr2, hrl]
      simp only [aw] at hs
      omega
theorem e_turn (h : Ok m M.length W) {e : Nat} (he : e < m) (L : Nat) (l : Int) (ks : List Nat) (hks : ks.length ≤ 1000) {K t : Nat} (hK : K < M.length) (ht : nx1 W e K = some t) (hix : ixD (IL ((opn W e M.length).map fun k : Nat => (k : Int))) (.int l) = some (.int (K : Int))) (v6 v7 v8 : Option D) : ∃ w7 w8, sSeq e1 (sSeq e2 (sSeq e3 e4)) (EE M W e L l ks v6 v7 v8) = some (.nx (EE M W t L l (ks ++ [K]) v6 w7 w8)) := by
  have hn4 := h.n4
  refine ⟨some (IL ((opn W e M.length).map fun k : Nat => (k : Int))), some (.int (K : Int)), ?_⟩
  have t1 : e1 (EE M W e L l ks v6 v7 v8) = some (.nx (EE M W e L l ks v6 (some (IL ((opn W e M.length).map fun k : Nat => (k : Int)))) v8)) := by
    unfold e1
    exact asg_of (op_of' h he rfl rfl rfl)
  have t2 : e2 (EE M W e L l ks v6 (some (IL ((opn W e M.length).map fun k : Nat => (k : Int)))) v8) = some (.nx (EE M W e L l ks v6 (some (IL ((opn W e M.length).map fun k : Nat => (k : Int)))) (some (.int (K : Int))))) := by
    unfold e2
    exact asg_of ((op_of (y := .int l) rfl rfl).trans hix)
  have t3 : e3 (EE M W e L l ks v6 (some (IL ((opn W e M.length).map fun k : Nat => (k : Int)))) (some (.int (K : Int)))) = some (.nx (EE M W e L l (ks ++ [K]) v6 (some (IL ((opn W e M.length).map fun k : Nat => (k : Int)))) (some (.int (K : Int))))) := by
    unfold e3
    refine (asg_of ((op_of (x := tx' M ks) (y := sg M K) rfl ((op_of (x := .str M) (y := .int (K : Int)) rfl rfl).trans (ix_str (c := M.getD K 0) (by rw [getD_lt hK]; exact List.getElem?_eq_getElem hK) (by omega)))).trans (add_str (by rw [List.length_map]; simp; omega)))).trans ?_
    rw [show (ks.map fun k => M.getD k 0) ++ [M.getD K 0] = (ks ++ [K]).map fun k => M.getD k 0 by rw [List.map_append]; rfl]
    rfl
  rw [seq_nx t1, seq_nx t2, seq_nx t3]
  unfold e4
  refine (asg_of (ixT2_of h he hK rfl rfl rfl)).trans ?_
  rw [ht]
  rfl
theorem e_all (h : Ok m M.length W) (hv : Live W) (L : Nat) (l : Int) (hl : l = 0 ∨ l = -1) : ∀ (xs : List D) (e : Nat) (acc : List Nat) (v6 v7 v8 : Option D), e < m → acc.length + xs.length ≤ 1000 → ∃ ks z w6 w7 w8, ks.length = xs.length ∧ Wk W M.length e ks z ∧ rk W e ks = (if l = 0 then 0 else (cv W xs.length).getD e 0 - 1) ∧ forD (gSet 6) (sSeq e1 (sSeq e2 (sSeq e3 e4))) xs (EE M W e L l acc v6 v7 v8) = some (.nx (EE M W z L l (acc ++ ks) w6 w7 w8))
  | [], e, acc, v6, v7, v8, he, _ => by
    refine ⟨[], e, v6, v7, v8, rfl, .nil e, ?_, by rw [List.append_nil]; rfl⟩
    show (0 : Int) = if l = 0 then 0 else (cv W 0).getD e 0 - 1
    rw [cv_zero h he]
    split <;> rfl
  | x :: xs, e, acc, v6, v7, v8, he, hlen => by
    rw [List.length_cons] at hlen
    obtain ⟨K, t, hK, ht, hix, hz, hlast⟩ := pick_of h hv he l hl
    have htm := nx1_lt h he hK ht
    obtain ⟨u7, u8, tt⟩ := e_turn h he L l acc (by omega) hK ht hix (some x) v7 v8
    obtain ⟨ks, z, w6, w7, w8, hks, hw, hrk, ih⟩ := e_all h hv L l hl xs t (acc ++ [K]) (some x) u7 u8 htm (by rw [List.length_append]; simp; omega)
    refine ⟨K :: ks, z, w6, w7, w8, by rw [List.length_cons, List.length_cons, hks], .cons hK ht hw, ?_, ?_⟩
    · rw [rk_cons ht, hks, hrk, List.length_cons]
      by_cases e0 : l = 0
      · rw [if_pos e0, if_pos e0, hz _ e0]
        rfl
      · rw [if_neg e0, if_neg e0]
        have := hlast xs.length (hl.resolve_left e0)
        omega
    · rw [show acc ++ K :: ks = (acc ++ [K]) ++ ks by simp]
      exact for_cons (δ1 := EE M W e L l acc (some x) v7 v8) rfl tt ih
theorem edge_ok (h : Ok m M.length W) (hv : Live W) {e : Nat} (he : e < m) (L : Nat) (hL : L ≤ 900) (l : Int) (hl : l = 0 ∨ l = -1) : ∃ ks z, ks.length = L ∧ Wk W M.length e ks z ∧ rk W e ks = (if l = 0 then 0 else (cv W L).getD e 0 - 1) ∧ m__law_edge [.str M, WT W, .int (e : Int), .int (L : Int), .int l] = some (tx' M ks) := by
  obtain ⟨ks, z, w6, w7, w8, hks, hw, hrk, t⟩ := e_all h hv L l hl (rngI 0 1 L) e [] none none none he (by rw [rng_len]; simp; omega)
  rw [rng_len] at hks hrk
  rw [List.nil_append] at t
  refine ⟨ks, z, hks, hw, hrk, run_of (δ := [some (.str M), some (WT W), some (.int (e : Int)), some (.int (L : Int)), some (.int l), none, none, none, none]) rfl ?_⟩
  rw [edge_eq, seq_nx (δ' := EE M W e L l [] none none none) rfl]
  exact (seq_nx (for_of ((iotaR1 (j := (L : Int)) rfl (by omega) (by omega)).trans (by rw [Int.toNat_natCast])) t)).trans (ret_of rfl)
end
end K21

namespace K21
open DL L2
section
variable {m : Nat} {M : List Nat} {W : Wy}
theorem Wk.all {n : Nat} : ∀ {e z : Nat} {ks : List Nat}, Wk W n e ks z → ∀ k ∈ ks, k < n
  | _, _, _, .nil _ => fun k hk => by cases hk
  | _, _, _, .cons hk _ r => fun k hk' => by
    rcases List.mem_cons.mp hk' with rfl | z
    · exact hk
    · exact Wk.all r k z
theorem lex_of (h : Ok m M.length W) : ∀ {e z z' : Nat} {ks ks' : List Nat}, e < m → Wk W M.length e ks z → Wk W M.length e ks' z' → ks.length = ks'.length → rk W e ks < rk W e ks' → ∃ pre k k' po po', ks = pre ++ k :: po ∧ ks' = pre ++ k' :: po' ∧ k < k'
  | e, _, _, _, _, _, .nil _, .nil _, _, hr => absurd hr (Int.lt_irrefl _)
  | e, _, _, _, _, _, .nil _, .cons _ _ _, hl, _ => by simp at hl
  | e, _, _, _, _, _, .cons _ _ _, .nil _, hl, _ => by simp at hl
  | e, _, _, _, _, he, .cons (k := k) (t := t) (ks := ks) hk hx r, .cons (k := k') (t := t') (ks := ks') hk' hx' r', hl0, hr => by
    have hl : ks.length = ks'.length := by simpa using hl0
    clear hl0
    have ht := nx1_lt h he hk hx
    have ht' := nx1_lt h he hk' hx'
    obtain ⟨i0, i1⟩ := rk_lt h ht r
    obtain ⟨j0, j1⟩ := rk_lt h ht' r'
    rw [rk_cons hx, rk_cons hx'] at hr
    rw [← hl] at hr j1
    by_cases ek : k = k'
    · subst ek
      rw [hx] at hx'
      cases hx'
      obtain ⟨pre, a, b, po, po', e1, e2, h3⟩ := lex_of h ht r r' hl (by omega)
      exact ⟨k :: pre, a, b, po, po', by rw [e1]; rfl, by rw [e2]; rfl, h3⟩
    · refine ⟨[], k, k', ks, ks', rfl, rfl, ?_⟩
      apply Classical.byContradiction
      intro hn
      obtain ⟨rr, hr1, hr2, hr3⟩ := h.row he
      have hrl := hr3.ln
      have hnn := aw_nn h ks.length
      have s2 := ahead_succ (cv W ks.length) (show k' < (W.getD e []).length by rw [hr2]; omega)
      have x2 : (W.getD e []).getD k' none = some t' := hx'
      rw [x2] at s2
      simp only [aw] at s2
      have := ahead_mono (r := W.getD e []) hnn (show k' + 1 ≤ k by omega) (by rw [hr2]; omega)
      omega
theorem ch_inj (hM : M.Nodup) {k k' : Nat} (hk : k < M.length) (hk' : k' < M.length) (h : M.getD k 0 = M.getD k' 0) : k = k' := by
  rw [getD_lt hk, getD_lt hk'] at h
  have e1 := find_nd hM hk
  rw [h, find_nd hM hk'] at e1
  omega
theorem ch_at {ks : List Nat} (hl : ks.length ≤ 1000) {j k : Nat} (hk : ks[j]? = some k) : ixD (tx' M ks) (.int (j : Int)) = some (sg M k) := ix_str (by rw [List.getElem?_map, hk]; rfl) (by rw [List.length_map]; omega)
/-! ### which row comes first -/
noncomputable def aB : DL.Env → Option Out := (sIf (xB (eOp neD (eOp ixD (eVar 1) (eVar 3)) (eOp ixD (eVar 2) (eVar 3)))) (sRet (eOp (cmpD fun i j => decide (i < j)) (eBM indexD (eVar 0) (eCons (eOp ixD (eVar 1) (eVar 3)) eNil)) (eBM indexD (eVar 0) (eCons (eOp ixD (eVar 2) (eVar 3)) eNil)))) sNext)
theorem ahead_eq : f__law_ahead = sSeq (sFor (iotaR (eCons (eCB lenD (eCons (eVar 1) eNil)) eNil)) (gSet 3) aB) (sRet (eC (.bl false))) := rfl
abbrev BE (M ks ks' : List Nat) (v3 : Option D) : DL.Env := [some (.str M), some (tx' M ks), some (tx' M ks'), v3]
theorem lenX {ks : List Nat} (hl : ks.length ≤ 1000) {i : Nat} {δ : DL.Env} (h : eVar i δ = some (tx' M ks)) : eCB lenD (eCons (eVar i) eNil) δ = some (.int (ks.length : Int)) := (cb_of (cons_of h nil_of)).trans ((len_str (by rw [List.length_map]; omega)).trans (by rw [List.length_map]))
theorem a_same {ks ks' : List Nat} (hl : ks.length ≤ 1000) (hl' : ks'.length ≤ 1000) {j k : Nat} (h1 : ks[j]? = some k) (h2 : ks'[j]? = some k) : aB (BE M ks ks' (some (.int (j : Int)))) = some (.nx (BE M ks ks' (some (.int (j : Int))))) := by
  unfold aB
  refine (if_no (xB_of ((op_of (x := sg M k) (y := sg M k) ((op_of (x := tx' M ks) (y := .int (j : Int)) rfl rfl).trans (ch_at hl h1)) ((op_of (x := tx' M ks') (y := .int (j : Int)) rfl rfl).trans (ch_at hl' h2))).trans ((neD_str _ _).trans ?_)))).trans rfl
  rw [decide_eq_true rfl]
  rfl
theorem ahead_no {ks : List Nat} (hl : ks.length ≤ 1000) : m__law_ahead [.str M, tx' M ks, tx' M ks] = some (.bl false) := by
  obtain ⟨δ', h1, v3, e⟩ := forD_keep (γ := gSet 3) (φ := aB) (fun δ => ∃ v3, δ = BE M ks ks v3) (rngI 0 1 ks.length) (BE M ks ks none) ⟨_, rfl⟩ (by
    intro x hx δ ⟨v3, e⟩
    subst e
    obtain ⟨j, hj, rfl⟩ := rng_mem hx
    rw [show (0 + (j : Int) * 1) = j by omega]
    exact ⟨_, rfl, _, a_same hl hl (List.getElem?_eq_getElem hj) (List.getElem?_eq_getElem hj), _, rfl⟩)
  subst e
  refine run_of (δ := BE M ks ks none) rfl ?_
  rw [ahead_eq]
  exact (seq_nx (for_of ((iotaR1 (j := (ks.length : Int)) (cons_of (lenX hl rfl) nil_of) (by omega) (by omega)).trans (by rw [Int.toNat_natCast])) h1)).trans (ret_of rfl)
theorem for_ret {γ : D → DL.Env → Option DL.Env} {φ : DL.Env → Option Out} {x d : D} {xs : List D} {δ δ1 : DL.Env} (h1 : γ x δ = some δ1) (h2 : φ δ1 = some (.rt d)) : forD γ φ (x :: xs) δ = some (.rt d) := by
  unfold forD
  rw [h1]
  dsimp only
  rw [h2]
theorem ahead_yes (hM : M.Nodup) {pre po po' : List Nat} {k k' : Nat} (hkk : k < k') (hk : k < M.length) (hk' : k' < M.length) (hl : (pre ++ k :: po).length ≤ 1000) (hl' : (pre ++ k' :: po').length ≤ 1000) : m__law_ahead [.str M, tx' M (pre ++ k :: po), tx' M (pre ++ k' :: po')] = some (.bl true) := by
  have hp : pre.length < (pre ++ k :: po).length := by simp
  have at1 : (pre ++ k :: po)[pre.length]? = some k := by rw [List.getElem?_append_right (Nat.le_refl _), Nat.sub_self]; rfl
  have at2 : (pre ++ k' :: po')[pre.length]? = some k' := by rw [List.getElem?_append_right (Nat.le_refl _), Nat.sub_self]; rfl
  have low : ∀ j, j < pre.length → ∃ x, (pre ++ k :: po)[j]? = some x ∧ (pre ++ k' :: po')[j]? = some x := fun j hj => ⟨pre[j], by rw [List.getElem?_append_left hj, List.getElem?_eq_getElem hj], by rw [List.getElem?_append_left hj, List.getElem?_eq_getElem hj]⟩
  generalize hA : pre ++ k :: po = A at *
  generalize hB : pre ++ k' :: po' = B at *
  have loop : ∀ (d j : Nat) (v3 : Option D), j + d = pre.length → forD (gSet 3) aB ((rngI 0 1 A.length).drop j) (BE M A B v3) = some (.rt (.bl true)) := by
    intro d
    induction d with
    | zero =>
      intro j v3 hj
      have hjl : j < (rngI 0 1 A.length).length := by rw [rng_len]; omega
      rw [List.drop_eq_getElem_cons hjl]
      have ex : (rngI 0 1 A.length)[j] = .int (j : Int) := by
        have := List.getElem?_eq_getElem hjl
        obtain ⟨_, e⟩ := rng_get this
        exact e
      rw [ex]
      refine for_ret (δ1 := BE M A B (some (.int (j : Int)))) rfl ?_
      have hj0 : j = pre.length := by omega
      subst hj0
      have g1 : eOp ixD (eVar 1) (eVar 3) (BE M A B (some (.int (pre.length : Int)))) = some (sg M k) := (op_of (x := tx' M A) (y := .int (pre.length : Int)) rfl rfl).trans (ch_at hl at1)
      have g2 : eOp ixD (eVar 2) (eVar 3) (BE M A B (some (.int (pre.length : Int)))) = some (sg M k') := (op_of (x := tx' M B) (y := .int (pre.length : Int)) rfl rfl).trans (ch_at hl' at2)
      unfold aB
      rw [if_yes (xB_of ((op_of g1 g2).trans ((neD_str _ _).trans (by
        rw [decide_eq_false (fun z => by
          have : M.getD k 0 = M.getD k' 0 := by simpa using z
          have := ch_inj hM hk hk' this
          omega)]
        rfl))))]
      refine ret_of ((op_of (x := .int (k : Int)) (y := .int (k' : Int)) ((bm_of (s := M) rfl (cons_of g1 nil_of)).trans (ix_mark hM hk)) ((bm_of (s := M) rfl (cons_of g2 nil_of)).trans (ix_mark hM hk'))).trans ?_)
      show some (D.bl (decide ((k : Int) < (k' : Int)))) = _
      rw [decide_eq_true (by omega)]
    | succ d ih =>
      intro j v3 hj
      have hjl : j < (rngI 0 1 A.length).length := by rw [rng_len]; omega
      rw [List.drop_eq_getElem_cons hjl]
      have ex : (rngI 0 1 A.length)[j] = .int (j : Int) := by
        have := List.getElem?_eq_getElem hjl
        obtain ⟨_, e⟩ := rng_get this
        exact e
      rw [ex]
      obtain ⟨x, x1, x2⟩ := low j (by omega)
      exact for_cons (δ1 := BE M A B (some (.int (j : Int)))) rfl (a_same hl hl' x1 x2) (ih (j + 1) _ (by omega))
  refine run_of (δ := BE M A B none) rfl ?_
  rw [ahead_eq]
  refine seq_rt (for_of ((iotaR1 (j := (A.length : Int)) (cons_of (lenX hl rfl) nil_of) (by omega) (by omega)).trans (by rw [Int.toNat_natCast, List.drop_zero])) (loop pre.length 0 none (by omega)))
/-! ### a drawn number -/
noncomputable def nb : DL.Env → Option Out := (sAsg 3 (eOp modW (eOp addX (eOp mulX (eVar 3) (eC (.int 1009))) (eVar 4)) (eVar 1)))
theorem lnum_eq : f__law_number = sSeq (sAsg 3 (eVar 2)) (sSeq (sFor (iotaA (eSl (eVar 0) (xP (eC (.int 5))) xNoP)) (gSet 4) nb) (sRet (eOp modW (eVar 3) (eVar 1)))) := rfl
theorem lnum_ok (ns : List Int) {Q : Int} (hQ : 0 < Q) (a : Int) : ∃ x : Int, 0 ≤ x ∧ x < Q ∧ m__law_number [IL ns, .int Q, .int a] = some (.int x) := by
  obtain ⟨δ', h1, x, v4, e⟩ := forD_keep (γ := gSet 4) (φ := nb) (fun δ => ∃ (x : Int) (v4 : Option D), δ = [some (IL ns), some (.int Q), some (.int a), some (.int x), v4]) ((ns.map D.int).drop 5) [some (IL ns), some (.int Q), some (.int a), some (.int a), none] ⟨_, _, rfl⟩ (by
    intro d hd δ ⟨x, v4, e⟩
    subst e
    obtain ⟨c, _, rfl⟩ := List.mem_map.mp (List.mem_of_mem_drop hd)
    refine ⟨_, rfl, [some (IL ns), some (.int Q), some (.int a), some (.int ((x * 1009 + c) % Q)), some (.int c)], ?_, _, _, rfl⟩
    unfold nb
    exact asg_of ((op_of (x := .int (x * 1009 + c)) (y := .int Q) ((op_of (x := .int (x * 1009)) (y := .int c) ((op_of (x := .int x) (y := .int 1009) rfl rfl).trans (if_pos (.inr (.inr ⟨by decide, by decide⟩)))) rfl).trans (add_int _ _)) rfl).trans (modP hQ)))
  subst e
  refine ⟨x % Q, Int.emod_nonneg _ (by omega), Int.emod_lt_of_pos _ hQ, run_of (δ := [some (IL ns), some (.int Q), some (.int a), none, none]) rfl ?_⟩
  rw [lnum_eq, seq_nx (δ' := [some (IL ns), some (.int Q), some (.int a), some (.int a), none]) rfl]
  have hs : eSl (eVar 0) (xP (eC (.int 5))) xNoP [some (IL ns), some (.int Q), some (.int a), some (.int a), none] = some (.lst ((ns.map D.int).drop 5)) := by
    show some (D.lst (L2.cutL (ns.map D.int) (some ((5 : Nat) : Int)) none)) = _
    rw [L2.cut_from]
  exact (seq_nx (for_of (iotaA_of hs) h1)).trans (ret_of ((op_of (x := .int x) (y := .int Q) rfl rfl).trans (modP hQ)))
end
end K21

namespace K21
open DL L2
abbrev Bl := List Nat × Nat
def ext1 (W : Wy) (p : Bl) (ks : List Nat) : List Bl := ks.filterMap fun k => (nx1 W p.2 k).map fun t => (p.1 ++ [k], t)
def ext (W : Wy) (n : Nat) (p : Bl) : List Bl := ext1 W p (List.range n)
def bfs (W : Wy) (n e : Nat) : Nat → List Bl
  | 0 => [([], e)]
  | L + 1 => (bfs W n e L).flatMap (ext W n)
/-! ### the same list, by the first mark -/
def con (k : Nat) (p : Bl) : Bl := (k :: p.1, p.2)
def kids (W : Wy) (e : Nat) (f : Nat → List Bl) (ks : List Nat) : List Bl := ks.flatMap fun k => match nx1 W e k with
  | some t => (f t).map (con k)
  | none => []
def alls (W : Wy) (n : Nat) : Nat → Nat → List Bl
  | 0, e => [([], e)]
  | L + 1, e => kids W e (alls W n L) (List.range n)
theorem ext_con (W : Wy) (n k : Nat) (p : Bl) : ext W n (con k p) = (ext W n p).map (con k) := by
  unfold ext ext1 con
  rw [List.map_filterMap]
  congr 1
  funext x
  cases nx1 W p.2 x <;> rfl
theorem flat_con (W : Wy) (n k : Nat) : ∀ ps : List Bl, (ps.map (con k)).flatMap (ext W n) = (ps.flatMap (ext W n)).map (con k)
  | [] => rfl
  | p :: ps => by rw [List.map_cons, List.flatMap_cons, List.flatMap_cons, List.map_append, ext_con, flat_con W n k ps]
theorem kids_flat (W : Wy) (n e : Nat) (f g : Nat → List Bl) (hfg : ∀ t, (f t).flatMap (ext W n) = g t) : ∀ ks : List Nat, (kids W e f ks).flatMap (ext W n) = kids W e g ks
  | [] => rfl
  | k :: ks => by
    unfold kids
    rw [List.flatMap_cons, List.flatMap_cons, List.flatMap_append]
    have ih := kids_flat W n e f g hfg ks
    unfold kids at ih
    rw [ih]
    congr 1
    cases nx1 W e k with
    | none => rfl
    | some t =>
      show ((f t).map (con k)).flatMap (ext W n) = (g t).map (con k)
      rw [flat_con, hfg]
theorem alls_step (W : Wy) (n : Nat) : ∀ L e, (alls W n L e).flatMap (ext W n) = alls W n (L + 1) e
  | 0, e => by
    show (ext W n ([], e)) ++ [] = kids W e (alls W n 0) (List.range n)
    rw [List.append_nil]
    unfold ext kids
    generalize List.range n = ks
    induction ks with
    | nil => rfl
    | cons k ks ih =>
      unfold ext1 at ih ⊢
      rw [List.filterMap_cons, List.flatMap_cons]
      cases h : nx1 W e k with
      | none =>
        exact ih
      | some t =>
        show ([] ++ [k], t) :: _ = [con k ([], t)] ++ _
        rw [ih]
        rfl
  | L + 1, e => by
    show (kids W e (alls W n L) (List.range n)).flatMap (ext W n) = kids W e (alls W n (L + 1)) (List.range n)
    exact kids_flat W n e (alls W n L) (alls W n (L + 1)) (fun t => alls_step W n L t) _
theorem bfs_alls (W : Wy) (n e : Nat) : ∀ L, bfs W n e L = alls W n L e
  | 0 => rfl
  | L + 1 => by
    show (bfs W n e L).flatMap (ext W n) = _
    rw [bfs_alls W n e L, alls_step]
section
variable {m : Nat} {M : List Nat} {W : Wy}
theorem alls_wk (h : Ok m M.length W) : ∀ (L : Nat) {e : Nat}, e < m → ∀ p ∈ alls W M.length L e, p.1.length = L ∧ Wk W M.length e p.1 p.2
  | 0, e, _, p, hp => by
    rw [List.mem_singleton.mp hp]
    exact ⟨rfl, .nil e⟩
  | L + 1, e, he, p, hp => by
    obtain ⟨k, hk, hq⟩ := List.mem_flatMap.mp (show p ∈ kids W e (alls W M.length L) (List.range M.length) from hp)
    have hk := List.mem_range.mp hk
    cases hx : nx1 W e k with
    | none => rw [hx] at hq; cases hq
    | some t =>
      rw [hx] at hq
      obtain ⟨q, hq1, rfl⟩ := List.mem_map.mp hq
      obtain ⟨h1, h2⟩ := alls_wk h L (nx1_lt h he hk hx) q hq1
      exact ⟨by show (k :: q.1).length = _; rw [List.length_cons, h1], .cons hk hx h2⟩
def up (lo : Int) : Nat → List Int
  | 0 => []
  | n + 1 => lo :: up (lo + 1) n
theorem up_app (lo : Int) : ∀ a b : Nat, up lo (a + b) = up lo a ++ up (lo + a) b
  | 0, b => by rw [Nat.zero_add]; show _ = up (lo + 0) b; rw [Int.add_zero]
  | a + 1, b => by
    rw [show a + 1 + b = (a + b) + 1 by omega]
    show lo :: up (lo + 1) (a + b) = lo :: (up (lo + 1) a ++ up (lo + ((a + 1 : Nat) : Int)) b)
    rw [up_app (lo + 1) a b, show lo + 1 + (a : Int) = lo + ((a + 1 : Nat) : Int) by omega]
theorem up_shift (d : Int) : ∀ (n : Nat) (lo : Int), (up lo n).map (fun x => d + x) = up (d + lo) n
  | 0, _ => rfl
  | n + 1, lo => by
    show (d + lo) :: (up (lo + 1) n).map _ = (d + lo) :: up (d + lo + 1) n
    rw [up_shift d n (lo + 1), Int.add_assoc]
/-- the rows' numbers are 0, 1, 2 .. -/
theorem alls_rk (h : Ok m M.length W) : ∀ (L : Nat) {e : Nat}, e < m → (alls W M.length L e).map (fun p => rk W e p.1) = up 0 ((cv W L).getD e 0).toNat
  | 0, e, he => by
    rw [cv_zero h he]
    rfl
  | L + 1, e, he => by
    obtain ⟨r, hr1, hr2, hr3⟩ := h.row he
    have hrl := hr3.ln
    have hnn := aw_nn h L
    have part : ∀ j, j ≤ M.length → (kids W e (alls W M.length L) (List.range j)).map (fun p => rk W e p.1) = up 0 (ahead (W.getD e []) (cv W L) j).toNat := by
      intro j
      induction j with
      | zero => intro _; rfl
      | succ j ih =>
        intro hj
        have ih := ih (by omega)
        have hs := ahead_succ (cv W L) (show j < (W.getD e []).length by rw [hr2]; omega)
        have hz := ahead_mono (r := W.getD e []) hnn (Nat.zero_le j) (by rw [hr2]; omega)
        rw [ahead_zero] at hz
        have hw := hnn ((W.getD e []).getD j none)
        have ek : kids W e (alls W M.length L) (List.range (j + 1)) = kids W e (alls W M.length L) (List.range j) ++ (match nx1 W e j with
          | some t => (alls W M.length L t).map (con j)
          | none => []) := by
          unfold kids
          rw [List.range_succ, List.flatMap_append]
          show _ ++ ((match nx1 W e j with
            | some t => (alls W M.length L t).map (con j)
            | none => []) ++ []) = _
          rw [List.append_nil]
        rw [ek, List.map_append, ih, hs]
        cases hx : nx1 W e j with
        | none =>
          have hx' : (W.getD e []).getD j none = none := hx
          rw [hx']
          simp [aw]
        | some t =>
          have hx' : (W.getD e []).getD j none = some t := hx
          rw [hx'] at hw ⊢
          simp only [aw] at hw ⊢
          have ht := nx1_lt h he (show j < M.length by omega) hx
          have ih2 := alls_rk h L ht
          have em : ((alls W M.length L t).map (con j)).map (fun p => rk W e p.1) = ((alls W M.length L t).map fun p => rk W t p.1).map fun x => ahead (W.getD e []) (cv W L) j + x := by
            rw [List.map_map, List.map_map]
            refine List.map_congr_left fun p hp => ?_
            have := (alls_wk h L ht p hp).1
            show rk W e (j :: p.1) = _
            rw [rk_cons hx, this]
            rfl
          show up 0 _ ++ ((alls W M.length L t).map (con j)).map (fun p => rk W e p.1) = _
          rw [em, ih2, up_shift, Int.toNat_add hz hw, up_app, Int.toNat_of_nonneg hz, Int.zero_add, Int.add_zero]
    show (kids W e (alls W M.length L) (List.range M.length)).map (fun p => rk W e p.1) = _
    rw [part M.length (Nat.le_refl _), cv_at h L he]
    unfold succs
    rw [← ahead_full, hr2, hrl]
theorem up_len : ∀ (n : Nat) (lo : Int), (up lo n).length = n
  | 0, _ => rfl
  | n + 1, lo => by show (up (lo + 1) n).length + 1 = n + 1; rw [up_len n]
theorem up_range : ∀ (n : Nat) (lo : Int), up lo n = (List.range n).map fun k : Nat => lo + (k : Int)
  | 0, _ => rfl
  | n + 1, lo => by
    rw [List.range_succ_eq_map, List.map_cons, List.map_map]
    show lo :: up (lo + 1) n = _
    rw [up_range n (lo + 1)]
    congr 1
    · omega
    · refine List.map_congr_left fun k _ => ?_
      show lo + 1 + (k : Int) = lo + ((k + 1 : Nat) : Int)
      omega
theorem bfs_len (h : Ok m M.length W) (L : Nat) {e : Nat} (he : e < m) : (bfs W M.length e L).length = ((cv W L).getD e 0).toNat := by
  have := congrArg List.length (alls_rk h L he)
  rw [List.length_map, up_len] at this
  rw [bfs_alls]
  exact this
theorem ext_len (hv : Live W) (h : Ok m M.length W) {p : Bl} (hp : p.2 < m) : 1 ≤ (ext W M.length p).length := by
  obtain ⟨k, hk, hs⟩ := op_ne h hv hp
  obtain ⟨t, ht⟩ := Option.isSome_iff_exists.mp hs
  have : (p.1 ++ [k], t) ∈ ext W M.length p := List.mem_filterMap.mpr ⟨k, List.mem_range.mpr hk, by rw [ht]; rfl⟩
  exact List.length_pos_of_mem this
theorem bfs_room (h : Ok m M.length W) {e : Nat} (he : e < m) (L : Nat) : ∀ p ∈ bfs W M.length e L, p.2 < m ∧ p.1.length = L := fun p hp => by
  rw [bfs_alls] at hp
  obtain ⟨h1, h2⟩ := alls_wk h L he p hp
  exact ⟨Wk.lt h he h2, h1⟩
theorem bfs_mono (h : Ok m M.length W) (hv : Live W) {e : Nat} (he : e < m) (L : Nat) : (bfs W M.length e L).length ≤ (bfs W M.length e (L + 1)).length := by
  have hr := bfs_room h he L
  show _ ≤ ((bfs W M.length e L).flatMap (ext W M.length)).length
  generalize bfs W M.length e L = ps at *
  induction ps with
  | nil => exact Nat.zero_le _
  | cons p ps ih =>
    have ih := ih fun q hq => hr q (List.mem_cons_of_mem _ hq)
    have := ext_len hv h (hr p List.mem_cons_self).1
    rw [List.flatMap_cons, List.length_append, List.length_cons]
    omega
theorem bfs_le (h : Ok m M.length W) (hv : Live W) {e : Nat} (he : e < m) {j L : Nat} (hj : j ≤ L) : (bfs W M.length e j).length ≤ (bfs W M.length e L).length := by
  induction L with
  | zero => rw [show j = 0 by omega]; exact Nat.le_refl _
  | succ L ih =>
    by_cases e' : j = L + 1
    · rw [e']; exact Nat.le_refl _
    · exact Nat.le_trans (ih (by omega)) (bfs_mono h hv he L)
end
end K21

namespace K21
open DL L2
abbrev bD (M : List Nat) (p : Bl) : D := .tup [tx' M p.1, .int (p.2 : Int)]
theorem rng_map (n : Nat) : rngI 0 1 n = (List.range n).map fun k : Nat => D.int (k : Int) := by
  unfold rngI
  refine List.map_congr_left fun k _ => ?_
  show D.int (0 + (k : Int) * 1) = D.int (k : Int)
  rw [show (0 + (k : Int) * 1) = k by omega]
noncomputable def wkE : DL.Env → Option D := (eOp ixD (eOp ixD (eVar 1) (eVar 8)) (eVar 9))
noncomputable def li : DL.Env → Option Out := (sIf (xB (eNotN wkE)) (sApp 6 (eTup (eCons (eOp addX (eVar 7) (eOp ixD (eVar 0) (eVar 9))) (eCons wkE eNil)))) sNext)
noncomputable def lr : DL.Env → Option Out := (sFor (iotaR (eCons (eCB lenD (eCons (eVar 0) eNil)) eNil)) (gSet 9) li)
noncomputable def ls : DL.Env → Option Out := (sFor (iotaA (eVar 4)) (gTupD 2 (gsCons 7 (gsCons 8 gsNil))) lr)
noncomputable def lt : DL.Env → Option Out := (sSeq (sAsg 6 (eLst eNil)) (sSeq ls (sAsg 4 (eVar 6))))
theorem listed_eq : f__law_listed = sSeq (sAsg 4 (eLst (eCons (eTup (eCons (eC (.str [])) (eCons (eVar 2) eNil))) eNil))) (sSeq (sFor (iotaR (eCons (eVar 3) eNil)) (gSet 5) lt) (sRet (eComp (iotaA (eVar 4)) (gSet 0) (fun _ => some true) (eOp ixD (eVar 0) (eC (.int 0))) 1 []))) := rfl
abbrev ZE (M : List Nat) (W : Wy) (e L : Nat) (v4 v5 : Option D) (lg : List Bl) (v7 v8 v9 : Option D) : DL.Env := [some (.str M), some (WT W), some (.int (e : Int)), some (.int (L : Int)), v4, v5, some (.lst (lg.map (bD M))), v7, v8, v9]
section
variable {m : Nat} {M : List Nat} {W : Wy}
theorem li_all (h : Ok m M.length W) (e L : Nat) (v4 v5 : Option D) (p : Bl) (hp : p.2 < m) (hpl : p.1.length ≤ 500) : ∀ (ks : List Nat) (lg : List Bl) (v9 : Option D), (∀ k ∈ ks, k < M.length) → lg.length + ks.length ≤ 10000 → ∃ w9, forD (gSet 9) li (ks.map fun k : Nat => D.int (k : Int)) (ZE M W e L v4 v5 lg (some (tx' M p.1)) (some (.int (p.2 : Int))) v9) = some (.nx (ZE M W e L v4 v5 (lg ++ ext1 W p ks) (some (tx' M p.1)) (some (.int (p.2 : Int))) w9))
  | [], lg, v9, _, _ => ⟨v9, by rw [show ext1 W p [] = [] from rfl, List.append_nil]; rfl⟩
  | k :: ks, lg, v9, hk, hl => by
    rw [List.length_cons] at hl
    have hk0 := hk k List.mem_cons_self
    have hn4 := h.n4
    have hw : ∀ lg, wkE (ZE M W e L v4 v5 lg (some (tx' M p.1)) (some (.int (p.2 : Int))) (some (.int (k : Int)))) = some (oD (nx1 W p.2 k)) := fun lg => by
      unfold wkE
      exact ixT2_of h hp hk0 rfl rfl rfl
    have hle : (ext1 W p [k]).length ≤ 1 := List.length_filterMap_le ..
    have t : li (ZE M W e L v4 v5 lg (some (tx' M p.1)) (some (.int (p.2 : Int))) (some (.int (k : Int)))) = some (.nx (ZE M W e L v4 v5 (lg ++ ext1 W p [k]) (some (tx' M p.1)) (some (.int (p.2 : Int))) (some (.int (k : Int))))) := by
      have e0 : xB (eNotN wkE) (ZE M W e L v4 v5 lg (some (tx' M p.1)) (some (.int (p.2 : Int))) (some (.int (k : Int)))) = some (!(nx1 W p.2 k).isNone) := by
        refine xB_of ?_
        unfold eNotN
        rw [hw lg]
        dsimp only
        rw [isNon_oD]
      unfold li
      cases hx : nx1 W p.2 k with
      | none =>
        rw [if_no (by rw [e0, hx]; rfl)]
        have es : ext1 W p [k] = [] := by unfold ext1; rw [List.filterMap_cons, hx]; rfl
        rw [es, List.append_nil]
        rfl
      | some u =>
        rw [if_yes (by rw [e0, hx]; rfl)]
        have es : ext1 W p [k] = [(p.1 ++ [k], u)] := by unfold ext1; rw [List.filterMap_cons, hx]; rfl
        rw [es]
        have hw2 := hw lg
        rw [hx] at hw2
        refine (app_of (xs := lg.map (bD M)) (d := bD M (p.1 ++ [k], u)) rfl (tup_of (cons_of (x := tx' M (p.1 ++ [k])) ((op_of (x := tx' M p.1) (y := sg M k) rfl ((op_of (x := .str M) (y := .int (k : Int)) rfl rfl).trans (ix_str (c := M.getD k 0) (by rw [getD_lt hk0]; exact List.getElem?_eq_getElem hk0) (by omega)))).trans ((add_str (by rw [List.length_map]; simp; omega)).trans (by show _ = some (D.str ((p.1 ++ [k]).map fun k => M.getD k 0)); rw [List.map_append]; rfl))) (cons_of hw2 nil_of)) (by simp)) (by rw [List.length_map]; omega)).trans ?_
        rw [show lg.map (bD M) ++ [bD M (p.1 ++ [k], u)] = (lg ++ [(p.1 ++ [k], u)]).map (bD M) by rw [List.map_append]; rfl]
        rfl
    obtain ⟨w9, ih⟩ := li_all h e L v4 v5 p hp hpl ks (lg ++ ext1 W p [k]) (some (.int (k : Int))) (fun x hx => hk x (List.mem_cons_of_mem _ hx)) (by rw [List.length_append]; omega)
    refine ⟨w9, ?_⟩
    have es : ext1 W p (k :: ks) = ext1 W p [k] ++ ext1 W p ks := by
      show (([k] ++ ks).filterMap _) = _
      rw [List.filterMap_append]
      rfl
    rw [List.map_cons, es, ← List.append_assoc]
    exact for_cons (δ1 := ZE M W e L v4 v5 lg (some (tx' M p.1)) (some (.int (p.2 : Int))) (some (.int (k : Int)))) rfl t ih
theorem ls_all (h : Ok m M.length W) (e L : Nat) (v4 v5 : Option D) : ∀ (ps lg : List Bl) (v7 v8 v9 : Option D), (∀ p ∈ ps, p.2 < m ∧ p.1.length ≤ 500) → lg.length + 4 * ps.length ≤ 9000 → ∃ w7 w8 w9, forD (gTupD 2 (gsCons 7 (gsCons 8 gsNil))) lr (ps.map (bD M)) (ZE M W e L v4 v5 lg v7 v8 v9) = some (.nx (ZE M W e L v4 v5 (lg ++ ps.flatMap (ext W M.length)) w7 w8 w9))
  | [], lg, v7, v8, v9, _, _ => ⟨v7, v8, v9, by rw [List.flatMap_nil, List.append_nil]; rfl⟩
  | p :: ps, lg, v7, v8, v9, hp, hl => by
    rw [List.length_cons] at hl
    have hn4 := h.n4
    obtain ⟨hp1, hp2⟩ := hp p List.mem_cons_self
    obtain ⟨w9, t⟩ := li_all h e L v4 v5 p hp1 hp2 (List.range M.length) lg v9 (fun k hk => List.mem_range.mp hk) (by rw [List.length_range]; omega)
    have hle : (ext W M.length p).length ≤ M.length := by
      have := List.length_filterMap_le (fun k => (nx1 W p.2 k).map fun t => (p.1 ++ [k], t)) (List.range M.length)
      rw [List.length_range] at this
      exact this
    have tr : lr (ZE M W e L v4 v5 lg (some (tx' M p.1)) (some (.int (p.2 : Int))) v9) = some (.nx (ZE M W e L v4 v5 (lg ++ ext W M.length p) (some (tx' M p.1)) (some (.int (p.2 : Int))) w9)) := by
      unfold lr
      exact for_of ((iotaR1 (j := (M.length : Int)) (cons_of ((cb_of (cons_of (x := .str M) rfl nil_of)).trans (len_str (by omega))) nil_of) (by omega) (by omega)).trans (by rw [Int.toNat_natCast, rng_map])) t
    obtain ⟨u7, u8, u9, ih⟩ := ls_all h e L v4 v5 ps (lg ++ ext W M.length p) (some (tx' M p.1)) (some (.int (p.2 : Int))) w9 (fun x hx => hp x (List.mem_cons_of_mem _ hx)) (by rw [List.length_append]; omega)
    refine ⟨u7, u8, u9, ?_⟩
    rw [List.map_cons, List.flatMap_cons, ← List.append_assoc]
    exact for_cons (δ1 := ZE M W e L v4 v5 lg (some (tx' M p.1)) (some (.int (p.2 : Int))) v9) rfl tr ih
theorem listed_ok (h : Ok m M.length W) (hv : Live W) {e : Nat} (he : e < m) (L : Nat) (hL : L ≤ 100) (hb : (bfs W M.length e L).length ≤ 100) : m__law_listed [.str M, WT W, .int (e : Int), .int (L : Int)] = some (.lst ((bfs W M.length e L).map fun p => tx' M p.1)) := by
  obtain ⟨δ', h1, v5, v6, v7, v8, v9, e'⟩ := forD_inv (γ := gSet 5) (φ := lt) (fun k δ => ∃ v5 v6 v7 v8 v9, δ = [some (.str M), some (WT W), some (.int (e : Int)), some (.int (L : Int)), some (.lst ((bfs W M.length e k).map (bD M))), v5, v6, v7, v8, v9]) (rngI 0 1 L) 0 [some (.str M), some (WT W), some (.int (e : Int)), some (.int (L : Int)), some (.lst ((bfs W M.length e 0).map (bD M))), none, none, none, none, none] ⟨_, _, _, _, _, rfl⟩ (by
    intro j x δ hx ⟨v5, v6, v7, v8, v9, e'⟩
    subst e'
    obtain ⟨hj, rfl⟩ := rng_get hx
    rw [Nat.zero_add]
    have hlen := bfs_le h hv he (show j ≤ L by omega)
    obtain ⟨w7, w8, w9, t⟩ := ls_all h e L (some (.lst ((bfs W M.length e j).map (bD M)))) (some (.int (j : Int))) (bfs W M.length e j) [] v7 v8 v9 (fun p hp => by
      obtain ⟨a, b⟩ := bfs_room h he j p hp
      exact ⟨a, by omega⟩) (by simp; omega)
    rw [List.nil_append] at t
    have t2 : ls (ZE M W e L (some (.lst ((bfs W M.length e j).map (bD M)))) (some (.int (j : Int))) [] v7 v8 v9) = some (.nx (ZE M W e L (some (.lst ((bfs W M.length e j).map (bD M)))) (some (.int (j : Int))) (bfs W M.length e (j + 1)) w7 w8 w9)) := by
      unfold ls
      exact for_of (iotaA_of rfl) t
    refine ⟨_, rfl, [some (.str M), some (WT W), some (.int (e : Int)), some (.int (L : Int)), some (.lst ((bfs W M.length e (j + 1)).map (bD M))), some (.int (j : Int)), some (.lst ((bfs W M.length e (j + 1)).map (bD M))), w7, w8, w9], ?_, _, _, _, _, _, rfl⟩
    unfold lt
    rw [seq_nx (δ' := ZE M W e L (some (.lst ((bfs W M.length e j).map (bD M)))) (some (.int (j : Int))) [] v7 v8 v9) rfl, seq_nx t2]
    exact asg_of rfl)
  subst e'
  rw [rng_len, Nat.zero_add] at h1
  refine run_of (δ := [some (.str M), some (WT W), some (.int (e : Int)), some (.int (L : Int)), none, none, none, none, none, none]) rfl ?_
  have t0 : sAsg 4 (eLst (eCons (eTup (eCons (eC (.str [])) (eCons (eVar 2) eNil))) eNil)) [some (.str M), some (WT W), some (.int (e : Int)), some (.int (L : Int)), none, none, none, none, none, none] = some (.nx [some (.str M), some (WT W), some (.int (e : Int)), some (.int (L : Int)), some (.lst ((bfs W M.length e 0).map (bD M))), none, none, none, none, none]) := asg_of (lst_of (cons_of (x := bD M ([], e)) (tup_of (cons_of rfl (cons_of rfl nil_of)) (by simp)) nil_of) (by show 1 ≤ 1000; decide))
  rw [listed_eq, seq_nx t0]
  refine (seq_nx (for_of ((iotaR1 (j := (L : Int)) rfl (by omega) (by omega)).trans (by rw [Int.toNat_natCast])) h1)).trans (ret_of ?_)
  exact comp_of (iotaA_of rfl) rfl (comp_emb (bD M) (fun p => tx' M p.1) (δ0 := [none]) (bfs W M.length e L) fun p _ => (op_of (x := bD M p) (y := .int ((0 : Nat) : Int)) rfl rfl).trans (ix_tup rfl)) (by rw [List.length_map]; omega)
/-! ### the rows of all numbers -/
theorem rows_all (hM : M.Nodup) (h : Ok m M.length W) {e : Nat} (he : e < m) (L : Nat) (hL : L ≤ 900) (j : Nat) (hj : j < (bfs W M.length e L).length) : m_row_at [roomsD M W, .int (e : Int), .int (L : Int), .int (j : Int)] = some (tx' M ((bfs W M.length e L).getD j ([], 0)).1) := by
  have hlen := bfs_len h L he
  have hpos : (((cv W L).getD e 0).toNat : Int) = (cv W L).getD e 0 := by omega
  obtain ⟨ks, z, hkl, hw, hrk, hrow⟩ := row_ok hM h he L hL (x := (j : Int)) (by omega) (by omega)
  have hat : (bfs W M.length e L)[j]? = some (bfs W M.length e L)[j] := List.getElem?_eq_getElem hj
  have hr : rk W e ((bfs W M.length e L)[j]).1 = (j : Int) := by
    have hm := alls_rk h L he
    rw [← bfs_alls, up_range] at hm
    have this : ((bfs W M.length e L).map fun p => rk W e p.1)[j]? = ((List.range ((cv W L).getD e 0).toNat).map fun k : Nat => 0 + (k : Int))[j]? := by rw [hm]
    rw [List.getElem?_map, hat, List.getElem?_map, List.getElem?_range (by omega)] at this
    have this : some (rk W e ((bfs W M.length e L)[j]).1) = some (0 + (j : Int)) := this
    have := Option.some.inj this
    omega
  obtain ⟨g1, g2⟩ := alls_wk h L he (bfs W M.length e L)[j] (by rw [← bfs_alls]; exact List.getElem_mem hj)
  have ek : ks = ((bfs W M.length e L)[j]).1 := rk_inj h he hw g2 (by omega) (by omega)
  rw [hrow, ek, List.getD_eq_getElem?_getD, hat]
  rfl
end
end K21

namespace K21
open DL L2
theorem sum_pos (f : Nat → Int) : ∀ ts : List Nat, ts ≠ [] → (∀ t ∈ ts, 1 ≤ f t) → 1 ≤ (ts.map f).sum
  | [], h, _ => absurd rfl h
  | [t], _, h => by
    have := h t List.mem_cons_self
    show 1 ≤ f t + 0
    omega
  | t :: u :: ts, _, h => by
    have ih := sum_pos f (u :: ts) (by simp) fun x hx => h x (List.mem_cons_of_mem _ hx)
    have := h t List.mem_cons_self
    rw [List.map_cons, List.sum_cons]
    omega
theorem cv_pos {m : Nat} {M : List Nat} {W : Wy} (h : Ok m M.length W) (hv : Live W) : ∀ (L : Nat) {e : Nat}, e < m → 1 ≤ (cv W L).getD e 0
  | 0, e, he => by rw [cv_zero h he]; decide
  | L + 1, e, he => by
    rw [cv_at h L he]
    obtain ⟨r, hr1, hr2, hr3⟩ := h.row he
    refine sum_pos _ _ ?_ fun t ht => cv_pos h hv L (succs_lt h he ht)
    obtain ⟨t, ht⟩ := hv r (List.mem_of_getElem? hr1)
    intro z
    have : t ∈ succs W e := by
      unfold succs
      rw [hr2]
      exact List.mem_filterMap.mpr ⟨some t, ht, rfl⟩
    rw [z] at this
    cases this
noncomputable def cE (k : Int) : DL.Env → Option D := (eCall 2 m__law_cell_at [] (eCons (eVar 0) (eCons (eC (.int k)) eNil)))
noncomputable def a1 : DL.Env → Option Out := (sAsg 1 (eCall 3 m__law_folded [] (eCons (eVar 0) (eCons (eC (.int 5)) (eCons (eC (.int 30)) eNil)))))
noncomputable def a2 : DL.Env → Option Out := (sAsg 2 (eCall 1 m__law_marks [] (eCons (cE 0) eNil)))
noncomputable def a3 : DL.Env → Option Out := (sAsg 3 (eCall 3 m__law_ways [] (eCons (eVar 1) (eCons (eOp addX (eC (.int 1)) (eOp modW (cE 1) (eC (.int 6)))) (eCons (eCB lenD (eCons (eVar 2) eNil)) eNil)))))
noncomputable def a4 : DL.Env → Option Out := (sAsg 4 (eMake "Rooms" 3 m_Rooms_init [] (eCons (eVar 2) (eCons (eVar 3) eNil))))
noncomputable def a5 : DL.Env → Option Out := (sAsg 5 (eOp modW (cE 2) (eCB lenD (eCons (eVar 3) eNil))))
noncomputable def a6 : DL.Env → Option Out := (sAsg 6 (eOp modW (cE 3) (eC (.int 31))))
noncomputable def a7 : DL.Env → Option Out := (sIf (xB (eOp eqD (eOp modW (eOp fdivW (cE 3) (eC (.int 31))) (eC (.int 3))) (eC (.int 1)))) (sAsg 6 (eOp modW (eVar 6) (eC (.int 4)))) sNext)
noncomputable def a8 : DL.Env → Option Out := (sAsg 7 (eCall 3 m_count [] (eCons (eVar 4) (eCons (eVar 5) (eCons (eVar 6) eNil)))))
noncomputable def roE (ε : DL.Env → Option D) : DL.Env → Option D := (eCall 4 m_row_at [] (eCons (eVar 4) (eCons (eVar 5) (eCons (eVar 6) (eCons ε eNil)))))
noncomputable def edE (ε : DL.Env → Option D) : DL.Env → Option D := (eCall 5 m__law_edge [] (eCons (eVar 2) (eCons (eVar 3) (eCons (eVar 5) (eCons (eVar 6) (eCons ε eNil))))))
noncomputable def a9 : DL.Env → Option Out := (sIf (xB (eOp neD (roE (eC (.int 0))) (edE (eC (.int 0))))) (sRet (eC (.bl false))) sNext)
noncomputable def a10 : DL.Env → Option Out := (sIf (xB (eOp neD (roE (eOp subD (eVar 7) (eC (.int 1)))) (edE (eUn negD (eC (.int 1)))))) (sRet (eC (.bl false))) sNext)
noncomputable def a11 : DL.Env → Option Out := (sAsg 8 (eCall 3 m__law_number [] (eCons (eVar 0) (eCons (eVar 7) (eCons (cE 4) eNil)))))
noncomputable def a12 : DL.Env → Option Out := (sAsg 9 (eCall 3 m__law_number [] (eCons (eVar 0) (eCons (eVar 7) (eCons (eOp ixD (eVar 1) (eC (.int 29))) eNil)))))
noncomputable def prE : DL.Env → Option D := (eLst (eCons (eTup (eCons (eCB minD (eCons (eVar 8) (eCons (eVar 9) eNil))) (eCons (eCB maxD (eCons (eVar 8) (eCons (eVar 9) eNil))) eNil))) (eCons (eTup (eCons (eVar 8) (eCons (eCB minD (eCons (eOp addX (eVar 8) (eC (.int 1))) (eCons (eOp subD (eVar 7) (eC (.int 1))) eNil))) eNil))) eNil)))
noncomputable def roC : DL.Env → Option D := (eCall 4 m_row_at [] (eCons (eVar 1) (eCons (eVar 2) (eCons (eVar 3) (eCons (eVar 0) eNil)))))
noncomputable def p1 : DL.Env → Option Out := (sAsg 11 (eComp (iotaA (eVar 10)) (gSet 0) (fun _ => some true) roC 1 [4, 5, 6]))
noncomputable def p2 : DL.Env → Option Out := (sIf (xB (eOp neD (eOp (cmpD fun i j => decide (i < j)) (eOp ixD (eVar 10) (eC (.int 0))) (eOp ixD (eVar 10) (eC (.int 1)))) (eCall 3 m__law_ahead [] (eCons (eVar 2) (eCons (eOp ixD (eVar 11) (eC (.int 0))) (eCons (eOp ixD (eVar 11) (eC (.int 1))) eNil)))))) (sRet (eC (.bl false))) sNext)
noncomputable def a14 : DL.Env → Option Out := (sIf (xB (eOp (cmpD fun i j => decide (j < i)) (eVar 7) (eC (.int 24)))) (sRet (eC (.bl true))) sNext)
noncomputable def a15 : DL.Env → Option Out := (sRet (eOp eqD (eComp (iotaR (eCons (eVar 7) eNil)) (gSet 0) (fun _ => some true) roC 1 [4, 5, 6]) (eCall 4 m__law_listed [] (eCons (eVar 2) (eCons (eVar 3) (eCons (eVar 5) (eCons (eVar 6) eNil)))))))
theorem law_eq : f_law = sSeq a1 (sSeq a2 (sSeq a3 (sSeq a4 (sSeq a5 (sSeq a6 (sSeq a7 (sSeq a8 (sSeq a9 (sSeq a10 (sSeq a11 (sSeq a12 (sSeq (sFor (iotaA prE) (gSet 10) (sSeq p1 p2)) (sSeq a14 a15))))))))))))) := rfl
theorem c_of (ns : List Int) (k : Nat) {δ : DL.Env} (h : eVar 0 δ = some (IL ns)) : cE (k : Int) δ = some (.int (ns.getD k 0)) := by
  unfold cE
  exact (call_of (n := 2) (cons_of h (cons_of (x := .int (k : Int)) rfl nil_of)) rfl).trans (cell_at ns k)
theorem lenT {m n : Nat} {W : Wy} (h : Ok m n W) {i : Nat} {δ : DL.Env} (hi : eVar i δ = some (WT W)) : eCB lenD (eCons (eVar i) eNil) δ = some (.int (m : Int)) := by
  refine (cb_of (cons_of hi nil_of)).trans ?_
  rw [len_tup, List.length_map, h.ln]
abbrev LE (ns cs : List Int) (M : List Nat) (W : Wy) (v5 v6 v7 v8 v9 v10 v11 : Option D) : DL.Env := [some (IL ns), some (IL cs), some (.str M), some (WT W), some (roomsD M W), v5, v6, v7, v8, v9, v10, v11]
section
variable {m : Nat} {M : List Nat} {W : Wy} {ns cs : List Int}
theorem pair_ok (hM : M.Nodup) (h : Ok m M.length W) {e : Nat} (he : e < m) (L : Nat) (hL : L ≤ 900) {x y : Int} (hx : 0 ≤ x) (hxy : x ≤ y) (hy : y < (cv W L).getD e 0) (v7 v8 v9 v11 : Option D) : ∃ w11, sSeq p1 p2 (LE ns cs M W (some (.int (e : Int))) (some (.int (L : Int))) v7 v8 v9 (some (.tup [.int x, .int y])) v11) = some (.nx (LE ns cs M W (some (.int (e : Int))) (some (.int (L : Int))) v7 v8 v9 (some (.tup [.int x, .int y])) w11)) := by
  obtain ⟨ks, z, hkl, hw, hrk, hrow⟩ := row_ok hM h he L hL (x := x) hx (by omega)
  obtain ⟨ks', z', hkl', hw', hrk', hrow'⟩ := row_ok hM h he L hL (x := y) (by omega) hy
  refine ⟨some (.lst [tx' M ks, tx' M ks']), ?_⟩
  have hr : ∀ (v : Int) (d : D), m_row_at [roomsD M W, .int (e : Int), .int (L : Int), .int v] = some d → roC [some (.int v), some (roomsD M W), some (.int (e : Int)), some (.int (L : Int))] = some d := fun v d hd => by
    unfold roC
    exact (call_of (n := 4) (cons_of (x := roomsD M W) rfl (cons_of (x := .int (e : Int)) rfl (cons_of (x := .int (L : Int)) rfl (cons_of (x := .int v) rfl nil_of)))) rfl).trans hd
  have hc : compD (gSet 0) (fun _ => some true) roC [none, some (roomsD M W), some (.int (e : Int)), some (.int (L : Int))] [.int x, .int y] = some [tx' M ks, tx' M ks'] := comp_cons (δ1 := [some (.int x), some (roomsD M W), some (.int (e : Int)), some (.int (L : Int))]) rfl (hr x _ hrow) (comp_cons (δ1 := [some (.int y), some (roomsD M W), some (.int (e : Int)), some (.int (L : Int))]) rfl (hr y _ hrow') rfl)
  have t1 : p1 (LE ns cs M W (some (.int (e : Int))) (some (.int (L : Int))) v7 v8 v9 (some (.tup [.int x, .int y])) v11) = some (.nx (LE ns cs M W (some (.int (e : Int))) (some (.int (L : Int))) v7 v8 v9 (some (.tup [.int x, .int y])) (some (.lst [tx' M ks, tx' M ks'])))) := by
    unfold p1
    exact asg_of (comp_of (iotaT_of rfl) rfl hc (by show 2 ≤ 1000000; decide))
  have hah : m__law_ahead [.str M, tx' M ks, tx' M ks'] = some (.bl (decide (x < y))) := by
    by_cases e' : x = y
    · have : ks = ks' := rk_inj h he hw hw' (by omega) (by omega)
      rw [← this, decide_eq_false (by omega)]
      exact ahead_no (by omega)
    · obtain ⟨pre, k, k', po, po', e1, e2, hkk⟩ := lex_of h he hw hw' (by omega) (by omega)
      rw [decide_eq_true (by omega)]
      have hk : k < M.length := Wk.all hw k (by rw [e1]; simp)
      have hk' : k' < M.length := Wk.all hw' k' (by rw [e2]; simp)
      rw [e1] at hkl ⊢
      rw [e2] at hkl' ⊢
      exact ahead_yes hM hkk hk hk' (by omega) (by omega)
  rw [seq_nx t1]
  unfold p2
  refine (if_no (xB_of ((op_of (x := .bl (decide (x < y))) (y := .bl (decide (x < y))) ((op_of (x := .int x) (y := .int y) ((op_of (x := .tup [.int x, .int y]) (y := .int ((0 : Nat) : Int)) rfl rfl).trans (ix_tup rfl)) ((op_of (x := .tup [.int x, .int y]) (y := .int ((1 : Nat) : Int)) rfl rfl).trans (ix_tup rfl))).trans rfl) ((call_of (n := 3) (cons_of (x := .str M) rfl (cons_of (x := tx' M ks) ((op_of (x := .lst [tx' M ks, tx' M ks']) (y := .int ((0 : Nat) : Int)) rfl rfl).trans (ix_at rfl)) (cons_of (x := tx' M ks') ((op_of (x := .lst [tx' M ks, tx' M ks']) (y := .int ((1 : Nat) : Int)) rfl rfl).trans (ix_at rfl)) nil_of))) rfl).trans hah)).trans ?_))).trans rfl
  unfold neD
  rw [eqD_bl', decide_eq_true rfl]
  rfl
end
theorem body (ns : List Int) (hl : ns.length ≤ 63) : f_law [some (IL ns), none, none, none, none, none, none, none, none, none, none, none] = some (.rt (.bl true)) := by
  obtain ⟨cs, hcs, hfo⟩ := folded_ok ns 5 (by decide) hl
  obtain ⟨M, hM, hmk⟩ := marks_ok (ns.getD 0 0)
  obtain ⟨m, hm⟩ := nat_of (show 0 ≤ 1 + ns.getD 1 0 % 6 by omega)
  have hlo := hM.lo
  have hhi := hM.hi
  obtain ⟨W, hW, hLv, hwy⟩ := ways_ok cs hcs m M.length (by omega) (by omega) hlo hhi
  have hm6 := hW.m6
  have t1 : a1 [some (IL ns), none, none, none, none, none, none, none, none, none, none, none] = some (.nx [some (IL ns), some (IL cs), none, none, none, none, none, none, none, none, none, none]) := by
    unfold a1
    exact asg_of ((call_of (n := 3) (cons_of (x := IL ns) rfl (cons_of (x := .int 5) rfl (cons_of (x := .int 30) rfl nil_of))) rfl).trans hfo)
  have t2 : a2 [some (IL ns), some (IL cs), none, none, none, none, none, none, none, none, none, none] = some (.nx [some (IL ns), some (IL cs), some (.str M), none, none, none, none, none, none, none, none, none]) := by
    unfold a2
    exact asg_of ((call_of (n := 1) (cons_of (c_of ns 0 rfl) nil_of) rfl).trans hmk)
  have t3 : a3 [some (IL ns), some (IL cs), some (.str M), none, none, none, none, none, none, none, none, none] = some (.nx [some (IL ns), some (IL cs), some (.str M), some (WT W), none, none, none, none, none, none, none, none]) := by
    unfold a3
    refine asg_of ((call_of (n := 3) (cons_of (x := IL cs) rfl (cons_of (x := .int (m : Int)) ((op_of (x := .int 1) (y := .int (ns.getD 1 0 % 6)) rfl ((op_of (y := .int 6) (c_of ns 1 rfl) rfl).trans (modP (by decide)))).trans ?_) (cons_of (x := .int (M.length : Int)) ((cb_of (cons_of (x := .str M) rfl nil_of)).trans (len_str (by omega))) nil_of))) rfl).trans hwy)
    rw [add_int, hm]
  have t4 : a4 [some (IL ns), some (IL cs), some (.str M), some (WT W), none, none, none, none, none, none, none, none] = some (.nx (LE ns cs M W none none none none none none none)) := by
    unfold a4
    exact asg_of ((make_of (cons_of (x := .str M) rfl (cons_of (x := WT W) rfl nil_of)) rfl).trans (init_ok M W (by rw [hW.ln]; omega)))
  obtain ⟨e, he, hem⟩ := mod_nat (ns.getD 2 0) (show 0 < m by omega)
  have t5 : a5 (LE ns cs M W none none none none none none none) = some (.nx (LE ns cs M W (some (.int (e : Int))) none none none none none none)) := by
    unfold a5
    exact asg_of ((op_of (y := .int (m : Int)) (c_of ns 2 rfl) (lenT hW rfl)).trans ((modP (by omega)).trans (by rw [he])))
  obtain ⟨L0, hL0, hL0b⟩ := mod_nat (ns.getD 3 0) (m := 31) (by decide)
  have t67 : ∃ L : Nat, L ≤ 31 ∧ ∀ φ, sSeq a6 (sSeq a7 φ) (LE ns cs M W (some (.int (e : Int))) none none none none none none) = φ (LE ns cs M W (some (.int (e : Int))) (some (.int (L : Int))) none none none none none) := by
    have t6 : a6 (LE ns cs M W (some (.int (e : Int))) none none none none none none) = some (.nx (LE ns cs M W (some (.int (e : Int))) (some (.int (L0 : Int))) none none none none none)) := by
      unfold a6
      exact asg_of ((op_of (y := .int 31) (c_of ns 3 rfl) rfl).trans ((modP (by decide)).trans (congrArg (fun z => some (D.int z)) hL0)))
    have e7 : xB (eOp eqD (eOp modW (eOp fdivW (cE 3) (eC (.int 31))) (eC (.int 3))) (eC (.int 1))) (LE ns cs M W (some (.int (e : Int))) (some (.int (L0 : Int))) none none none none none) = some (decide (ns.getD 3 0 / 31 % 3 = 1)) := xB_of ((op_of (x := .int (ns.getD 3 0 / 31 % 3)) (y := .int 1) ((op_of (y := .int 3) ((op_of (y := .int 31) (c_of ns 3 rfl) rfl).trans (divP (by decide) (by decide))) rfl).trans (modP (by decide))) rfl).trans (eqD_int _ _))
    by_cases hz : ns.getD 3 0 / 31 % 3 = 1
    · obtain ⟨L, hL, hLb⟩ := mod_nat (L0 : Int) (m := 4) (by decide)
      refine ⟨L, by omega, fun φ => ?_⟩
      have t7 : a7 (LE ns cs M W (some (.int (e : Int))) (some (.int (L0 : Int))) none none none none none) = some (.nx (LE ns cs M W (some (.int (e : Int))) (some (.int (L : Int))) none none none none none)) := by
        unfold a7
        rw [if_yes (by rw [e7, decide_eq_true hz])]
        exact asg_of ((op_of (x := .int (L0 : Int)) (y := .int 4) rfl rfl).trans ((modP (by decide)).trans (congrArg (fun z => some (D.int z)) hL)))
      rw [seq_nx t6, seq_nx t7]
    · refine ⟨L0, by omega, fun φ => ?_⟩
      have t7 : a7 (LE ns cs M W (some (.int (e : Int))) (some (.int (L0 : Int))) none none none none none) = some (.nx (LE ns cs M W (some (.int (e : Int))) (some (.int (L0 : Int))) none none none none none)) := by
        unfold a7
        exact (if_no (by rw [e7, decide_eq_false hz])).trans rfl
      rw [seq_nx t6, seq_nx t7]
  obtain ⟨L, hL, t67⟩ := t67
  rw [law_eq, seq_nx t1, seq_nx t2, seq_nx t3, seq_nx t4, seq_nx t5, t67]
  have hpos := cv_pos hW hLv L hem
  have hcount := count_ok hW M hem L (by omega)
  obtain ⟨Q, hQ⟩ : ∃ Q, (cv W L).getD e 0 = Q := ⟨_, rfl⟩
  rw [hQ] at hpos hcount
  have t8 : a8 (LE ns cs M W (some (.int (e : Int))) (some (.int (L : Int))) none none none none none) = some (.nx (LE ns cs M W (some (.int (e : Int))) (some (.int (L : Int))) (some (.int Q)) none none none none)) := by
    unfold a8
    exact asg_of ((call_of (n := 3) (cons_of (x := roomsD M W) rfl (cons_of (x := .int (e : Int)) rfl (cons_of (x := .int (L : Int)) rfl nil_of))) rfl).trans hcount)
  have edge : ∀ (l x : Int) (ε1 ε2 : DL.Env → Option D), (l = 0 ∨ l = -1) → x = (if l = 0 then 0 else Q - 1) → ε1 (LE ns cs M W (some (.int (e : Int))) (some (.int (L : Int))) (some (.int Q)) none none none none) = some (.int x) → ε2 (LE ns cs M W (some (.int (e : Int))) (some (.int (L : Int))) (some (.int Q)) none none none none) = some (.int l) → sIf (xB (eOp neD (roE ε1) (edE ε2))) (sRet (eC (.bl false))) sNext (LE ns cs M W (some (.int (e : Int))) (some (.int (L : Int))) (some (.int Q)) none none none none) = some (.nx (LE ns cs M W (some (.int (e : Int))) (some (.int (L : Int))) (some (.int Q)) none none none none)) := by
    intro l x ε1 ε2 hl hx h1 h2
    have hb : 0 ≤ x ∧ x < Q := by
      rw [hx]
      split <;> omega
    obtain ⟨ks, z, hkl, hw, hrk, hrow⟩ := row_ok hM.nd hW hem L (by omega) (x := x) hb.1 (by rw [hQ]; exact hb.2)
    obtain ⟨ks', z', hkl', hw', hrk', hed⟩ := edge_ok hW hLv hem L (by omega) l hl
    rw [hQ] at hrk'
    have : ks = ks' := rk_inj hW hem hw hw' (by omega) (by rw [hrk, hrk', hx])
    rw [← this] at hed
    refine (if_no (xB_of ((op_of (x := tx' M ks) (y := tx' M ks) ?_ ?_).trans ((neD_str _ _).trans ?_)))).trans rfl
    · unfold roE
      exact (call_of (n := 4) (cons_of (x := roomsD M W) rfl (cons_of (x := .int (e : Int)) rfl (cons_of (x := .int (L : Int)) rfl (cons_of h1 nil_of)))) rfl).trans hrow
    · unfold edE
      exact (call_of (n := 5) (cons_of (x := .str M) rfl (cons_of (x := WT W) rfl (cons_of (x := .int (e : Int)) rfl (cons_of (x := .int (L : Int)) rfl (cons_of h2 nil_of))))) rfl).trans hed
    · rw [decide_eq_true rfl]
      rfl
  have t9 : a9 (LE ns cs M W (some (.int (e : Int))) (some (.int (L : Int))) (some (.int Q)) none none none none) = some (.nx (LE ns cs M W (some (.int (e : Int))) (some (.int (L : Int))) (some (.int Q)) none none none none)) := by
    unfold a9
    exact edge 0 0 _ _ (.inl rfl) rfl rfl rfl
  have t10 : a10 (LE ns cs M W (some (.int (e : Int))) (some (.int (L : Int))) (some (.int Q)) none none none none) = some (.nx (LE ns cs M W (some (.int (e : Int))) (some (.int (L : Int))) (some (.int Q)) none none none none)) := by
    unfold a10
    exact edge (-1) (Q - 1) _ _ (.inr rfl) rfl ((op_of (x := .int Q) (y := .int 1) rfl rfl).trans rfl) rfl
  obtain ⟨x, hx0, hx1, hxe⟩ := lnum_ok ns (Q := Q) (by omega) (ns.getD 4 0)
  obtain ⟨y, hy0, hy1, hye⟩ := lnum_ok ns (Q := Q) (by omega) (cs.getD 29 0)
  have t11 : a11 (LE ns cs M W (some (.int (e : Int))) (some (.int (L : Int))) (some (.int Q)) none none none none) = some (.nx (LE ns cs M W (some (.int (e : Int))) (some (.int (L : Int))) (some (.int Q)) (some (.int x)) none none none)) := by
    unfold a11
    exact asg_of ((call_of (n := 3) (cons_of (x := IL ns) rfl (cons_of (x := .int Q) rfl (cons_of (c_of ns 4 rfl) nil_of))) rfl).trans hxe)
  have t12 : a12 (LE ns cs M W (some (.int (e : Int))) (some (.int (L : Int))) (some (.int Q)) (some (.int x)) none none none) = some (.nx (LE ns cs M W (some (.int (e : Int))) (some (.int (L : Int))) (some (.int Q)) (some (.int x)) (some (.int y)) none none)) := by
    unfold a12
    exact asg_of ((call_of (n := 3) (cons_of (x := IL ns) rfl (cons_of (x := .int Q) rfl (cons_of (x := .int (cs.getD 29 0)) ((op_of (x := IL cs) (y := .int ((29 : Nat) : Int)) rfl rfl).trans (ix_ints (by omega))) nil_of))) rfl).trans hye)
  obtain ⟨p, q, hp0, hpq, hq1, r, s, hr0, hrs, hs1, hpr⟩ : ∃ p q : Int, 0 ≤ p ∧ p ≤ q ∧ q < Q ∧ ∃ r s : Int, 0 ≤ r ∧ r ≤ s ∧ s < Q ∧ prE (LE ns cs M W (some (.int (e : Int))) (some (.int (L : Int))) (some (.int Q)) (some (.int x)) (some (.int y)) none none) = some (.lst [.tup [.int p, .int q], .tup [.int r, .int s]]) := by
    refine ⟨if y < x then y else x, if y > x then y else x, ?_, ?_, ?_, x, if Q - 1 < x + 1 then Q - 1 else x + 1, hx0, ?_, ?_, ?_⟩
    · split <;> omega
    · split <;> split <;> omega
    · split <;> omega
    · split <;> omega
    · split <;> omega
    · unfold prE
      refine lst_of (cons_of (tup_of (cons_of ((cb_of (cons_of (x := .int x) rfl (cons_of (x := .int y) rfl nil_of))).trans rfl) (cons_of ((cb_of (cons_of (x := .int x) rfl (cons_of (x := .int y) rfl nil_of))).trans rfl) nil_of)) (by simp)) (cons_of (tup_of (cons_of (x := .int x) rfl (cons_of ((cb_of (cons_of (x := .int (x + 1)) ((op_of (x := .int x) (y := .int 1) rfl rfl).trans (add_int _ _)) (cons_of (x := .int (Q - 1)) ((op_of (x := .int Q) (y := .int 1) rfl rfl).trans rfl) nil_of))).trans rfl) nil_of)) (by simp)) nil_of)) (by show 2 ≤ 1000; decide)
  obtain ⟨u11, s1⟩ := pair_ok (ns := ns) (cs := cs) hM.nd hW hem L (by omega) hp0 hpq (by rw [hQ]; exact hq1) (some (.int Q)) (some (.int x)) (some (.int y)) none
  obtain ⟨w11, s2⟩ := pair_ok (ns := ns) (cs := cs) hM.nd hW hem L (by omega) hr0 hrs (by rw [hQ]; exact hs1) (some (.int Q)) (some (.int x)) (some (.int y)) u11
  have t13 : sFor (iotaA prE) (gSet 10) (sSeq p1 p2) (LE ns cs M W (some (.int (e : Int))) (some (.int (L : Int))) (some (.int Q)) (some (.int x)) (some (.int y)) none none) = some (.nx (LE ns cs M W (some (.int (e : Int))) (some (.int (L : Int))) (some (.int Q)) (some (.int x)) (some (.int y)) (some (.tup [.int r, .int s])) w11)) :=
    for_of (iotaA_of hpr) (for_cons (δ1 := LE ns cs M W (some (.int (e : Int))) (some (.int (L : Int))) (some (.int Q)) (some (.int x)) (some (.int y)) (some (.tup [.int p, .int q])) none) rfl s1 (for_cons (δ1 := LE ns cs M W (some (.int (e : Int))) (some (.int (L : Int))) (some (.int Q)) (some (.int x)) (some (.int y)) (some (.tup [.int r, .int s])) u11) rfl s2 rfl))
  rw [seq_nx t8, seq_nx t9, seq_nx t10, seq_nx t11, seq_nx t12, seq_nx t13]
  have e14 : xB (eOp (cmpD fun i j => decide (j < i)) (eVar 7) (eC (.int 24))) (LE ns cs M W (some (.int (e : Int))) (some (.int (L : Int))) (some (.int Q)) (some (.int x)) (some (.int y)) (some (.tup [.int r, .int s])) w11) = some (decide (24 < Q)) := xB_of ((op_of (x := .int Q) (y := .int 24) rfl rfl).trans rfl)
  by_cases hz : 24 < Q
  · refine seq_rt ?_
    unfold a14
    exact (if_yes (by rw [e14, decide_eq_true hz])).trans (ret_of rfl)
  · rw [seq_nx (show a14 _ = some (.nx _) from (if_no (by rw [e14, decide_eq_false hz])).trans rfl)]
    have hlen := bfs_len hW L hem
    rw [hQ] at hlen
    have hlist := listed_ok hW hLv hem L (by omega) (by omega)
    have hrows := fun j hj => rows_all hM.nd hW hem L (by omega) j hj
    obtain ⟨bs, hbs⟩ : ∃ bs, bfs W M.length e L = bs := ⟨_, rfl⟩
    rw [hbs] at hlen hlist hrows
    have hQn : Q = (bs.length : Int) := by omega
    have hcomp := comp_rng (ε := roC) (δ0 := [none, some (roomsD M W), some (.int (e : Int)), some (.int (L : Int))]) (fun j => tx' M (bs.getD j ([], 0)).1) bs.length (fun j hj => by
      unfold roC
      exact (call_of (n := 4) (cons_of (x := roomsD M W) rfl (cons_of (x := .int (e : Int)) rfl (cons_of (x := .int (L : Int)) rfl (cons_of (x := .int (j : Int)) rfl nil_of)))) rfl).trans (hrows j hj))
    have hself : (List.range bs.length).map (fun j => tx' M (bs.getD j ([], 0)).1) = bs.map fun p => tx' M p.1 := by
      apply List.ext_getElem?
      intro j
      by_cases hj : j < bs.length
      · rw [List.getElem?_map, List.getElem?_range hj, List.getElem?_map, List.getElem?_eq_getElem hj]
        show some (tx' M (bs.getD j ([], 0)).1) = _
        rw [List.getD_eq_getElem?_getD, List.getElem?_eq_getElem hj]
        rfl
      · rw [List.getElem?_eq_none (by simp; omega), List.getElem?_eq_none (by simp; omega)]
    rw [hself] at hcomp
    unfold a15
    refine ret_of ((op_of (x := .lst (bs.map fun p => tx' M p.1)) (y := .lst (bs.map fun p => tx' M p.1)) ?_ ?_).trans ?_)
    · exact comp_of ((iotaR1 (j := (bs.length : Int)) (by rw [hQn]; rfl) (by omega) (by omega)).trans (by rw [Int.toNat_natCast])) rfl hcomp (by rw [List.length_map]; omega)
    · exact (call_of (n := 4) (cons_of (x := .str M) rfl (cons_of (x := WT W) rfl (cons_of (x := .int (e : Int)) rfl (cons_of (x := .int (L : Int)) rfl nil_of)))) rfl).trans hlist
    · have em : (bs.map fun p => tx' M p.1) = (bs.map fun p => p.1.map fun k => M.getD k 0).map D.str := by rw [List.map_map]; rfl
      rw [em]
      refine eqD_self rfl (shaped_strs fun w hw => ?_)
      obtain ⟨p, _, rfl⟩ := List.mem_map.mp hw
      intro c hc
      obtain ⟨k, _, rfl⟩ := List.mem_map.mp hc
      rw [List.getD_eq_getElem?_getD]
      by_cases hk : k < M.length
      · rw [List.getElem?_eq_getElem hk]
        exact hM.cd _ (List.getElem_mem hk)
      · rw [List.getElem?_eq_none (by omega)]
        decide
theorem all_true : ∀ ns : List Int, ns.length ≤ 63 → m_law [.lst (ns.map D.int)] = some (.bl true) := fun ns hl => run_of rfl (body ns hl)
end K21

namespace K21
open PySem PySem.Spec L2 DL
def spLaw (K : PySem.W.Frag) : Sp := fun vs H Q _ => ∃ (a : Addr) (ns : List Int), vs = [.ref a] ∧ SqL K H a (ns.map V.int) ∧ ns.length ≤ 63 ∧ ∀ H', Q (.bl true) H'
theorem ok_top (hall : ∀ ns : List Int, ns.length ≤ 63 → m_law [.lst (ns.map D.int)] = some (.bl true)) {P : Program} {w : World} {K : PySem.W.Frag} {mg : Str → Option Value} {base : Heap} {t : Adr} (T : Txt K mg t) : FnOk P w K mg base CX0 4 t.a_law t.d_law ["script"] (spLaw K) :=
  (ok_law T).imp fun vs H Q E ⟨a, ns, hv, hr, hl, q⟩ => by
    subst hv
    refine ⟨fun _ => False, [.lst (ns.map D.int)], .bl true, fun _ z => z.elim, .cons ?_ .nil, rfl, hall ns hl, fun v H' _ r => ?_⟩
    · unfold Rep
      refine ⟨a, _, rfl, fun z => z.elim, hr, ?_⟩
      have := RepL.of_vals (cA := ⟨t.c, K⟩) (av := fun _ => False) (H := H) (xs := ns.map D.int) (by rw [List.all_map]; exact List.all_eq_true.mpr fun _ _ => rfl)
      rw [List.map_map] at this
      exact this
    · cases (show v = _ from r)
      exact q H'
theorem all_mk (hall : ∀ ns : List Int, ns.length ≤ 63 → m_law [.lst (ns.map D.int)] = some (.bl true)) {l : PySem.W.OpenLaw} {w : World} {K : PySem.W.Frag} {h : Heap} {mg : Str → Option Value} {fa : Addr} (X : K.In h) (G : h.Ns mainGlobals mg) (hfa : mg "law" = some (.ref fa))
    {c_Rooms : Addr}
    {f0 : Addr} {od0 an0 : Option Addr} {sl0 : Array (Option Value)} {oc0 kV0 dc0 pm0 cd0 ct0 : Value}
    {f1 : Addr} {od1 an1 : Option Addr} {sl1 : Array (Option Value)} {oc1 kV1 dc1 pm1 cd1 ct1 : Value}
    {f2 : Addr} {od2 an2 : Option Addr} {sl2 : Array (Option Value)} {oc2 kV2 dc2 pm2 cd2 ct2 : Value}
    {f3 : Addr} {od3 an3 : Option Addr} {sl3 : Array (Option Value)} {oc3 kV3 dc3 pm3 cd3 ct3 : Value}
    {f4 : Addr} {od4 an4 : Option Addr} {sl4 : Array (Option Value)} {oc4 kV4 dc4 pm4 cd4 ct4 : Value}
    {f5 : Addr} {od5 an5 : Option Addr} {sl5 : Array (Option Value)} {oc5 kV5 dc5 pm5 cd5 ct5 : Value}
    {f6 : Addr} {od6 an6 : Option Addr} {sl6 : Array (Option Value)} {oc6 kV6 dc6 pm6 cd6 ct6 : Value}
    {f7 : Addr} {od7 an7 : Option Addr} {sl7 : Array (Option Value)} {oc7 kV7 dc7 pm7 cd7 ct7 : Value}
    {f8 : Addr} {od8 an8 : Option Addr} {sl8 : Array (Option Value)} {oc8 kV8 dc8 pm8 cd8 ct8 : Value}
    {f9 : Addr} {od9 an9 : Option Addr} {sl9 : Array (Option Value)} {oc9 kV9 dc9 pm9 cd9 ct9 : Value}
    {f10 : Addr} {od10 an10 : Option Addr} {sl10 : Array (Option Value)} {oc10 kV10 dc10 pm10 cd10 ct10 : Value}
    {f11 : Addr} {od11 an11 : Option Addr} {sl11 : Array (Option Value)} {oc11 kV11 dc11 pm11 cd11 ct11 : Value}
    {f12 : Addr} {od12 an12 : Option Addr} {sl12 : Array (Option Value)} {oc12 kV12 dc12 pm12 cd12 ct12 : Value}
    {f13 : Addr} {od13 an13 : Option Addr} {sl13 : Array (Option Value)} {oc13 kV13 dc13 pm13 cd13 ct13 : Value}
    {f14 : Addr} {od14 an14 : Option Addr} {sl14 : Array (Option Value)} {oc14 kV14 dc14 pm14 cd14 ct14 : Value}
    {f15 : Addr} {od15 an15 : Option Addr} {sl15 : Array (Option Value)} {oc15 kV15 dc15 pm15 cd15 ct15 : Value}
    {f16 : Addr} {od16 an16 : Option Addr} {sl16 : Array (Option Value)} {oc16 kV16 dc16 pm16 cd16 ct16 : Value}
    {f17 : Addr} {od17 an17 : Option Addr} {sl17 : Array (Option Value)} {oc17 kV17 dc17 pm17 cd17 ct17 : Value}
    {f18 : Addr} {od18 an18 : Option Addr} {sl18 : Array (Option Value)} {oc18 kV18 dc18 pm18 cd18 ct18 : Value}
    {f19 : Addr} {od19 an19 : Option Addr} {sl19 : Array (Option Value)} {oc19 kV19 dc19 pm19 cd19 ct19 : Value}
    {f20 : Addr} {od20 an20 : Option Addr} {sl20 : Array (Option Value)} {oc20 kV20 dc20 pm20 cd20 ct20 : Value}
    {f21 : Addr} {od21 an21 : Option Addr} {sl21 : Array (Option Value)} {oc21 kV21 dc21 pm21 cd21 ct21 : Value}
    (x_Rooms : PySem.W.nsIn K mainGlobals "Rooms" = some (some (.ref c_Rooms)))
    (a0 : PySem.W.nsIn K mainGlobals "_wall" = some (some (.ref f0)))
    (l0 : K.lookup f0 = some ⟨oc0, od0, .func (PySem.W.fnOf "_wall" "_wall" (defArgs s__wall) (defBody s__wall) (defScope s__wall) .none kV0 dc0 pm0 an0 cd0 ct0), sl0⟩)
    (c0 : PySem.W.codeIn K cd0 "_wall" = true)
    (k0 : PySem.W.keepIn K (.ref f0) = true)
    (a1 : PySem.W.nsIn K mainGlobals "counts_longer" = some (some (.ref f1)))
    (l1 : K.lookup f1 = some ⟨oc1, od1, .func (PySem.W.fnOf "counts_longer" "counts_longer" (defArgs s_counts_longer) (defBody s_counts_longer) (defScope s_counts_longer) .none kV1 dc1 pm1 an1 cd1 ct1), sl1⟩)
    (c1 : PySem.W.codeIn K cd1 "counts_longer" = true)
    (k1 : PySem.W.keepIn K (.ref f1) = true)
    (a2 : PySem.W.findIn K (.ref c_Rooms) "many" = some (some (.ref f2)))
    (l2 : K.lookup f2 = some ⟨oc2, od2, .func (PySem.W.fnOf "many" "Rooms.many" (defArgs s_Rooms_many) (defBody s_Rooms_many) (defScope s_Rooms_many) .none kV2 dc2 pm2 an2 cd2 ct2), sl2⟩)
    (c2 : PySem.W.codeIn K cd2 "Rooms.many" = true)
    (k2 : PySem.W.keepIn K (.ref f2) = true)
    (a3 : PySem.W.nsIn K mainGlobals "counts_up_to" = some (some (.ref f3)))
    (l3 : K.lookup f3 = some ⟨oc3, od3, .func (PySem.W.fnOf "counts_up_to" "counts_up_to" (defArgs s_counts_up_to) (defBody s_counts_up_to) (defScope s_counts_up_to) .none kV3 dc3 pm3 an3 cd3 ct3), sl3⟩)
    (c3 : PySem.W.codeIn K cd3 "counts_up_to" = true)
    (k3 : PySem.W.keepIn K (.ref f3) = true)
    (a4 : PySem.W.nsIn K mainGlobals "count" = some (some (.ref f4)))
    (l4 : K.lookup f4 = some ⟨oc4, od4, .func (PySem.W.fnOf "count" "count" (defArgs s_count) (defBody s_count) (defScope s_count) .none kV4 dc4 pm4 an4 cd4 ct4), sl4⟩)
    (c4 : PySem.W.codeIn K cd4 "count" = true)
    (k4 : PySem.W.keepIn K (.ref f4) = true)
    (a5 : PySem.W.nsIn K mainGlobals "rows_ahead" = some (some (.ref f5)))
    (l5 : K.lookup f5 = some ⟨oc5, od5, .func (PySem.W.fnOf "rows_ahead" "rows_ahead" (defArgs s_rows_ahead) (defBody s_rows_ahead) (defScope s_rows_ahead) .none kV5 dc5 pm5 an5 cd5 ct5), sl5⟩)
    (c5 : PySem.W.codeIn K cd5 "rows_ahead" = true)
    (k5 : PySem.W.keepIn K (.ref f5) = true)
    (a6 : PySem.W.nsIn K mainGlobals "mark_at" = some (some (.ref f6)))
    (l6 : K.lookup f6 = some ⟨oc6, od6, .func (PySem.W.fnOf "mark_at" "mark_at" (defArgs s_mark_at) (defBody s_mark_at) (defScope s_mark_at) .none kV6 dc6 pm6 an6 cd6 ct6), sl6⟩)
    (c6 : PySem.W.codeIn K cd6 "mark_at" = true)
    (k6 : PySem.W.keepIn K (.ref f6) = true)
    (a7 : PySem.W.nsIn K mainGlobals "is_mark" = some (some (.ref f7)))
    (l7 : K.lookup f7 = some ⟨oc7, od7, .func (PySem.W.fnOf "is_mark" "is_mark" (defArgs s_is_mark) (defBody s_is_mark) (defScope s_is_mark) .none kV7 dc7 pm7 an7 cd7 ct7), sl7⟩)
    (c7 : PySem.W.codeIn K cd7 "is_mark" = true)
    (k7 : PySem.W.keepIn K (.ref f7) = true)
    (a8 : PySem.W.findIn K (.ref c_Rooms) "led" = some (some (.ref f8)))
    (l8 : K.lookup f8 = some ⟨oc8, od8, .func (PySem.W.fnOf "led" "Rooms.led" (defArgs s_Rooms_led) (defBody s_Rooms_led) (defScope s_Rooms_led) .none kV8 dc8 pm8 an8 cd8 ct8), sl8⟩)
    (c8 : PySem.W.codeIn K cd8 "Rooms.led" = true)
    (k8 : PySem.W.keepIn K (.ref f8) = true)
    (a9 : PySem.W.nsIn K mainGlobals "row_at" = some (some (.ref f9)))
    (l9 : K.lookup f9 = some ⟨oc9, od9, .func (PySem.W.fnOf "row_at" "row_at" (defArgs s_row_at) (defBody s_row_at) (defScope s_row_at) .none kV9 dc9 pm9 an9 cd9 ct9), sl9⟩)
    (c9 : PySem.W.codeIn K cd9 "row_at" = true)
    (k9 : PySem.W.keepIn K (.ref f9) = true)
    (a10 : PySem.W.findIn K (.ref c_Rooms) "__init__" = some (some (.ref f10)))
    (l10 : K.lookup f10 = some ⟨oc10, od10, .func (PySem.W.fnOf "__init__" "Rooms.__init__" (defArgs s_Rooms_init) (defBody s_Rooms_init) (defScope s_Rooms_init) .none kV10 dc10 pm10 an10 cd10 ct10), sl10⟩)
    (c10 : PySem.W.codeIn K cd10 "Rooms.__init__" = true)
    (k10 : PySem.W.keepIn K (.ref f10) = true)
    (a11 : PySem.W.findIn K (.ref c_Rooms) "walked" = some (some (.ref f11)))
    (l11 : K.lookup f11 = some ⟨oc11, od11, .func (PySem.W.fnOf "walked" "Rooms.walked" (defArgs s_Rooms_walked) (defBody s_Rooms_walked) (defScope s_Rooms_walked) .none kV11 dc11 pm11 an11 cd11 ct11), sl11⟩)
    (c11 : PySem.W.codeIn K cd11 "Rooms.walked" = true)
    (k11 : PySem.W.keepIn K (.ref f11) = true)
    (a12 : PySem.W.nsIn K mainGlobals "_law_cell_at" = some (some (.ref f12)))
    (l12 : K.lookup f12 = some ⟨oc12, od12, .func (PySem.W.fnOf "_law_cell_at" "_law_cell_at" (defArgs s__law_cell_at) (defBody s__law_cell_at) (defScope s__law_cell_at) .none kV12 dc12 pm12 an12 cd12 ct12), sl12⟩)
    (c12 : PySem.W.codeIn K cd12 "_law_cell_at" = true)
    (k12 : PySem.W.keepIn K (.ref f12) = true)
    (a13 : PySem.W.nsIn K mainGlobals "_law_folded" = some (some (.ref f13)))
    (l13 : K.lookup f13 = some ⟨oc13, od13, .func (PySem.W.fnOf "_law_folded" "_law_folded" (defArgs s__law_folded) (defBody s__law_folded) (defScope s__law_folded) .none kV13 dc13 pm13 an13 cd13 ct13), sl13⟩)
    (c13 : PySem.W.codeIn K cd13 "_law_folded" = true)
    (k13 : PySem.W.keepIn K (.ref f13) = true)
    (a14 : PySem.W.nsIn K mainGlobals "_law_marks" = some (some (.ref f14)))
    (l14 : K.lookup f14 = some ⟨oc14, od14, .func (PySem.W.fnOf "_law_marks" "_law_marks" (defArgs s__law_marks) (defBody s__law_marks) (defScope s__law_marks) .none kV14 dc14 pm14 an14 cd14 ct14), sl14⟩)
    (c14 : PySem.W.codeIn K cd14 "_law_marks" = true)
    (k14 : PySem.W.keepIn K (.ref f14) = true)
    (a15 : PySem.W.nsIn K mainGlobals "_law_led_to" = some (some (.ref f15)))
    (l15 : K.lookup f15 = some ⟨oc15, od15, .func (PySem.W.fnOf "_law_led_to" "_law_led_to" (defArgs s__law_led_to) (defBody s__law_led_to) (defScope s__law_led_to) .none kV15 dc15 pm15 an15 cd15 ct15), sl15⟩)
    (c15 : PySem.W.codeIn K cd15 "_law_led_to" = true)
    (k15 : PySem.W.keepIn K (.ref f15) = true)
    (a16 : PySem.W.nsIn K mainGlobals "_law_ways" = some (some (.ref f16)))
    (l16 : K.lookup f16 = some ⟨oc16, od16, .func (PySem.W.fnOf "_law_ways" "_law_ways" (defArgs s__law_ways) (defBody s__law_ways) (defScope s__law_ways) .none kV16 dc16 pm16 an16 cd16 ct16), sl16⟩)
    (c16 : PySem.W.codeIn K cd16 "_law_ways" = true)
    (k16 : PySem.W.keepIn K (.ref f16) = true)
    (a17 : PySem.W.nsIn K mainGlobals "_law_ahead" = some (some (.ref f17)))
    (l17 : K.lookup f17 = some ⟨oc17, od17, .func (PySem.W.fnOf "_law_ahead" "_law_ahead" (defArgs s__law_ahead) (defBody s__law_ahead) (defScope s__law_ahead) .none kV17 dc17 pm17 an17 cd17 ct17), sl17⟩)
    (c17 : PySem.W.codeIn K cd17 "_law_ahead" = true)
    (k17 : PySem.W.keepIn K (.ref f17) = true)
    (a18 : PySem.W.nsIn K mainGlobals "_law_edge" = some (some (.ref f18)))
    (l18 : K.lookup f18 = some ⟨oc18, od18, .func (PySem.W.fnOf "_law_edge" "_law_edge" (defArgs s__law_edge) (defBody s__law_edge) (defScope s__law_edge) .none kV18 dc18 pm18 an18 cd18 ct18), sl18⟩)
    (c18 : PySem.W.codeIn K cd18 "_law_edge" = true)
    (k18 : PySem.W.keepIn K (.ref f18) = true)
    (a19 : PySem.W.nsIn K mainGlobals "_law_listed" = some (some (.ref f19)))
    (l19 : K.lookup f19 = some ⟨oc19, od19, .func (PySem.W.fnOf "_law_listed" "_law_listed" (defArgs s__law_listed) (defBody s__law_listed) (defScope s__law_listed) .none kV19 dc19 pm19 an19 cd19 ct19), sl19⟩)
    (c19 : PySem.W.codeIn K cd19 "_law_listed" = true)
    (k19 : PySem.W.keepIn K (.ref f19) = true)
    (a20 : PySem.W.nsIn K mainGlobals "_law_number" = some (some (.ref f20)))
    (l20 : K.lookup f20 = some ⟨oc20, od20, .func (PySem.W.fnOf "_law_number" "_law_number" (defArgs s__law_number) (defBody s__law_number) (defScope s__law_number) .none kV20 dc20 pm20 an20 cd20 ct20), sl20⟩)
    (c20 : PySem.W.codeIn K cd20 "_law_number" = true)
    (k20 : PySem.W.keepIn K (.ref f20) = true)
    (a21 : PySem.W.nsIn K mainGlobals "law" = some (some (.ref f21)))
    (l21 : K.lookup f21 = some ⟨oc21, od21, .func (PySem.W.fnOf "law" "law" (defArgs s_law) (defBody s_law) (defScope s_law) .none kV21 dc21 pm21 an21 cd21 ct21), sl21⟩)
    (c21 : PySem.W.codeIn K cd21 "law" = true)
    (k21 : PySem.W.keepIn K (.ref f21) = true)
    (z_ValueError : PySem.W.nsIn K mainGlobals "ValueError" = some none)
    (z_len : PySem.W.nsIn K mainGlobals "len" = some none)
    (z_max : PySem.W.nsIn K mainGlobals "max" = some none)
    (z_min : PySem.W.nsIn K mainGlobals "min" = some none)
    (z_range : PySem.W.nsIn K mainGlobals "range" = some none)
    (z_sum : PySem.W.nsIn K mainGlobals "sum" = some none)
    (z_tuple : PySem.W.nsIn K mainGlobals "tuple" = some none)
    (pg_Rooms : PySem.W.plainGet K c_Rooms Str.empty = true)
    (hd_Rooms : PySem.W.hasDictIn K c_Rooms = true)
    (po_Rooms : PySem.W.plainOver K c_Rooms = true)
    (sa_Rooms : PySem.W.findIn K (.ref c_Rooms) "__setattr__" = some (some (.builtin "object.__setattr__")))
    (ha_Rooms : PySem.W.findIn K (.ref c_Rooms) "__class__" = some (some (.builtin "object.__class__")))
    (hm_Rooms : PySem.W.mroIn K c_Rooms (.type "object") = some true)
    (mm_Rooms : PySem.W.makesIn K c_Rooms = true)
    (kc_Rooms : PySem.W.keepIn K (.ref c_Rooms) = true)
    (mi_Rooms : PySem.W.findIn K (.ref c_Rooms) "__init__" = some (some (.ref f10)))
    (mf_Rooms : PySem.W.isFn K (.ref f10) = true)
    (hn_ : PySem.W.specialIn K (.builtin "object.__class__") "__get__" = some (some (.builtin "getset_descriptor.__get__")))
    (htk_ : PySem.W.takesIn K (.builtin "object.__class__") = some true)
    (na_Rooms_marks : PySem.W.findIn K (.ref c_Rooms) "marks" = some none)
    (na_Rooms_ways : PySem.W.findIn K (.ref c_Rooms) "ways" = some none)
    (ma_Rooms_led : PySem.W.findIn K (.ref c_Rooms) "led" = some (some (.ref f8)))
    (mn_Rooms_led : PySem.W.isFn K (.ref f8) = true)
    (ma_Rooms_many : PySem.W.findIn K (.ref c_Rooms) "many" = some (some (.ref f2)))
    (mn_Rooms_many : PySem.W.isFn K (.ref f2) = true)
    : ∃ fd : FuncData, (∀ (s : Shared) (v : Value), BindsTo s fd ⟨[v], []⟩ [("script", v)]) ∧ ∀ base : Heap, K.In base → base.Ns mainGlobals mg → FnOk l.prog w K mg base CX0 4 fa fd ["script"] (spLaw K) := by
  have e := hfa.symm.trans (PySem.W.mg_of X G a21)
  cases e
  have F0 : FunX K "_wall" "_wall" s__wall f0 _ := (fun_mk (st := s__wall) l0 c0 k0).x
  have b0 := (fun_mk (st := s__wall) l0 c0 k0).binds (ps := ["k"]) fun _ _ _ _ _ _ us hl => match us, hl with | [_], _ => rfl
  have F1 : FunX K "counts_longer" "counts_longer" s_counts_longer f1 _ := (fun_mk (st := s_counts_longer) l1 c1 k1).x
  have b1 := (fun_mk (st := s_counts_longer) l1 c1 k1).binds (ps := ["rooms", "counts"]) fun _ _ _ _ _ _ us hl => match us, hl with | [_, _], _ => rfl
  have F2 : FunX K "many" "Rooms.many" s_Rooms_many f2 _ := (fun_mk (st := s_Rooms_many) l2 c2 k2).x
  have b2 := (fun_mk (st := s_Rooms_many) l2 c2 k2).binds (ps := ["self"]) fun _ _ _ _ _ _ us hl => match us, hl with | [_], _ => rfl
  have F3 : FunX K "counts_up_to" "counts_up_to" s_counts_up_to f3 _ := (fun_mk (st := s_counts_up_to) l3 c3 k3).x
  have b3 := (fun_mk (st := s_counts_up_to) l3 c3 k3).binds (ps := ["rooms", "length"]) fun _ _ _ _ _ _ us hl => match us, hl with | [_, _], _ => rfl
  have F4 : FunX K "count" "count" s_count f4 _ := (fun_mk (st := s_count) l4 c4 k4).x
  have b4 := (fun_mk (st := s_count) l4 c4 k4).binds (ps := ["rooms", "room", "length"]) fun _ _ _ _ _ _ us hl => match us, hl with | [_, _, _], _ => rfl
  have F5 : FunX K "rows_ahead" "rows_ahead" s_rows_ahead f5 _ := (fun_mk (st := s_rows_ahead) l5 c5 k5).x
  have b5 := (fun_mk (st := s_rows_ahead) l5 c5 k5).binds (ps := ["rooms", "room", "mark", "counts"]) fun _ _ _ _ _ _ us hl => match us, hl with | [_, _, _, _], _ => rfl
  have F6 : FunX K "mark_at" "mark_at" s_mark_at f6 _ := (fun_mk (st := s_mark_at) l6 c6 k6).x
  have b6 := (fun_mk (st := s_mark_at) l6 c6 k6).binds (ps := ["rooms", "room", "number", "counts"]) fun _ _ _ _ _ _ us hl => match us, hl with | [_, _, _, _], _ => rfl
  have F7 : FunX K "is_mark" "is_mark" s_is_mark f7 _ := (fun_mk (st := s_is_mark) l7 c7 k7).x
  have b7 := (fun_mk (st := s_is_mark) l7 c7 k7).binds (ps := ["marks", "text"]) fun _ _ _ _ _ _ us hl => match us, hl with | [_, _], _ => rfl
  have F8 : FunX K "led" "Rooms.led" s_Rooms_led f8 _ := (fun_mk (st := s_Rooms_led) l8 c8 k8).x
  have b8 := (fun_mk (st := s_Rooms_led) l8 c8 k8).binds (ps := ["self", "room", "mark"]) fun _ _ _ _ _ _ us hl => match us, hl with | [_, _, _], _ => rfl
  have F9 : FunX K "row_at" "row_at" s_row_at f9 _ := (fun_mk (st := s_row_at) l9 c9 k9).x
  have b9 := (fun_mk (st := s_row_at) l9 c9 k9).binds (ps := ["rooms", "room", "length", "number"]) fun _ _ _ _ _ _ us hl => match us, hl with | [_, _, _, _], _ => rfl
  have F10 : FunX K "__init__" "Rooms.__init__" s_Rooms_init f10 _ := (fun_mk (st := s_Rooms_init) l10 c10 k10).x
  have b10 := (fun_mk (st := s_Rooms_init) l10 c10 k10).binds (ps := ["self", "marks", "ways"]) fun _ _ _ _ _ _ us hl => match us, hl with | [_, _, _], _ => rfl
  have F11 : FunX K "walked" "Rooms.walked" s_Rooms_walked f11 _ := (fun_mk (st := s_Rooms_walked) l11 c11 k11).x
  have b11 := (fun_mk (st := s_Rooms_walked) l11 c11 k11).binds (ps := ["self", "room", "row"]) fun _ _ _ _ _ _ us hl => match us, hl with | [_, _, _], _ => rfl
  have F12 : FunX K "_law_cell_at" "_law_cell_at" s__law_cell_at f12 _ := (fun_mk (st := s__law_cell_at) l12 c12 k12).x
  have b12 := (fun_mk (st := s__law_cell_at) l12 c12 k12).binds (ps := ["script", "k"]) fun _ _ _ _ _ _ us hl => match us, hl with | [_, _], _ => rfl
  have F13 : FunX K "_law_folded" "_law_folded" s__law_folded f13 _ := (fun_mk (st := s__law_folded) l13 c13 k13).x
  have b13 := (fun_mk (st := s__law_folded) l13 c13 k13).binds (ps := ["script", "behind", "many"]) fun _ _ _ _ _ _ us hl => match us, hl with | [_, _, _], _ => rfl
  have F14 : FunX K "_law_marks" "_law_marks" s__law_marks f14 _ := (fun_mk (st := s__law_marks) l14 c14 k14).x
  have b14 := (fun_mk (st := s__law_marks) l14 c14 k14).binds (ps := ["cell"]) fun _ _ _ _ _ _ us hl => match us, hl with | [_], _ => rfl
  have F15 : FunX K "_law_led_to" "_law_led_to" s__law_led_to f15 _ := (fun_mk (st := s__law_led_to) l15 c15 k15).x
  have b15 := (fun_mk (st := s__law_led_to) l15 c15 k15).binds (ps := ["ways", "cells"]) fun _ _ _ _ _ _ us hl => match us, hl with | [_, _], _ => rfl
  have F16 : FunX K "_law_ways" "_law_ways" s__law_ways f16 _ := (fun_mk (st := s__law_ways) l16 c16 k16).x
  have b16 := (fun_mk (st := s__law_ways) l16 c16 k16).binds (ps := ["cells", "many", "width"]) fun _ _ _ _ _ _ us hl => match us, hl with | [_, _, _], _ => rfl
  have F17 : FunX K "_law_ahead" "_law_ahead" s__law_ahead f17 _ := (fun_mk (st := s__law_ahead) l17 c17 k17).x
  have b17 := (fun_mk (st := s__law_ahead) l17 c17 k17).binds (ps := ["marks", "one", "other"]) fun _ _ _ _ _ _ us hl => match us, hl with | [_, _, _], _ => rfl
  have F18 : FunX K "_law_edge" "_law_edge" s__law_edge f18 _ := (fun_mk (st := s__law_edge) l18 c18 k18).x
  have b18 := (fun_mk (st := s__law_edge) l18 c18 k18).binds (ps := ["marks", "ways", "room", "length", "last"]) fun _ _ _ _ _ _ us hl => match us, hl with | [_, _, _, _, _], _ => rfl
  have F19 : FunX K "_law_listed" "_law_listed" s__law_listed f19 _ := (fun_mk (st := s__law_listed) l19 c19 k19).x
  have b19 := (fun_mk (st := s__law_listed) l19 c19 k19).binds (ps := ["marks", "ways", "room", "length"]) fun _ _ _ _ _ _ us hl => match us, hl with | [_, _, _, _], _ => rfl
  have F20 : FunX K "_law_number" "_law_number" s__law_number f20 _ := (fun_mk (st := s__law_number) l20 c20 k20).x
  have b20 := (fun_mk (st := s__law_number) l20 c20 k20).binds (ps := ["script", "many", "add"]) fun _ _ _ _ _ _ us hl => match us, hl with | [_, _, _], _ => rfl
  have F21 : FunX K "law" "law" s_law fa _ := (fun_mk (st := s_law) l21 c21 k21).x
  have b21 := (fun_mk (st := s_law) l21 c21 k21).binds (ps := ["script"]) fun _ _ _ _ _ _ us hl => match us, hl with | [_], _ => rfl
  have T : Txt K mg { a__wall := f0, d__wall := _, a_counts_longer := f1, d_counts_longer := _, a_Rooms_many := f2, d_Rooms_many := _, a_counts_up_to := f3, d_counts_up_to := _, a_count := f4, d_count := _, a_rows_ahead := f5, d_rows_ahead := _, a_mark_at := f6, d_mark_at := _, a_is_mark := f7, d_is_mark := _, a_Rooms_led := f8, d_Rooms_led := _, a_row_at := f9, d_row_at := _, a_Rooms_init := f10, d_Rooms_init := _, a_Rooms_walked := f11, d_Rooms_walked := _, a__law_cell_at := f12, d__law_cell_at := _, a__law_folded := f13, d__law_folded := _, a__law_marks := f14, d__law_marks := _, a__law_led_to := f15, d__law_led_to := _, a__law_ways := f16, d__law_ways := _, a__law_ahead := f17, d__law_ahead := _, a__law_edge := f18, d__law_edge := _, a__law_listed := f19, d__law_listed := _, a__law_number := f20, d__law_number := _, a_law := fa, d_law := _, c_Rooms := c_Rooms } := { f__wall := F0, b__wall := b0, g__wall := PySem.W.mg_of X G a0, k__wall := k0, f_counts_longer := F1, b_counts_longer := b1, g_counts_longer := PySem.W.mg_of X G a1, k_counts_longer := k1, f_Rooms_many := F2, b_Rooms_many := b2, k_Rooms_many := k2, f_counts_up_to := F3, b_counts_up_to := b3, g_counts_up_to := PySem.W.mg_of X G a3, k_counts_up_to := k3, f_count := F4, b_count := b4, g_count := PySem.W.mg_of X G a4, k_count := k4, f_rows_ahead := F5, b_rows_ahead := b5, g_rows_ahead := PySem.W.mg_of X G a5, k_rows_ahead := k5, f_mark_at := F6, b_mark_at := b6, g_mark_at := PySem.W.mg_of X G a6, k_mark_at := k6, f_is_mark := F7, b_is_mark := b7, g_is_mark := PySem.W.mg_of X G a7, k_is_mark := k7, f_Rooms_led := F8, b_Rooms_led := b8, k_Rooms_led := k8, f_row_at := F9, b_row_at := b9, g_row_at := PySem.W.mg_of X G a9, k_row_at := k9, f_Rooms_init := F10, b_Rooms_init := b10, k_Rooms_init := k10, f_Rooms_walked := F11, b_Rooms_walked := b11, k_Rooms_walked := k11, f__law_cell_at := F12, b__law_cell_at := b12, g__law_cell_at := PySem.W.mg_of X G a12, k__law_cell_at := k12, f__law_folded := F13, b__law_folded := b13, g__law_folded := PySem.W.mg_of X G a13, k__law_folded := k13, f__law_marks := F14, b__law_marks := b14, g__law_marks := PySem.W.mg_of X G a14, k__law_marks := k14, f__law_led_to := F15, b__law_led_to := b15, g__law_led_to := PySem.W.mg_of X G a15, k__law_led_to := k15, f__law_ways := F16, b__law_ways := b16, g__law_ways := PySem.W.mg_of X G a16, k__law_ways := k16, f__law_ahead := F17, b__law_ahead := b17, g__law_ahead := PySem.W.mg_of X G a17, k__law_ahead := k17, f__law_edge := F18, b__law_edge := b18, g__law_edge := PySem.W.mg_of X G a18, k__law_edge := k18, f__law_listed := F19, b__law_listed := b19, g__law_listed := PySem.W.mg_of X G a19, k__law_listed := k19, f__law_number := F20, b__law_number := b20, g__law_number := PySem.W.mg_of X G a20, k__law_number := k20, f_law := F21, b_law := b21, g_law := PySem.W.mg_of X G a21, k_law := k21, n_ValueError := PySem.W.mg_none_of X G z_ValueError, n_len := PySem.W.mg_none_of X G z_len, n_max := PySem.W.mg_none_of X G z_max, n_min := PySem.W.mg_none_of X G z_min, n_range := PySem.W.mg_none_of X G z_range, n_sum := PySem.W.mg_none_of X G z_sum, n_tuple := PySem.W.mg_none_of X G z_tuple, g_Rooms := PySem.W.mg_of X G x_Rooms, cl_Rooms := ⟨pg_Rooms, hd_Rooms, po_Rooms, sa_Rooms⟩, ci_Rooms := ⟨⟨pg_Rooms, hd_Rooms, po_Rooms, sa_Rooms⟩, ha_Rooms, hn_, htk_, hm_Rooms⟩, mk_Rooms := ⟨mm_Rooms, mi_Rooms, mf_Rooms, kc_Rooms⟩, fl_marks := (by intro c hc; simp only [fc_marks, List.mem_cons, List.mem_nil_iff, or_false] at hc; rcases hc with rfl <;> first | exact ⟨⟨pg_Rooms, hd_Rooms, po_Rooms, sa_Rooms⟩, na_Rooms_marks⟩), fl_ways := (by intro c hc; simp only [fc_ways, List.mem_cons, List.mem_nil_iff, or_false] at hc; rcases hc with rfl <;> first | exact ⟨⟨pg_Rooms, hd_Rooms, po_Rooms, sa_Rooms⟩, na_Rooms_ways⟩), me_Rooms_led := ⟨ma_Rooms_led, mn_Rooms_led, k8⟩, me_Rooms_many := ⟨ma_Rooms_many, mn_Rooms_many, k2⟩ }
  exact ⟨PySem.W.fnOf "law" "law" (defArgs s_law) (defBody s_law) (defScope s_law) .none kV21 dc21 pm21 an21 cd21 ct21, fun s v => .of_eq rfl, fun base _ _ => ok_top hall T⟩
theorem walk {l : PySem.W.OpenLaw} {q : Program} {loose : List Str} {XP : (Str → Option Value) → Heap → Prop} {YP : World → Heap → Prop} {d : DefRec} {K : Params → PySem.W.Frag} (hn : l.most = some 63) (hdf : d.params.defaults = [])
    (hY : ∀ (w : World) (h : Heap), YP w h → (K w.params).In h)
    (F : ∀ (w : World) (mg : Str → Option Value) (fa : Addr) (h : Heap), (K w.params).In h → h.Ns mainGlobals mg → mg d.name = some (.ref fa) →
      ∃ fd : FuncData, (∀ (s : Shared) (u : Value), BindsTo s fd ⟨[u], []⟩ [("script", u)]) ∧ ∀ base : Heap, (K w.params).In base → base.Ns mainGlobals mg → FnOk l.prog w (K w.params) mg base CX0 4 fa fd ["script"] (spLaw (K w.params))) :
    PySem.W.WalkO q loose XP YP l.row.toRowW d [] (fun f vs => PySem.call f vs) :=
  L2.walk_of (n := 63) (k := 4) (x := "script") (CX := fun _ => CX0) (sp := fun w => spLaw (K w.params)) hn (by decide) hdf ⟨rfl, by decide, by decide⟩ hY F (fun _ _ a ns hl _ hS => ⟨a, ns, rfl, hS, hl, fun _ => rfl⟩) fun _ _ _ _ _ z => z
end K21
open PySem PySem.W PyProof.Rows
set_option maxRecDepth 100000 in
set_option maxHeartbeats 0 in
theorem PySem.Challenge.cw_grooveway_k21_whole_in_order_holds : PySem.Challenge.rw_grooveway_k21_whole_in_order.Holds := by
  w_on; o_law; k_head; (case hw => w_witness2)
  k_fill
  refine K21.walk (l := PySem.Challenge.rw_grooveway_k21_whole_in_order) rfl rfl (fun w h Y => PySem.W.kIn_of Y) ?F
  case F =>
    intro w mg fa h KX G hmg
    refine' K21.all_mk K21.all_true KX G hmg ?x_Rooms ?a0 ?l0 ?c0 ?k0 ?a1 ?l1 ?c1 ?k1 ?a2 ?l2 ?c2 ?k2 ?a3 ?l3 ?c3 ?k3 ?a4 ?l4 ?c4 ?k4 ?a5 ?l5 ?c5 ?k5 ?a6 ?l6 ?c6 ?k6 ?a7 ?l7 ?c7 ?k7 ?a8 ?l8 ?c8 ?k8 ?a9 ?l9 ?c9 ?k9 ?a10 ?l10 ?c10 ?k10 ?a11 ?l11 ?c11 ?k11 ?a12 ?l12 ?c12 ?k12 ?a13 ?l13 ?c13 ?k13 ?a14 ?l14 ?c14 ?k14 ?a15 ?l15 ?c15 ?k15 ?a16 ?l16 ?c16 ?k16 ?a17 ?l17 ?c17 ?k17 ?a18 ?l18 ?c18 ?k18 ?a19 ?l19 ?c19 ?k19 ?a20 ?l20 ?c20 ?k20 ?a21 ?l21 ?c21 ?k21 ?z_ValueError ?z_len ?z_max ?z_min ?z_range ?z_sum ?z_tuple ?pg_Rooms ?hd_Rooms ?po_Rooms ?sa_Rooms ?ha_Rooms ?hm_Rooms ?mm_Rooms ?kc_Rooms ?mi_Rooms ?mf_Rooms ?hn_ ?htk_ ?na_Rooms_marks ?na_Rooms_ways ?ma_Rooms_led ?mn_Rooms_led ?ma_Rooms_many ?mn_Rooms_many
    (case x_Rooms => k_is)
    (case a0 => k_is)
    (case l0 => k_is)
    (case c0 => k_is)
    (case k0 => k_is)
    (case a1 => k_is)
    (case l1 => k_is)
    (case c1 => k_is)
    (case k1 => k_is)
    (case a2 => k_is)
    (case l2 => k_is)
    (case c2 => k_is)
    (case k2 => k_is)
    (case a3 => k_is)
    (case l3 => k_is)
    (case c3 => k_is)
    (case k3 => k_is)
    (case a4 => k_is)
    (case l4 => k_is)
    (case c4 => k_is)
    (case k4 => k_is)
    (case a5 => k_is)
    (case l5 => k_is)
    (case c5 => k_is)
    (case k5 => k_is)
    (case a6 => k_is)
    (case l6 => k_is)
    (case c6 => k_is)
    (case k6 => k_is)
    (case a7 => k_is)
    (case l7 => k_is)
    (case c7 => k_is)
    (case k7 => k_is)
    (case a8 => k_is)
    (case l8 => k_is)
    (case c8 => k_is)
    (case k8 => k_is)
    (case a9 => k_is)
    (case l9 => k_is)
    (case c9 => k_is)
    (case k9 => k_is)
    (case a10 => k_is)
    (case l10 => k_is)
    (case c10 => k_is)
    (case k10 => k_is)
    (case a11 => k_is)
    (case l11 => k_is)
    (case c11 => k_is)
    (case k11 => k_is)
    (case a12 => k_is)
    (case l12 => k_is)
    (case c12 => k_is)
    (case k12 => k_is)
    (case a13 => k_is)
    (case l13 => k_is)
    (case c13 => k_is)
    (case k13 => k_is)
    (case a14 => k_is)
    (case l14 => k_is)
    (case c14 => k_is)
    (case k14 => k_is)
    (case a15 => k_is)
    (case l15 => k_is)
    (case c15 => k_is)
    (case k15 => k_is)
    (case a16 => k_is)
    (case l16 => k_is)
    (case c16 => k_is)
    (case k16 => k_is)
    (case a17 => k_is)
    (case l17 => k_is)
    (case c17 => k_is)
    (case k17 => k_is)
    (case a18 => k_is)
    (case l18 => k_is)
    (case c18 => k_is)
    (case k18 => k_is)
    (case a19 => k_is)
    (case l19 => k_is)
    (case c19 => k_is)
    (case k19 => k_is)
    (case a20 => k_is)
    (case l20 => k_is)
    (case c20 => k_is)
    (case k20 => k_is)
    (case a21 => k_is)
    (case l21 => k_is)
    (case c21 => k_is)
    (case k21 => k_is)
    (case z_ValueError => k_is)
    (case z_len => k_is)
    (case z_max => k_is)
    (case z_min => k_is)
    (case z_range => k_is)
    (case z_sum => k_is)
    (case z_tuple => k_is)
    (case pg_Rooms => k_is)
    (case hd_Rooms => k_is)
    (case po_Rooms => k_is)
    (case sa_Rooms => k_is)
    (case ha_Rooms => k_is)
    (case hm_Rooms => k_is)
    (case mm_Rooms => k_is)
    (case kc_Rooms => k_is)
    (case mi_Rooms => k_is)
    (case mf_Rooms => k_is)
    (case hn_ => k_is)
    (case htk_ => k_is)
    (case na_Rooms_marks => k_is)
    (case na_Rooms_ways => k_is)
    (case ma_Rooms_led => k_is)
    (case mn_Rooms_led => k_is)
    (case ma_Rooms_many => k_is)
    (case mn_Rooms_many => k_is)

