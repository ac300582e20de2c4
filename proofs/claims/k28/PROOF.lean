import PyProof.Rows.All
import Wide.All
import OpenK.AllK
import Wide.FinOn
import Lean
import PyProof.EqAt
import PyProof.EqKinds
import PyProof.TupleCall
import PyProof.Rows.StrCountLaw
import PyProof.Rows.StrFirst
import PyProof.Rows.StrLast
import PyProof.Rows.StrNews2
import PyProof.Rows.StrSplitCount
import PyProof.StrBlockI
import PyProof.StrLawsIn
import PyProof.StrLawsLast
import PyProof.EnumMake
import PyProof.FString
import PyProof.ReprStr
import PyProof.StrLawsRepr
import PyProof.ListStr
import PySem.Challenge.RW_grooveway_k28_weights_shrunk
set_option Elab.async false
set_option linter.all false
set_option maxRecDepth 100000
set_option maxHeartbeats 4000000
/-! THE HAND LAYER, for ints, bools, texts, own classes, LISTS and tuples (index, slices, in, append, pop ..), calls, loops. Paste it whole ahead of your own text; what your proof does not reach may be deleted. -/
namespace L2
open PySem PySem.Spec PyProof.Rows

/-- a key: an int or a str -/
abbrev Key := Sum Int Str
def keyIs : Key → Value → Bool
  | .inl k, v => Value.isInt k v
  | .inr x, v => Value.isStrOf x v
def keyH (w : World) : Key → Int
  | .inl k => hashInt k
  | .inr x => hashStr w x
theorem keyIs_shape : ∀ {k : Key} {v : Value}, keyIs k v = true → (∃ i t, k = Sum.inl i ∧ v = Value.int i t) ∨ (∃ x t, k = Sum.inr x ∧ v = Value.str x t)
  | .inl i, v, h => by
    obtain ⟨t, e⟩ := Value.isInt_shape (k := i) (v := v) h
    exact .inl ⟨i, t, rfl, e⟩
  | .inr x, v, h => by
    obtain ⟨t, e⟩ := Value.isStrOf_shape (x := x) (v := v) h
    exact .inr ⟨x, t, rfl, e⟩
theorem key_ll (a b : Int) : decide ((Sum.inl a : Key) = Sum.inl b) = (a == b) := by
  by_cases e : a = b
  · subst e; simp
  · have h : ¬ (Sum.inl a : Key) = Sum.inl b := fun q => e (Sum.inl.inj q)
    rw [decide_eq_false h]
    exact (beq_eq_false_iff_ne.mpr e).symm
theorem key_rr (a b : Str) : decide ((Sum.inr a : Key) = Sum.inr b) = decide (a = b) := by
  by_cases e : a = b
  · subst e; simp
  · have h : ¬ (Sum.inr a : Key) = Sum.inr b := fun q => e (Sum.inr.inj q)
    rw [decide_eq_false h, decide_eq_false e]
theorem key_lr (a : Int) (b : Str) : decide ((Sum.inl a : Key) = Sum.inr b) = false := decide_eq_false (fun q => nomatch q)
theorem key_rl (a : Str) (b : Int) : decide ((Sum.inr a : Key) = Sum.inl b) = false := decide_eq_false (fun q => nomatch q)

def mixKind (prog : Program) (w : World) : PySem.KeyKind prog w Key where
  is := keyIs
  hash := keyH w
  inj := fun v a b ha hb => by
    rcases keyIs_shape ha with ⟨i, t, rfl, rfl⟩ | ⟨x, t, rfl, rfl⟩
    · rcases keyIs_shape hb with ⟨j, u, rfl, e⟩ | ⟨y, u, rfl, e⟩
      · injection e with e1 _; rw [e1]
      · exact nomatch e
    · rcases keyIs_shape hb with ⟨j, u, rfl, e⟩ | ⟨y, u, rfl, e⟩
      · exact nomatch e
      · injection e with e1 _; rw [e1]
  byValue := fun k v h => by
    rcases keyIs_shape h with ⟨i, t, rfl, rfl⟩ | ⟨x, t, rfl, rfl⟩ <;> rfl
  pyHash := fun hv h => by
    rcases keyIs_shape hv with ⟨i, t, rfl, rfl⟩ | ⟨x, t, rfl, rfl⟩
    · exact wpAny_pyHash_int h
    · exact wpAny_pyHash_str h
  eqBool := fun hu hv h => by
    rcases keyIs_shape hu with ⟨i, t, rfl, rfl⟩ | ⟨x, t, rfl, rfl⟩
    · rcases keyIs_shape hv with ⟨j, u, rfl, rfl⟩ | ⟨y, u, rfl, rfl⟩
      · rw [key_ll] at h; exact wpAny_eqBool_int h
      · rw [key_lr] at h; exact SeqAt.EqAt.int_str i t y u _ _ _ _ h
    · rcases keyIs_shape hv with ⟨j, u, rfl, rfl⟩ | ⟨y, u, rfl, rfl⟩
      · rw [key_rl] at h; exact SeqAt.EqAt.str_int x t j u _ _ _ _ h
      · rw [key_rr] at h; exact wpAny_eqBool_str h
  «strs» := fun k x t v h => by
    rcases keyIs_shape h with ⟨i, u, rfl, e⟩ | ⟨y, u, rfl, e⟩
    · exact nomatch e
    · injection e with e1 _
      subst e1
      cases v <;> rfl

end L2

namespace L2
open PySem PySem.Spec PyProof.Rows

/-- a value, without the heap -/
inductive V where
  | non | bl (b : Bool) | int (i : Int) | str (x : Str) | byt (b : Array UInt8) | flt (b : UInt64) | ref (a : Addr) | ty (n : String)
  deriving DecidableEq

def RelV : V → Value → Prop
  | .non, u => u = Value.none
  | .bl b, u => u = Value.bool b
  | .int i, u => ∃ t, u = Value.int i t
  | .str x, u => ∃ t, u = Value.str x t
  | .byt b, u => ∃ t, u = Value.bytes b t
  | .flt b, u => ∃ t, u = Value.float b t
  | .ref a, u => u = Value.ref a
  | .ty n, u => u = Value.type n

abbrev Vals : List V → List Value → Prop := Paired RelV
theorem Vals.length {xs : List V} {us : List Value} (r : Vals xs us) : xs.length = us.length := Paired.length r
theorem Vals.get : ∀ {xs : List V} {us : List Value} {i : Nat} {x : V}, Vals xs us → xs[i]? = some x → ∃ u, us[i]? = some u ∧ RelV x u
  | _, _, _, _, .nil, e => by simp at e
  | _, _, 0, _, .cons r _, e => by simp at e; subst e; exact ⟨_, rfl, r⟩
  | _, _, i + 1, x, .cons _ t, e => by
    obtain ⟨u, h1, h2⟩ := Vals.get (i := i) (x := x) t (by simpa using e)
    exact ⟨u, by simpa using h1, h2⟩
theorem Vals.set {x : V} {u : Value} (r : RelV x u) : ∀ {xs : List V} {us : List Value} (i : Nat), Vals xs us → Vals (xs.set i x) (us.set i u)
  | _, _, _, .nil => .nil
  | _, _, 0, .cons _ t => .cons r t
  | _, _, i + 1, .cons q t => .cons q (Vals.set r i t)
theorem Vals.append : ∀ {xs ys : List V} {us ws : List Value}, Vals xs us → Vals ys ws → Vals (xs ++ ys) (us ++ ws)
  | _, _, _, _, .nil, s => s
  | _, _, _, _, .cons r t, s => .cons r (Vals.append t s)
theorem Vals.take : ∀ {xs : List V} {us : List Value} (n : Nat), Vals xs us → Vals (xs.take n) (us.take n)
  | _, _, 0, _ => .nil
  | _, _, _ + 1, .nil => .nil
  | _, _, n + 1, .cons r t => .cons r (Vals.take n t)
theorem Vals.drop : ∀ {xs : List V} {us : List Value} (n : Nat), Vals xs us → Vals (xs.drop n) (us.drop n)
  | _, _, 0, r => r
  | _, _, _ + 1, .nil => .nil
  | _, _, n + 1, .cons _ t => Vals.drop n t
def RelO : Option V → Option Value → Prop
  | some v, some u => RelV v u
  | none, none => True
  | _, _ => False
def KV {κ : Type} : List (κ × V) → List (κ × Value) → Prop := Paired fun (p : κ × V) (q : κ × Value) => p.1 = q.1 ∧ RelV p.2 q.2

/-- a key of a dict (00_mix): an int or a text -/
def kV : Key → V
  | .inl i => .int i
  | .inr x => .str x

/-- what stands at a tracked address -/
inductive HO where
  /-- a list -/
  | lst (xs : List V)
  /-- a tuple (never changes) -/
  | tup (xs : List V)
  /-- a dict whose keys are ints and texts; one whose keys are tuples of ints and texts (the empty one is both) -/
  | dK (kvs : List (Key × V)) | dT (kvs : List (List Key × V))
  /-- a set of ints: its members, its size -/
  | set (S : Int → Bool) (n : Nat)
  /-- an instance of the class at C, its dict at dx, its attributes -/
  | ins (C dx : Addr) (fs : List (Str × V))
  /-- the dict of the instance at x -/
  | own (x : Addr)
  /-- the dict of an exception -/
  | xd (fs : List (Str × V))
  /-- a bound method, f of x -/
  | met (f x : Addr)
  /-- a range object lo, lo + 1, .. below hi -/
  | rng (lo hi : Int)
  /-- a thing that is known to the object (the script; a dict while a loop walks it): read, never written while it is so -/
  | frz (o : Obj) (u : HO)
  /-- a code object's table -/
  | tbl (ps : Array Value)
  /-- any other thing, by what is true of its one object (a def of one's own: SetO a S n := HO.ext fun h => ..) -/
  | ext (φ : Heap → Prop)

abbrev Hp := Addr → Option HO
def upd (H : Hp) (a : Addr) (o : HO) : Hp := fun b => if b = a then some o else H b
theorem upd_same {H : Hp} {a : Addr} {o : HO} : upd H a o a = some o := by unfold upd; rw [if_pos rfl]
theorem upd_ne {H : Hp} {a b : Addr} {o : HO} (h : b ≠ a) : upd H a o b = H b := by unfold upd; rw [if_neg h]
theorem ne_of_none {H : Hp} {a b : Addr} {o : HO} (h : H a = some o) (h' : H b = none) : a ≠ b := by
  intro e; subst e; rw [h] at h'; cases h'

section
variable (P : Program) (w : World)
def ObjOk (H : Hp) (h : Heap) (a : Addr) : HO → Prop
  | .lst xs => xs.length ≤ sizeLine ∧ ∃ (its : List Value) (n : Nat), Vals xs its ∧ h.get? a = some { cls := .type "list", data := .seq its.toArray n }
  | .tup xs => xs.length ≤ sizeLine ∧ ∃ its : List Value, Vals xs its ∧ IsTup h a its.toArray
  | .dK kvs => kvs.length ≤ sizeLine ∧ (a == sysModules) = false ∧ ∃ vs, KV kvs vs ∧ h.DictOf (mixKind P w) a vs
  | .dT kvs => kvs.length ≤ sizeLine ∧ (a == sysModules) = false ∧ ∃ xs : List (List Key × Addr × Value),
      Paired (fun (p : List Key × V) (q : List Key × Addr × Value) => p.1 = q.1 ∧ H q.2.1 = some (.tup (p.1.map kV)) ∧ RelV p.2 q.2.2) kvs xs ∧
      ∃ o es ep, h.get? a = some o ∧ o.ExactDict ∧ o.data = .dict es ep ∧ es.toList = xs.map (entryOfKey (tupleKind (mixKind P w))) ∧ (xs.map (·.1)).Nodup
  | .set S n => h.SetOf (intKind P w) a S n
  | .ins C dx fs => H dx = some (.own a) ∧ fs.length ≤ 1000 ∧ dx ≠ a ∧ h.get? a = some (PySem.W.instObj C dx) ∧
      ∃ mA, h.Ns1 dx mA ∧ (∀ f, RelO (fs.lookup f) (mA f)) ∧ PySem.Within mA (fs.map (·.1))
  | .own _ => ∃ o, h.get? a = some o
  | .xd fs => ∃ mA, h.Ns1 a mA ∧ ∀ f, RelO (fs.lookup f) (mA f)
  | .rng lo hi => ∃ t u v, h.get? a = some { cls := .type "range", data := .fields #[.int lo t, .int hi u, .int 1 v] }
  | .frz o u => h.get? a = some o ∧ ObjOk H h a u
  | .tbl ps => h.get? a = some { cls := .none, data := .fields ps }
  | .met f x => h.get? a = some (PySem.W.methodObj (.ref f) (.ref x))
  | .ext φ => φ h ∧ (∃ o, h.get? a = some o) ∧ ∀ h1 h2 : Heap, φ h1 → (∀ o, h1.get? a = some o → h2.get? a = some o) → φ h2
/-- the abstract heap is held -/
def HOk (H : Hp) (h : Heap) : Prop := ∀ a o, H a = some o → ObjOk P w H h a o
end

section
variable {P : Program} {w : World} {H H' : Hp} {h h' : Heap} {a : Addr} {o : HO}
theorem ObjOk.lt (x : ObjOk P w H h a o) : a < h.objs.size := by
  cases o with
  | lst xs => obtain ⟨_, _, _, _, e⟩ := x; exact Heap.lt_size e
  | tup xs => obtain ⟨_, _, _, p⟩ := x; exact p.lt
  | dK kvs => obtain ⟨_, _, _, _, o, _, _, e, _⟩ := x; exact Heap.lt_size e
  | dT kvs => obtain ⟨_, _, _, _, o, _, _, e, _⟩ := x; exact Heap.lt_size e
  | set S n => obtain ⟨o, _, _, _, e, _⟩ := x; exact Heap.lt_size e
  | ins C dx fs => obtain ⟨_, _, _, e, _⟩ := x; exact Heap.lt_size e
  | own y => obtain ⟨_, e⟩ := x; exact Heap.lt_size e
  | xd fs => obtain ⟨_, ⟨_, _, _, e, _⟩, _⟩ := x; exact Heap.lt_size e
  | rng lo hi => obtain ⟨_, _, _, e⟩ := x; exact Heap.lt_size e
  | frz ob u => obtain ⟨e, _⟩ := x; exact Heap.lt_size e
  | tbl ps => exact Heap.lt_size (show h.get? a = some _ from x)
  | met f y => exact Heap.lt_size (show h.get? a = some _ from x)
  | ext φ => obtain ⟨_, ⟨_, e⟩, _⟩ := x; exact Heap.lt_size e
theorem Paired.mapP {α β : Type} {F G : α → β → Prop} : ∀ {l₁ : List α} {l₂ : List β}, Paired F l₁ l₂ → (∀ a b, F a b → G a b) → Paired G l₁ l₂
  | _, _, .nil, _ => .nil
  | _, _, .cons r t, f => .cons (f _ _ r) (Paired.mapP t f)
/-- what an object's description leans on: its own object, its own dict, the tuples -/
theorem ObjOk.stay (x : ObjOk P w H h a o) (k : ∀ b u, (b = a ∨ H b = some (.own a)) → h.get? b = some u → h'.get? b = some u)
    (ho : ∀ b, H b = some (.own a) → H' b = some (.own a)) (ht : ∀ b xs, H b = some (.tup xs) → H' b = some (.tup xs)) : ObjOk P w H' h' a o := by
  induction o with
  | lst xs => obtain ⟨z, its, n, r, e⟩ := x; exact ⟨z, its, n, r, k _ _ (.inl rfl) e⟩
  | tup xs => obtain ⟨z, its, r, ob, e, c⟩ := x; exact ⟨z, its, r, ob, k _ _ (.inl rfl) e, c⟩
  | dK kvs => obtain ⟨z, y, vs, r, ob, es, ep, e, c⟩ := x; exact ⟨z, y, vs, r, ob, es, ep, k _ _ (.inl rfl) e, c⟩
  | dT kvs =>
    obtain ⟨z, y, xs, r, ob, es, ep, e, c⟩ := x
    exact ⟨z, y, xs, Paired.mapP r fun p q z => ⟨z.1, ht _ _ z.2.1, z.2.2⟩, ob, es, ep, k _ _ (.inl rfl) e, c⟩
  | set S n => obtain ⟨ob, es, ep, t, e, c⟩ := x; exact ⟨ob, es, ep, t, k _ _ (.inl rfl) e, c⟩
  | ins C dx fs =>
    obtain ⟨d, z, ne, e, mA, ⟨od, es, ep, e2, c⟩, r⟩ := x
    exact ⟨ho _ d, z, ne, k _ _ (.inl rfl) e, mA, ⟨od, es, ep, k _ _ (.inr d) e2, c⟩, r⟩
  | own y => obtain ⟨ob, e⟩ := x; exact ⟨ob, k _ _ (.inl rfl) e⟩
  | xd fs => obtain ⟨mA, ⟨od, es, ep, e, c⟩, r⟩ := x; exact ⟨mA, ⟨od, es, ep, k _ _ (.inl rfl) e, c⟩, r⟩
  | rng lo hi => obtain ⟨t, u, v, e⟩ := x; exact ⟨t, u, v, k _ _ (.inl rfl) e⟩
  | frz ob u ih => obtain ⟨e, q⟩ := x; exact ⟨k _ _ (.inl rfl) e, ih q⟩
  | tbl ps =>
    have e : h.get? a = some { cls := .none, data := .fields ps } := x
    show h'.get? a = some { cls := .none, data := .fields ps }
    exact k a _ (.inl rfl) e
  | met f y =>
    have e : h.get? a = some (PySem.W.methodObj (.ref f) (.ref y)) := x
    show h'.get? a = some (PySem.W.methodObj (.ref f) (.ref y))
    exact k a _ (.inl rfl) e
  | ext φ => obtain ⟨p, ⟨o, e⟩, st⟩ := x; exact ⟨st _ _ p fun o q => k _ _ (.inl rfl) q, ⟨o, k _ _ (.inl rfl) e⟩, st⟩
theorem HOk.lt (x : HOk P w H h) (e : H a = some o) : a < h.objs.size := (x a o e).lt
theorem HOk.fresh (x : HOk P w H h) (e : h.objs.size ≤ a) : H a = none := by
  cases q : H a with
  | none => rfl
  | some u => exact absurd (Nat.lt_of_lt_of_le (x.lt q) e) (Nat.lt_irrefl _)
/-- every object of the heap is kept -/
theorem HOk.kept (x : HOk P w H h) (k : ∀ b u, h.get? b = some u → h'.get? b = some u) : HOk P w H h' := fun a o e =>
  (x a o e).stay (fun b u _ q => k b u q) (fun _ q => q) fun _ _ q => q
/-- a new object is laid and tracked -/
theorem HOk.laid (x : HOk P w H h) (k : ∀ b u, h.get? b = some u → h'.get? b = some u) (hp : h.objs.size ≤ a) (new : ObjOk P w (upd H a o) h' a o) : HOk P w (upd H a o) h' := fun b u e => by
  have hn := x.fresh hp
  by_cases hb : b = a
  · subst hb; rw [upd_same] at e; cases e; exact new
  · rw [upd_ne hb] at e
    exact (x b u e).stay (fun c v _ q => k c v q) (fun c q => by rw [upd_ne (ne_of_none q hn)]; exact q) fun c xs q => by rw [upd_ne (ne_of_none q hn)]; exact q
end

/-- what may be read as u: it is u, or a known u -/
def Rd (H : Hp) (a : Addr) (u : HO) : Prop := H a = some u ∨ ∃ o, H a = some (.frz o u)
theorem Rd.of {H : Hp} {a : Addr} {u : HO} (h : H a = some u) : Rd H a u := .inl h
theorem Rd.ok {P : Program} {w : World} {H : Hp} {h : Heap} {a : Addr} {u : HO} (r : Rd H a u) (x : HOk P w H h) : ObjOk P w H h a u := by
  rcases r with r | ⟨o, r⟩
  · exact x a u r
  · obtain ⟨_, q⟩ := x a _ r
    exact q
/-- what may be written -/
def Mut : Option HO → Prop
  | some (.lst _) => True
  | some (.dK _) => True
  | some (.dT _) => True
  | some (.set _ _) => True
  | some (.ins _ _ _) => True
  | some (.ext _) => True
  | _ => False
section
variable {P : Program} {w : World} {H : Hp} {h h' : Heap} {x e : Addr} {o' : HO}
/-- the object at e is changed: x itself, or the dict of the instance x -/
theorem HOk.write (ok : HOk P w H h) (mu : Mut (H x)) (he : e = x ∨ H e = some (.own x)) (k : ∀ b u, b ≠ e → h.get? b = some u → h'.get? b = some u) (heo : ∃ u, h'.get? e = some u)
    (new : ObjOk P w (upd H x o') h' x o') : HOk P w (upd H x o') h' := fun b u q => by
  have nown : ∀ c y, H c = some (.own y) → c ≠ x := fun c y r z => by subst z; rw [r] at mu; exact mu
  have ntup : ∀ c xs, H c = some (.tup xs) → c ≠ x := fun c xs r z => by subst z; rw [r] at mu; exact mu
  by_cases hb : b = x
  · subst hb; rw [upd_same] at q; cases q; exact new
  · rw [upd_ne hb] at q
    by_cases hbe : b = e
    · have q' : H b = some (.own x) := by
        rcases he with z | z
        · exact absurd (hbe.trans z) hb
        · rw [hbe]; exact z
      rw [q] at q'; cases q'
      obtain ⟨v, hv⟩ := heo
      exact ⟨v, by rw [hbe]; exact hv⟩
    · refine (ok b u q).stay (fun c v hc r => k c v ?_ r) (fun c r => by rw [upd_ne (nown c b r)]; exact r) fun c xs r => by rw [upd_ne (ntup c xs r)]; exact r
      rcases hc with rfl | hc
      · exact hbe
      · rintro rfl
        rcases he with z | z
        · exact nown c b hc z
        · rw [hc] at z; cases z; exact hb rfl
end

/-! ### kept unless tracked; of the frames at fs (the callers') the slots may change (an exception that passes writes there); of the records at ex (iterators) nothing is said -/
structure Un (fs ex : List Addr) (H H' : Hp) (h h' : Heap) : Prop where
  keep : ∀ b o, h.get? b = some o → H b = none → b ∉ fs → b ∉ ex → h'.get? b = some o
  slot : ∀ b o, h.get? b = some o → H b = none → b ∈ fs → b ∉ ex → ∃ sl, h'.get? b = some { o with slots := sl }
  free : ∀ b o, h.get? b = some o → H b = none → b ∉ ex → H' b = none
  there : ∀ b o, h.get? b = some o → b ∉ ex → ∃ o', h'.get? b = some o'
  tups : ∀ b xs, H b = some (.tup xs) → H' b = some (.tup xs)
  frzs : ∀ b o u, H b = some (.frz o u) → H' b = some (.frz o u)
  tbls : ∀ b ps, H b = some (.tbl ps) → ∃ more, H' b = some (.tbl (ps ++ more))
section
variable {fs fs' ex ex' : List Addr} {H H1 H2 : Hp} {h h1 h2 h' : Heap} {a x e : Addr} {o : HO}
theorem Un.any (u : Un fs ex H H1 h h1) {b : Addr} {ob : Obj} (q : h.get? b = some ob) (n : H b = none) (hx : b ∉ ex) : ∃ sl, h1.get? b = some { ob with slots := sl } := by
  by_cases hb : b ∈ fs
  · exact u.slot b ob q n hb hx
  · exact ⟨ob.slots, u.keep b ob q n hb hx⟩
theorem Un.trans (a : Un fs ex H H1 h h1) (b : Un fs ex H1 H2 h1 h2) : Un fs ex H H2 h h2 where
  keep := fun c ob q n hc hx => b.keep c ob (a.keep c ob q n hc hx) (a.free c ob q n hx) hc hx
  slot := fun c ob q n hc hx => by
    obtain ⟨sl, e1⟩ := a.slot c ob q n hc hx
    obtain ⟨sl', e2⟩ := b.slot c _ e1 (a.free c ob q n hx) hc hx
    exact ⟨sl', e2⟩
  free := fun c ob q n hx => by
    obtain ⟨o', e1⟩ := a.there c ob q hx
    exact b.free c o' e1 (a.free c ob q n hx) hx
  there := fun c ob q hx => by
    obtain ⟨o', e1⟩ := a.there c ob q hx
    exact b.there c o' e1 hx
  tups := fun c xs q => b.tups c xs (a.tups c xs q)
  frzs := fun c ob xs q => b.frzs c ob xs (a.frzs c ob xs q)
  tbls := fun c ps q => by
    obtain ⟨m1, e1⟩ := a.tbls c ps q
    obtain ⟨m2, e2⟩ := b.tbls c _ e1
    exact ⟨m1 ++ m2, by rw [e2, Array.append_assoc]⟩
theorem Un.kept (k : ∀ b u, h.get? b = some u → h'.get? b = some u) : Un fs ex H H h h' :=
  ⟨fun b ob q _ _ _ => k b ob q, fun b ob q _ _ _ => ⟨ob.slots, k b ob q⟩, fun _ _ _ n _ => n, fun b ob q _ => ⟨ob, k b ob q⟩, fun _ _ q => q, fun _ _ _ q => q, fun _ ps q => ⟨#[], by rw [q]; simp⟩⟩
theorem Un.refl : Un fs ex H H h h := Un.kept fun _ _ q => q
theorem Un.laid (k : ∀ b u, h.get? b = some u → h'.get? b = some u) (hp : h.objs.size ≤ a) (hn : H a = none) : Un fs ex H (upd H a o) h h' where
  keep := fun b u q _ _ _ => k b u q
  slot := fun b u q _ _ _ => ⟨u.slots, k b u q⟩
  free := fun b u q n _ => by rw [upd_ne (Nat.ne_of_lt (Nat.lt_of_lt_of_le (Heap.lt_size q) hp))]; exact n
  there := fun b u q _ => ⟨u, k b u q⟩
  tups := fun b xs q => by rw [upd_ne (ne_of_none q hn)]; exact q
  frzs := fun b u xs q => by rw [upd_ne (ne_of_none q hn)]; exact q
  tbls := fun b ps q => ⟨#[], by rw [upd_ne (ne_of_none q hn), q]; simp⟩
theorem Un.write (mu : Mut (H x)) (he : e = x ∨ H e = some (.own x)) (k : ∀ b u, b ≠ e → h.get? b = some u → h'.get? b = some u) (heo : ∃ u, h'.get? e = some u) : Un fs ex H (upd H x o) h h' := by
  have hx : ∀ b, H b = none → b ≠ x := fun b n z => by subst z; rw [n] at mu; exact mu
  have hb : ∀ b, H b = none → b ≠ e := fun b n z => by
    subst z
    rcases he with r | r
    · exact hx b n r
    · rw [n] at r; cases r
  have hm : ∀ b u, H b = some u → ¬ Mut (some u) → b ≠ x := fun b u q nm z => by subst z; rw [q] at mu; exact nm mu
  refine ⟨fun b u q n _ _ => k b u (hb b n) q, fun b u q n _ _ => ⟨u.slots, k b u (hb b n) q⟩, fun b u q n _ => by rw [upd_ne (hx b n)]; exact n, fun b u q _ => ?_,
    fun b xs q => by rw [upd_ne (hm b _ q fun z => z)]; exact q, fun b u xs q => by rw [upd_ne (hm b _ q fun z => z)]; exact q, fun b ps q => ⟨#[], by rw [upd_ne (hm b _ q fun z => z), q]; simp⟩⟩
  by_cases hbe : b = e
  · subst hbe; exact heo
  · exact ⟨u, k b u hbe q⟩
theorem Un.mono (u : Un fs ex H H1 h h1) (hs : ∀ b ∈ fs, b ∈ fs') (hx : ∀ b ∈ ex, b ∈ ex') : Un fs' ex' H H1 h h1 :=
  ⟨fun b ob q n hb he => u.keep b ob q n (fun z => hb (hs b z)) fun z => he (hx b z), fun _ _ q n _ he => u.any q n fun z => he (hx _ z), fun b ob q n he => u.free b ob q n fun z => he (hx b z), fun b ob q he => u.there b ob q fun z => he (hx b z), u.tups, u.frzs, u.tbls⟩
end

/-! ### the heap without what is tracked -/
def trk (h : Heap) (H : Hp) : List Addr := (List.range h.objs.size).filter fun a => (H a).isSome
def hidT (h : Heap) (H : Hp) : Heap := PySem.W.hideAll h (trk h H)
theorem hidT_size (h : Heap) (H : Hp) : (hidT h H).objs.size = h.objs.size := PySem.W.hideAll_size _ _
theorem hidT_get {h : Heap} {H : Hp} {b : Addr} {o : Obj} (e : h.get? b = some o) (n : H b = none) : (hidT h H).get? b = some o :=
  PySem.W.hideAll_get _ e fun hm => by
    have q : (H b).isSome = true := (List.mem_filter.mp hm).2
    rw [n] at q; simp at q
theorem of_hidT {h : Heap} {H : Hp} {b : Addr} {o : Obj} (e : (hidT h H).get? b = some o) : h.get? b = some o ∧ H b = none := by
  have e' : h.get? b = some o := PySem.W.of_hideAll (trk h H) e
  refine ⟨e', ?_⟩
  cases q : H b with
  | none => rfl
  | some x =>
    have hm : b ∈ trk h H := List.mem_filter.mpr ⟨List.mem_range.mpr (Heap.lt_size e'), by simp [q]⟩
    have z : (hidT h H).get? b = none := PySem.W.hideAll_none (trk h H) hm
    rw [z] at e; cases e

/-! ### OpenK's ledger, filled with every new object but one -/
def allNews (g h : Heap) (L : Addr) : List (Addr × Obj) := (List.range h.objs.size).filterMap fun a => if a = L ∨ (g.get? a).isSome = true then none else (h.get? a).map fun o => (a, o)
def rest (g h : Heap) (L d : Addr) : List (Addr × Obj) := (allNews g h L).filter fun p => decide (p.1 ≠ d)
end L2

namespace L2
open PySem PySem.Spec PyProof.Rows

/-- the module's facts, over the base: the heap at the law's entry without what is tracked there -/
structure Mod (K : PySem.W.Frag) (mg : Str → Option Value) (base : Heap) : Prop where
  kin : K.In base
  glob : base.Ns mainGlobals mg
  blt : ∃ mb, base.Ns builtinsNs mb ∧ ∀ x : Str, x ≠ "__name__" → mb x = bootBuiltins x
  nolimit : base.NoLimit

/-- the context: a def's body (or a comprehension's block) running. base: fixed through the whole law; s₀, H₀: the entry; outer: the frames whose slots others may change (a def's callers); stack: all frames that run;
   ex: iterators that were made ahead of the entry and are walked here (a comprehension's); fn: the names whose cells were made at the entry (a def: all; a comprehension's block: its own); calm: not within an except suite; pn: pins that every state bears; xe: what is wanted of an exception that leaves the code -/
structure Cx where
  prog : Program
  w : World
  K : PySem.W.Frag
  mg : Str → Option Value
  base : Heap
  A : Around
  N : List Str
  s₀ : Shared
  H₀ : Hp
  env : Env
  outer : List Env
  stack : List Env
  ex : List Addr
  fn : Str → Bool
  calm : Bool
  pn : List (Addr × Obj)
  xe : Value → Shared → Prop
/-- the callers' frames -/
def frs (l : List Env) : List Addr := l.filterMap (·.frame)
abbrev Cx.fs (X : Cx) : List Addr := frs X.outer

def Vis (sc : Scope) (x : Str) : Prop := sc.names.lookup x = some .local ∨ sc.names.lookup x = some .cell ∨ sc.names.lookup x = some .free
def Loc (sc : Scope) (x : Str) : Prop := sc.names.lookup x = some .local ∨ sc.names.lookup x = some .cell
def Look (env : Env) (h : Heap) (m : Str → Option Value) (x : Str) (u : Value) : Prop :=
  (env.kindOf x = some .local ∧ m x = some u) ∨ ((env.kindOf x = some .cell ∨ env.kindOf x = some .free) ∧ ∃ c, env.cells.lookup x = some c ∧ h.IsCell c (some u))

structure Cx.Ok (X : Cx) : Prop where
  mod : Mod X.K X.mg X.base
  kind : X.env.scope.kind = .function
  glob : X.env.globals = mainGlobals
  blt : X.env.builtins = builtinsNs
  above : X.s₀.heap.objs.size ≤ X.env.locals
  inj : ∀ x y c, X.env.cells.lookup x = some c → X.env.cells.lookup y = some c → x = y
  has : ∀ x, (X.env.kindOf x = some .cell ∨ X.env.kindOf x = some .free) → ∃ c, X.env.cells.lookup x = some c
  cab : ∀ x c, X.fn x = true → X.env.cells.lookup x = some c → X.s₀.heap.objs.size ≤ c
  hd : X.calm = true → X.A.handled = none
  frames : X.A.frames = some X.stack
  stk : X.stack = X.outer ∨ (X.stack = X.env :: X.outer ∧ X.env.frame = some X.env.locals)
  exf : ∀ b ∈ X.ex, b ≠ X.env.locals ∧ ∀ x c, X.env.cells.lookup x = some c → c ≠ b
  bs : ∀ b o, X.base.get? b = some o → X.s₀.heap.get? b = some o ∧ X.H₀ b = none
  bsz : X.base.objs.size ≤ X.s₀.heap.objs.size
  noex : ∀ b o, X.base.get? b = some o → b ∉ X.ex
  exfs : ∀ b ∈ X.ex, b ∉ X.fs
  funs : X.s₀.heap.FunFrames X.base X.outer
  frf : ∀ b ∈ X.fs, X.H₀ b = none

structure Inv (X : Cx) (pins : List (Addr × Obj)) (σ : List (Option V)) (H : Hp) (s : Shared) : Prop where
  ok : X.Ok
  os : s.os = X.s₀.os
  bare : AllBare s.gens
  base : Un X.fs X.ex X.H₀ H X.s₀.heap s.heap
  loc : ∃ m, s.heap.Ns X.env.locals m ∧ ∀ (i : Nat) (x : Str) (v : V), X.N[i]? = some x → σ[i]? = some (some v) → Vis X.env.scope x → ∃ u, RelV v u ∧ Look X.env s.heap m x u
  cell : ∀ x c, X.env.cells.lookup x = some c → ∃ v, s.heap.IsCell c v
  free : H X.env.locals = none
  freeC : ∀ x c, X.env.cells.lookup x = some c → H c = none
  pin : ∀ p ∈ X.pn ++ pins, s.heap.get? p.1 = some p.2 ∧ H p.1 = none ∧ p.1 ≠ X.env.locals ∧ p.1 ∉ X.fs ∧ ∀ v, p.2.data ≠ .cell v
  hok : HOk X.prog X.w H s.heap
  len : σ.length = X.N.length

section
variable {X : Cx} {pins : List (Addr × Obj)} {σ : List (Option V)} {H H' : Hp} {s : Shared} {h' : Heap}

theorem Cx.Ok.nofr (ok : X.Ok) {b : Addr} {o : Obj} (e : X.base.get? b = some o) : b ∉ X.fs := fun hb => by
  have := (ok.funs.mem hb).1
  rw [e] at this; cases this
theorem Inv.bs (I : Inv X pins σ H s) : ∀ b o, X.base.get? b = some o → s.heap.get? b = some o ∧ H b = none := fun b o e =>
  ⟨I.base.keep b o (I.ok.bs b o e).1 (I.ok.bs b o e).2 (I.ok.nofr e) (I.ok.noex b o e), I.base.free b o (I.ok.bs b o e).1 (I.ok.bs b o e).2 (I.ok.noex b o e)⟩
theorem Inv.bk (I : Inv X pins σ H s) : ∀ b o, X.base.get? b = some o → s.heap.get? b = some o := fun b o e => (I.bs b o e).1
theorem Inv.mod (I : Inv X pins σ H s) : Mod X.K X.mg X.base := I.ok.mod
theorem Inv.kIn (I : Inv X pins σ H s) : X.K.In s.heap := I.ok.mod.kin.keeps I.bk
theorem Inv.lt (I : Inv X pins σ H s) : X.env.locals < s.heap.objs.size := let ⟨_, hn, _⟩ := I.loc; hn.lt
theorem Inv.sz (I : Inv X pins σ H s) : X.s₀.heap.objs.size ≤ s.heap.objs.size := Nat.le_trans I.ok.above (Nat.le_of_lt I.lt)
theorem Inv.nofs (I : Inv X pins σ H s) {a : Addr} (h : s.heap.objs.size ≤ a) : a ∉ X.fs := fun hb => by
  obtain ⟨_, o, ho, _⟩ := I.ok.funs.mem hb
  exact absurd (Nat.lt_of_lt_of_le (Heap.lt_size ho) (Nat.le_trans I.sz h)) (Nat.lt_irrefl _)
theorem Inv.cne (I : Inv X pins σ H s) : ∀ x c, X.env.cells.lookup x = some c → c ≠ X.env.locals := fun x c e z => by
  obtain ⟨v, o, ho, hd⟩ := I.cell x c e
  obtain ⟨m, ⟨o', es, ep, ho', hd', _⟩, _⟩ := I.loc
  rw [z, ho'] at ho; cases ho; rw [hd'] at hd; cases hd
theorem Inv.funs (I : Inv X pins σ H s) : s.heap.FunFrames X.base X.outer := by
  have all : ∀ (l : List Env), (∀ b ∈ frs l, b ∈ X.fs) → X.s₀.heap.FunFrames X.base l → s.heap.FunFrames X.base l := by
    intro l
    induction l with
    | nil => intro _ _; trivial
    | cons env r ih =>
      intro hs hl
      obtain ⟨hk, ⟨L, o, hf, hn, ho, hd⟩, hr⟩ := hl
      have hL : L ∈ X.fs := hs L (by unfold frs; rw [List.filterMap_cons, hf]; exact List.mem_cons_self)
      obtain ⟨sl, e⟩ := I.base.slot L o ho (I.ok.frf L hL) hL fun z => I.ok.exfs L z hL
      exact ⟨hk, ⟨L, _, hf, hn, e, hd⟩, ih (fun b hb => hs b (by unfold frs; rw [List.filterMap_cons, hf]; exact List.mem_cons_of_mem _ hb)) hr⟩
  exact all X.outer (fun _ hb => hb) I.ok.funs

/-- the frames that run, for a call -/
theorem Inv.stack (I : Inv X pins σ H s) : s.heap.FunFrames X.base X.stack := by
  rcases I.ok.stk with e | ⟨e, hf⟩
  · rw [e]; exact I.funs
  · rw [e]
    obtain ⟨m, hn, _⟩ := I.loc
    refine .cons (by rw [I.ok.kind]; decide) hf hn ?_ I.funs
    exact Heap.get?_none_of_le (Nat.le_trans I.ok.bsz I.ok.above)
theorem Inv.stkSub (I : Inv X pins σ H s) : ∀ b ∈ frs X.stack, b ∈ X.env.locals :: X.fs := fun b hb => by
  rcases I.ok.stk with e | ⟨e, hf⟩
  · rw [e] at hb; exact List.mem_cons_of_mem _ hb
  · rw [e] at hb
    unfold frs at hb
    rw [List.filterMap_cons, hf] at hb
    exact hb
theorem Inv.stkFree (I : Inv X pins σ H s) : ∀ b ∈ frs X.stack, H b = none := fun b hb => by
  rcases List.mem_cons.mp (I.stkSub b hb) with e | hb
  · rw [e]; exact I.free
  · obtain ⟨_, o, ho, _⟩ := I.ok.funs.mem hb
    exact I.base.free b o ho (I.ok.frf b hb) fun z => I.ok.exfs b z hb

/-- THE STEP: the untracked objects but the frame and the records at ch are kept (the callers' frames up to slots), the frame's map is kept, the new abstract heap is held -/
theorem Inv.step {g' : Array GenState} {t' : Nat} {d' : Drawn} {ch : List Addr} (I : Inv X pins σ H s)
    (hch : ∀ b ∈ ch, (b ∈ X.ex ∨ X.s₀.heap.objs.size ≤ b) ∧ b ≠ X.env.locals ∧ (∀ x c, X.env.cells.lookup x = some c → c ≠ b) ∧ ∀ p ∈ X.pn ++ pins, p.1 ≠ b)
    (keep : ∀ b o, b ≠ X.env.locals → b ∉ X.fs → b ∉ ch → s.heap.get? b = some o → H b = none → h'.get? b = some o)
    (slot : ∀ b o, b ≠ X.env.locals → b ∈ X.fs → b ∉ ch → s.heap.get? b = some o → H b = none → ∃ sl, h'.get? b = some { o with slots := sl }) (free : ∀ b o, b ∉ ch → s.heap.get? b = some o → H b = none → H' b = none)
    (there : ∀ b o, b ∉ ch → s.heap.get? b = some o → ∃ o', h'.get? b = some o')
    (tups : ∀ b xs, H b = some (.tup xs) → H' b = some (.tup xs)) (frzs : ∀ b o u, H b = some (.frz o u) → H' b = some (.frz o u)) (tbls : ∀ b ps, H b = some (.tbl ps) → ∃ more, H' b = some (.tbl (ps ++ more)))
    (ns : ∀ m, s.heap.Ns X.env.locals m → h'.Ns X.env.locals m) (hok : HOk X.prog X.w H' h') (hg : AllBare g') :
    Inv X pins σ H' { s with heap := h', gens := g', drawn := d', toks := t' } := by
  have neL : ∀ b o, X.s₀.heap.get? b = some o → b ≠ X.env.locals := fun b o e => Nat.ne_of_lt (Nat.lt_of_lt_of_le (Heap.lt_size e) I.ok.above)
  have neC : ∀ b o, X.s₀.heap.get? b = some o → b ∉ X.ex → b ∉ ch := fun b o e hx hb => by
    rcases (hch b hb).1 with z | z
    · exact hx z
    · exact absurd (Nat.lt_of_lt_of_le (Heap.lt_size e) z) (Nat.lt_irrefl _)
  have cellK : ∀ x c, X.env.cells.lookup x = some c → ∀ v, s.heap.IsCell c v → h'.IsCell c v := fun x c e v ⟨o, ho, hd⟩ => by
    have nch : c ∉ ch := fun z => (hch c z).2.2.1 x c e rfl
    by_cases hc : c ∈ X.fs
    · obtain ⟨sl, q⟩ := slot c o (I.cne x c e) hc nch ho (I.freeC x c e)
      exact ⟨_, q, hd⟩
    · exact ⟨o, keep c o (I.cne x c e) hc nch ho (I.freeC x c e), hd⟩
  refine ⟨I.ok, I.os, hg, ⟨fun b o e n hb hx => ?_, fun b o e n hb hx => ?_, fun b o e n hx => ?_, fun b o e hx => ?_, fun b xs e => tups b xs (I.base.tups b xs e), fun b o xs e => frzs b o xs (I.base.frzs b o xs e), fun b ps e => ?_⟩, ?_, fun x c e => ?_, ?_, fun x c e => ?_, fun p hp => ?_, hok, I.len⟩
  · exact keep b o (neL b o e) hb (neC b o e hx) (I.base.keep b o e n hb hx) (I.base.free b o e n hx)
  · obtain ⟨sl, e1⟩ := I.base.slot b o e n hb hx
    obtain ⟨sl', e2⟩ := slot b _ (neL b o e) hb (neC b o e hx) e1 (I.base.free b o e n hx)
    exact ⟨sl', e2⟩
  · obtain ⟨o', e1⟩ := I.base.there b o e hx
    exact free b o' (neC b o e hx) e1 (I.base.free b o e n hx)
  · obtain ⟨o', e1⟩ := I.base.there b o e hx
    exact there b o' (neC b o e hx) e1
  · obtain ⟨m1, e1⟩ := I.base.tbls b ps e
    obtain ⟨m2, e2⟩ := tbls b _ e1
    exact ⟨m1 ++ m2, by rw [e2, Array.append_assoc]⟩
  · obtain ⟨m, hn, hl⟩ := I.loc
    refine ⟨m, ns m hn, fun i x v e1 e2 e3 => ?_⟩
    obtain ⟨u, r, l⟩ := hl i x v e1 e2 e3
    refine ⟨u, r, ?_⟩
    rcases l with l | ⟨k, c, e, z⟩
    · exact .inl l
    · exact .inr ⟨k, c, e, cellK x c e _ z⟩
  · obtain ⟨v, z⟩ := I.cell x c e
    exact ⟨v, cellK x c e v z⟩
  · obtain ⟨m, ⟨o, _, _, ho, _⟩, _⟩ := I.loc
    exact free _ o (fun z => (hch _ z).2.1 rfl) ho I.free
  · obtain ⟨v, o, ho, hd⟩ := I.cell x c e
    exact free c o (fun z => (hch c z).2.2.1 x c e rfl) ho (I.freeC x c e)
  · obtain ⟨e, n, ne, nf, d⟩ := I.pin p hp
    have nch : p.1 ∉ ch := fun z => (hch p.1 z).2.2.2 p hp rfl
    exact ⟨keep p.1 p.2 ne nf nch e n, free p.1 p.2 nch e n, ne, nf, d⟩
/-- .. where the frame's own object is kept too -/
theorem Inv.un {t' : Nat} (I : Inv X pins σ H s) (u : Un X.fs [] H H' s.heap h') (hok : HOk X.prog X.w H' h') : Inv X pins σ H' { s with heap := h', toks := t' } := by
  obtain ⟨m, ⟨o, es, ep, ho, r⟩, _⟩ := id I.loc
  obtain ⟨sl, hL⟩ := u.any ho I.free (by simp)
  exact I.step (g' := s.gens) (d' := s.drawn) (ch := []) (fun _ z => nomatch z) (fun b o _ hb _ e n => u.keep b o e n hb (by simp)) (fun b o _ hb _ e n => u.slot b o e n hb (by simp)) (fun b o _ e n => u.free b o e n (by simp)) (fun b o _ e => u.there b o e (by simp)) u.tups u.frzs u.tbls (fun m' hm => by
    obtain ⟨o', es', ep', ho', r'⟩ := hm
    rw [ho] at ho'; cases ho'
    exact ⟨_, es', ep', hL, r'⟩) hok I.bare
/-- behind a call (or a comprehension's block): the slots of this frame may have changed too, the records at ch may have turned -/
theorem Inv.call {g' : Array GenState} {t' : Nat} {d' : Drawn} {ch : List Addr} (I : Inv X pins σ H s) (u : Un (frs X.stack) ch H H' s.heap h') (hok : HOk X.prog X.w H' h') (hg : AllBare g')
    (hch : ∀ b ∈ ch, (b ∈ X.ex ∨ X.s₀.heap.objs.size ≤ b) ∧ b ≠ X.env.locals ∧ (∀ x c, X.env.cells.lookup x = some c → c ≠ b) ∧ ∀ p ∈ X.pn ++ pins, p.1 ≠ b) :
    Inv X pins σ H' { s with heap := h', gens := g', drawn := d', toks := t' } := by
  obtain ⟨m, ⟨o, es, ep, ho, r⟩, _⟩ := id I.loc
  obtain ⟨sl, hL⟩ := u.any ho I.free fun z => (hch _ z).2.1 rfl
  exact I.step (ch := ch) hch (fun b o hL hb hc e n => u.keep b o e n (fun z => (List.mem_cons.mp (I.stkSub b z)).elim hL hb) hc) (fun b o _ _ hc e n => u.any e n hc) (fun b o hc e n => u.free b o e n hc) (fun b o hc e => u.there b o e hc) u.tups u.frzs u.tbls (fun m' hm => by
    obtain ⟨o', es', ep', ho', r'⟩ := hm
    rw [ho] at ho'; cases ho'
    exact ⟨_, es', ep', hL, r'⟩) hok hg
/-- an untracked record of ours (an iterator) has turned -/
theorem Inv.turned {t' : Nat} {it : Addr} (I : Inv X pins σ H s) (k : ∀ b o, b ≠ it → s.heap.get? b = some o → h'.get? b = some o) (hn : H it = none) (hL : it ≠ X.env.locals)
    (h1 : it ∈ X.ex ∨ X.s₀.heap.objs.size ≤ it) (h2 : ∀ x c, X.env.cells.lookup x = some c → c ≠ it) (h3 : ∀ p ∈ X.pn ++ pins, p.1 ≠ it) : Inv X pins σ H { s with heap := h', toks := t' } := by
  have nit : ∀ b u, H b = some u → b ≠ it := fun b u e z => by rw [z, hn] at e; cases e
  refine I.step (g' := s.gens) (d' := s.drawn) (ch := [it]) (fun b hb => ?_) (fun b o _ _ hc e _ => k b o (fun z => hc (by simp [z])) e) (fun b o _ _ hc e _ => ⟨o.slots, k b o (fun z => hc (by simp [z])) e⟩) (fun _ _ _ _ n => n)
    (fun b o hc e => ⟨o, k b o (fun z => hc (by simp [z])) e⟩) (fun _ _ e => e) (fun _ _ _ e => e) (fun b ps e => ⟨#[], by rw [e]; simp⟩) (fun m hm => ?_) (fun b u e => ?_) I.bare
  · have e : b = it := by simpa using hb
    subst e
    exact ⟨h1, hL, h2, h3⟩
  · obtain ⟨o, es, ep, ho, r⟩ := hm
    exact ⟨o, es, ep, k _ o (Ne.symm hL) ho, r⟩
  · refine (I.hok b u e).stay (fun c v hc q => k c v ?_ q) (fun _ q => q) fun _ _ q => q
    rcases hc with z | z
    · rw [z]; exact nit b u e
    · exact nit c _ z
theorem Inv.tok (I : Inv X pins σ H s) (t : Nat) : Inv X pins σ H { s with toks := t } := I.un (h' := s.heap) (t' := t) Un.refl I.hok
/-- all objects kept -/
theorem Inv.kept {t' : Nat} (I : Inv X pins σ H s) (k : ∀ b u, s.heap.get? b = some u → h'.get? b = some u) : Inv X pins σ H { s with heap := h', toks := t' } := I.un (Un.kept k) (I.hok.kept k)
/-- a new object laid and tracked -/
theorem Inv.laid {a : Addr} {o : HO} {t' : Nat} (I : Inv X pins σ H s) (k : ∀ b u, s.heap.get? b = some u → h'.get? b = some u) (hp : s.heap.objs.size ≤ a) (new : ObjOk X.prog X.w (upd H a o) h' a o) :
    Inv X pins σ (upd H a o) { s with heap := h', toks := t' } := I.un (Un.laid k hp (I.hok.fresh hp)) (I.hok.laid k hp new)
/-- an object written -/
theorem Inv.write {x e : Addr} {o : HO} {t' : Nat} (I : Inv X pins σ H s) (mu : Mut (H x)) (he : e = x ∨ H e = some (.own x)) (k : ∀ b u, b ≠ e → s.heap.get? b = some u → h'.get? b = some u) (heo : ∃ u, h'.get? e = some u)
    (new : ObjOk X.prog X.w (upd H x o) h' x o) : Inv X pins σ (upd H x o) { s with heap := h', toks := t' } := I.un (Un.write mu he k heo) (I.hok.write mu he k heo new)
theorem Inv.pins_of {pins' : List (Addr × Obj)} (I : Inv X pins σ H s) (h : ∀ p ∈ pins', s.heap.get? p.1 = some p.2 ∧ H p.1 = none ∧ p.1 ≠ X.env.locals ∧ p.1 ∉ X.fs ∧ ∀ v, p.2.data ≠ .cell v) : Inv X pins' σ H s :=
  ⟨I.ok, I.os, I.bare, I.base, I.loc, I.cell, I.free, I.freeC, fun p hp => (List.mem_append.mp hp).elim (fun z => I.pin p (List.mem_append_left _ z)) (h p), I.hok, I.len⟩

theorem nodup_ix {N : List Str} (hN : N.Nodup) {i j : Nat} {x : Str} (a : N[i]? = some x) (b : N[j]? = some x) : i = j := by
  obtain ⟨h1, e1⟩ := List.getElem?_eq_some_iff.mp a
  obtain ⟨h2, e2⟩ := List.getElem?_eq_some_iff.mp b
  exact (List.getElem_inj hN).mp (e1.trans e2.symm)

/-- a name is stored; what changed -/
theorem store_ok2 {M : Model} {A : Around} {E : Value → Shared → Prop} {i : Nat} {x : Str} {v : V} {u : Value} {Q : Unit → Shared → Prop} (I : Inv X pins σ H s) (hN : X.N.Nodup) (hi : X.N[i]? = some x) (hx : Loc X.env.scope x) (r : RelV v u)
    (h : ∀ s', Inv X pins (σ.set i (some v)) H s' → (∃ a, Heap.SameBut a s.heap s'.heap ∧ (a = X.env.locals ∨ X.env.cells.lookup x = some a)) → Q () s') (hf : X.fn x = true ∨ X.env.scope.names.lookup x = some .local := by first | exact .inl rfl | exact .inr rfl | assumption) : wpAny M A (storeName X.env x u) Q E s := by
  obtain ⟨m, hn, hl⟩ := id I.loc
  have hcls : (X.env.scope.kind == .class || (X.env.scope.kind == .module && X.env.locals != X.env.globals)) = false := by rw [I.ok.kind]; rfl
  have hiσ : i < σ.length := by rw [I.len]; exact (List.getElem?_eq_some_iff.mp hi).1
  have cne := I.cne
  have tracked : ∀ {a : Addr} {h' : Heap}, (∃ o, s.heap.get? a = some o ∧ H a = none) → Heap.SameBut a s.heap h' → HOk X.prog X.w H h' := fun {a h'} ha hs b ob e => by
    obtain ⟨_, _, hfree⟩ := ha
    refine (I.hok b ob e).stay (fun c w' hc q => (hs.2 c ?_).trans q) (fun _ q => q) fun _ _ q => q
    rintro rfl
    rcases hc with rfl | hc
    · rw [hfree] at e; cases e
    · rw [hfree] at hc; cases hc
  rcases hx with hk | hk
  · refine wpAny_storeName_local hk hn (fun h' hn' hs => ?_) hcls
    obtain ⟨oL, _, _, hoL, _⟩ := id hn
    refine h _ ⟨I.ok, I.os, I.bare, ⟨fun b o e n hb hx => ?_, fun b o e n hb hx => ?_, I.base.free, fun b o e hx => ?_, I.base.tups, I.base.frzs, I.base.tbls⟩, ⟨_, hn', fun j y v' e1 e2 e3 => ?_⟩, fun y c e => ?_, I.free, I.freeC, fun p hp => ?_, tracked ⟨oL, hoL, I.free⟩ hs, by simpa using I.len⟩ ⟨_, hs, .inl rfl⟩
    · exact (hs.2 b (Nat.ne_of_lt (Nat.lt_of_lt_of_le (Heap.lt_size e) I.ok.above))).trans (I.base.keep b o e n hb hx)
    · obtain ⟨sl, e1⟩ := I.base.slot b o e n hb hx
      exact ⟨sl, (hs.2 b (Nat.ne_of_lt (Nat.lt_of_lt_of_le (Heap.lt_size e) I.ok.above))).trans e1⟩
    · obtain ⟨o', e1⟩ := I.base.there b o e hx
      exact ⟨o', (hs.2 b (Nat.ne_of_lt (Nat.lt_of_lt_of_le (Heap.lt_size e) I.ok.above))).trans e1⟩
    · by_cases hj : j = i
      · subst hj
        rw [hi] at e1; cases e1
        rw [List.getElem?_set_self hiσ] at e2
        cases e2
        exact ⟨u, r, .inl ⟨hk, by simp⟩⟩
      · rw [List.getElem?_set_ne (Ne.symm hj)] at e2
        obtain ⟨u', r', q⟩ := hl j y v' e1 e2 e3
        refine ⟨u', r', ?_⟩
        rcases q with ⟨k, e⟩ | ⟨k, c, e, z⟩
        · refine .inl ⟨k, ?_⟩
          have : y ≠ x := fun e => hj (nodup_ix hN e1 (e ▸ hi))
          simp [this, e]
        · exact .inr ⟨k, c, e, z.sameBut hs (cne y c e)⟩
    · obtain ⟨w', z⟩ := I.cell y c e
      exact ⟨w', z.sameBut hs (cne y c e)⟩
    · obtain ⟨e, n, ne, nf, d⟩ := I.pin p hp
      exact ⟨(hs.2 p.1 ne).trans e, n, ne, nf, d⟩
  · have hfn : X.fn x = true := by
      rcases hf with z | z
      · exact z
      · rw [z] at hk; cases hk
    obtain ⟨c, hc⟩ := I.ok.has x (.inl hk)
    obtain ⟨w', z⟩ := I.cell x c hc
    refine wpAny_storeName_cell I.ok.kind hk hc z (fun h' hc' hs => ?_)
    obtain ⟨oc, hoc, hocd⟩ := id z
    refine h { s with heap := h' } ⟨I.ok, I.os, I.bare, ⟨fun b o e n hb hx => ?_, fun b o e n hb hx => ?_, I.base.free, fun b o e hx => ?_, I.base.tups, I.base.frzs, I.base.tbls⟩, ⟨m, hn.sameBut hs (Ne.symm (cne x c hc)), fun j y v' e1 e2 e3 => ?_⟩, fun y c' e => ?_, I.free, I.freeC, fun p hp => ?_, tracked ⟨oc, hoc, I.freeC x c hc⟩ hs, by simpa using I.len⟩ ⟨c, hs, .inr hc⟩
    · exact (hs.2 b (Nat.ne_of_lt (Nat.lt_of_lt_of_le (Heap.lt_size e) (I.ok.cab x c hfn hc)))).trans (I.base.keep b o e n hb hx)
    · obtain ⟨sl, e1⟩ := I.base.slot b o e n hb hx
      exact ⟨sl, (hs.2 b (Nat.ne_of_lt (Nat.lt_of_lt_of_le (Heap.lt_size e) (I.ok.cab x c hfn hc)))).trans e1⟩
    · obtain ⟨o', e1⟩ := I.base.there b o e hx
      exact ⟨o', (hs.2 b (Nat.ne_of_lt (Nat.lt_of_lt_of_le (Heap.lt_size e) (I.ok.cab x c hfn hc)))).trans e1⟩
    · by_cases hj : j = i
      · subst hj
        rw [hi] at e1; cases e1
        rw [List.getElem?_set_self hiσ] at e2
        cases e2
        exact ⟨u, r, .inr ⟨.inl hk, c, hc, hc'⟩⟩
      · rw [List.getElem?_set_ne (Ne.symm hj)] at e2
        obtain ⟨u', r', q⟩ := hl j y v' e1 e2 e3
        refine ⟨u', r', ?_⟩
        rcases q with q | ⟨k, c', e, z'⟩
        · exact .inl q
        · refine .inr ⟨k, c', e, z'.sameBut hs ?_⟩
          rintro rfl
          exact hj (nodup_ix hN e1 (I.ok.inj _ _ _ e hc ▸ hi))
    · by_cases hcc : c' = c
      · subst hcc; exact ⟨_, hc'⟩
      · obtain ⟨w2, z2⟩ := I.cell y c' e
        exact ⟨w2, z2.sameBut hs hcc⟩
    · obtain ⟨e, n, ne, nf, d⟩ := I.pin p hp
      refine ⟨(hs.2 p.1 ?_).trans e, n, ne, nf, d⟩
      intro q
      rw [q, hoc] at e
      have q' : oc = p.2 := Option.some.inj e
      exact d w' (by rw [← q']; exact hocd)
theorem store_ok {M : Model} {A : Around} {E : Value → Shared → Prop} {i : Nat} {x : Str} {v : V} {u : Value} {Q : Unit → Shared → Prop} (I : Inv X pins σ H s) (hN : X.N.Nodup) (hi : X.N[i]? = some x) (hx : Loc X.env.scope x) (r : RelV v u)
    (h : ∀ s', Inv X pins (σ.set i (some v)) H s' → Q () s') (hf : X.fn x = true ∨ X.env.scope.names.lookup x = some .local := by first | exact .inl rfl | exact .inr rfl | assumption) : wpAny M A (storeName X.env x u) Q E s :=
  store_ok2 I hN hi hx r (fun s' I' _ => h s' I') hf
/-- behind a call or a block, the state as it is -/
theorem Inv.call' {s' : Shared} {ch : List Addr} (I : Inv X pins σ H s) (ho : s'.os = s.os) (u : Un (frs X.stack) ch H H' s.heap s'.heap) (hok : HOk X.prog X.w H' s'.heap) (hg : AllBare s'.gens)
    (hch : ∀ b ∈ ch, (b ∈ X.ex ∨ X.s₀.heap.objs.size ≤ b) ∧ b ≠ X.env.locals ∧ (∀ x c, X.env.cells.lookup x = some c → c ≠ b) ∧ ∀ p ∈ X.pn ++ pins, p.1 ≠ b) : Inv X pins σ H' s' := by
  obtain ⟨h', g', d', t', o'⟩ := s'
  have e : o' = s.os := ho
  subst e
  exact I.call (g' := g') (t' := t') (d' := d') u hok hg hch
end

/-! ### the judgements -/
/-- an exception: its class, its own dict's address (where it has one), the abstract heap behind it -/
abbrev XK := Value → Option Addr → Hp → Prop
abbrev St := List (Option V)
abbrev VK := V → Hp → Prop
/-- an expression's reading; a test's; an argument list's -/
abbrev TE := St → Hp → VK → Prop
abbrev TT := St → Hp → (Bool → Hp → Prop) → Prop
abbrev TA := St → Hp → (List V → Hp → Prop) → Prop
/-- what is wanted behind a statement -/
structure Ends where
  nx : St → Hp → Prop
  rt : VK
  bk : St → Hp → Prop := fun _ _ => False
  ct : St → Hp → Prop := fun _ _ => False
abbrev TS := Ends → St → Hp → Prop

def EP (X : Cx) (pins : List (Addr × Obj)) (σ : St) (Q : VK) (u : Value) (s' : Shared) : Prop := ∃ v H', Inv X pins σ H' s' ∧ RelV v u ∧ Q v H'
def TP (X : Cx) (pins : List (Addr × Obj)) (σ : St) (Q : Bool → Hp → Prop) (b : Bool) (s' : Shared) : Prop := ∃ H', Inv X pins σ H' s' ∧ Q b H'
def AP (X : Cx) (pins : List (Addr × Obj)) (σ : St) (Q : List V → Hp → Prop) (us : List Value) (s' : Shared) : Prop := ∃ vs H', Inv X pins σ H' s' ∧ Vals vs us ∧ Q vs H'
def SP (X : Cx) (pins : List (Addr × Obj)) (D : Ends) (f : Flow) (s' : Shared) : Prop :=
  match f with
  | .next => ∃ σ' H', Inv X pins σ' H' s' ∧ D.nx σ' H'
  | .brk => ∃ σ' H', Inv X pins σ' H' s' ∧ D.bk σ' H'
  | .cont => ∃ σ' H', Inv X pins σ' H' s' ∧ D.ct σ' H'
  | .ret u => ∃ v σ' H', Inv X pins σ' H' s' ∧ RelV v u ∧ D.rt v H'

def PE (X : Cx) (e : Expr) (t : TE) : Prop :=
  ∀ (pins : List (Addr × Obj)) (s : Shared) (σ : St) (H : Hp) (Q : VK), Inv X pins σ H s → t σ H Q → wpAny (model X.prog X.w) X.A (eval e X.env) (EP X pins σ Q) X.xe s
def PT (X : Cx) (e : Expr) (t : TT) : Prop :=
  ∀ (pins : List (Addr × Obj)) (s : Shared) (σ : St) (H : Hp) (Q : Bool → Hp → Prop), Inv X pins σ H s → t σ H Q → wpAny (model X.prog X.w) X.A (isTrue e X.env (eval e X.env)) (TP X pins σ Q) X.xe s
/-- a test whatever its 'whole' is (and, or) -/
def PW (X : Cx) (e : Expr) (t : TT) : Prop :=
  ∀ (whole : Sem Value) (pins : List (Addr × Obj)) (s : Shared) (σ : St) (H : Hp) (Q : Bool → Hp → Prop), Inv X pins σ H s → t σ H Q → wpAny (model X.prog X.w) X.A (isTrue e X.env whole) (TP X pins σ Q) X.xe s
theorem PW.pt {X : Cx} {e : Expr} {t : TT} (h : PW X e t) : PT X e t := h _
/-- an argument list (no star), from the left -/
def PA (X : Cx) (es : List Expr) (t : TA) : Prop :=
  ∀ (pos : Pos) (pins : List (Addr × Obj)) (s : Shared) (σ : St) (H : Hp) (Q : List V → Hp → Prop), Inv X pins σ H s → t σ H Q → wpAny (model X.prog X.w) X.A (spliced (backTo pos (starEach es X.env))) (AP X pins σ Q) X.xe s
def PS (X : Cx) (st : Stmt) (t : TS) : Prop :=
  ∀ (pins : List (Addr × Obj)) (s : Shared) (σ : St) (H : Hp) (D : Ends), Inv X pins σ H s → t D σ H → wpAny (model X.prog X.w) X.A (exec st X.env) (SP X pins D) X.xe s
def PSs (X : Cx) (st : List Stmt) (t : TS) : Prop :=
  ∀ (pins : List (Addr × Obj)) (s : Shared) (σ : St) (H : Hp) (D : Ends), Inv X pins σ H s → t D σ H → wpAny (model X.prog X.w) X.A (execs st X.env) (SP X pins D) X.xe s
/-- weaken the end -/
theorem thn {α : Type} {t : Sem α} {Q Q' : α → Shared → Prop} {M : Model} {A : Around} {E : Value → Shared → Prop} {s : Shared} (h : wpAny M A t Q E s) (hQ : ∀ a s, Q a s → Q' a s) : wpAny M A t Q' E s := wpAny_mono h hQ fun _ _ x => x
end L2

namespace L2
open PySem PySem.Spec PyProof.Rows
section
variable {X : Cx}

/-! ### names and constants -/
def tVar (i : Nat) : TE := fun σ H Q => ∃ v, σ[i]? = some (some v) ∧ Q v H
def tC (v : V) : TE := fun _ H Q => Q v H
theorem pe_var {i : Nat} {x : Str} {pos : Pos} (hN : X.N[i]? = some x) (hv : Vis X.env.scope x) (hd : (x == ("__debug__" : Str)) = false := by decide) (hcd : (x == ("__classdict__" : Str)) = false := by decide) : PE X (.Name x pos) (tVar i) := by
  intro pins s σ H Q I h
  obtain ⟨v, e, h⟩ := h
  obtain ⟨m, hn, hl⟩ := I.loc
  obtain ⟨u, r, l⟩ := hl i x v hN e hv
  have fin : EP X pins σ Q u s := ⟨v, H, I, r, h⟩
  rcases l with ⟨hk, hm⟩ | ⟨hk, c, hc, hcell⟩
  · exact wpAny_Name (wpAny_loadName_local I.ok.kind hk hn hm fin) hd
  · rcases hk with hk | hk
    · exact wpAny_Name (wpAny_loadName_cell I.ok.kind hk hc hcell fin) hd
    · exact wpAny_Name (wpAny_loadName_free I.ok.kind hk hc hcell fin hcd) hd
theorem pe_int {i j pos} : PE X (.Constant (.int i) j pos) (tC (.int i)) := fun _ _ _ H _ I h => wpAny_Constant_int ⟨.int i, H, I.tok _, ⟨_, rfl⟩, h⟩
theorem pe_bl {b j pos} : PE X (.Constant (.bool b) j pos) (tC (.bl b)) := fun _ _ _ H _ I h => Constant_bool ⟨.bl b, H, I, rfl, h⟩
/-- a global name of the def -/
def Gl (X : Cx) (x : Str) : Prop := X.env.kindOf x = some .globalImplicit
theorem ld_glob {E : Value → Shared → Prop} {pins : List (Addr × Obj)} {s : Shared} {σ : St} {H : Hp} {x : Str} {u : Value} {pos : Pos} {Q : Value → Shared → Prop} (I : Inv X pins σ H s) (hg : Gl X x) (hm : X.mg x = some u) (h : Q u s)
    (hd : (x == ("__debug__" : Str)) = false := by decide) : wpAny (model X.prog X.w) X.A (eval (.Name x pos) X.env) Q E s :=
  Calls.Name_function_global I.ok.kind hg (Calls.loadGlobal_global (by rw [I.ok.glob]; exact I.mod.glob.keeps I.bk) hm h) hd
theorem ld_blt {E : Value → Shared → Prop} {pins : List (Addr × Obj)} {s : Shared} {σ : St} {H : Hp} {x : Str} {u : Value} {pos : Pos} {Q : Value → Shared → Prop} (I : Inv X pins σ H s) (hg : Gl X x) (hm : X.mg x = none) (hv : bootBuiltins x = some u) (h : Q u s)
    (hn : x ≠ "__name__" := by decide) (hd : (x == ("__debug__" : Str)) = false := by decide) : wpAny (model X.prog X.w) X.A (eval (.Name x pos) X.env) Q E s := by
  obtain ⟨mb, h1, h2⟩ := I.mod.blt
  exact Calls.Name_function_global I.ok.kind hg (Calls.loadGlobal_builtin (by rw [I.ok.glob]; exact I.mod.glob.keeps I.bk) hm (by rw [I.ok.blt]; exact h1.keeps I.bk) ((h2 x hn).trans hv) h) hd
theorem pe_bltn {x : Str} {v : V} {u : Value} {pos : Pos} (hg : Gl X x) (hm : X.mg x = none) (hv : bootBuiltins x = some u) (r : RelV v u) (hn : x ≠ "__name__" := by decide) (hd : (x == ("__debug__" : Str)) = false := by decide) : PE X (.Name x pos) (tC v) :=
  fun _ _ _ H _ I h => ld_blt I hg hm hv ⟨v, H, I, r, h⟩ hn hd

/-! ### arithmetic -/
/-- two ints -/
def t2I (ta tb : TE) (k : Int → Int → Hp → Prop) : St → Hp → Prop := fun σ H => ta σ H fun x H1 => tb σ H1 fun y H2 => ∃ i j, x = .int i ∧ y = .int j ∧ k i j H2
def tAdd (ta tb : TE) : TE := fun σ H Q => t2I ta tb (fun i j H2 => Q (.int (i + j)) H2) σ H
def tSub (ta tb : TE) : TE := fun σ H Q => t2I ta tb (fun i j H2 => Q (.int (i - j)) H2) σ H
/-- the left factor below 2^64 -/
def tMul (ta tb : TE) : TE := fun σ H Q => t2I ta tb (fun i j H2 => (-(2 ^ 64) < i ∧ i < 2 ^ 64) ∧ Q (.int (i * j)) H2) σ H
variable {a b : Expr} {ta tb : TE} {pos : Pos}
/-! ### comparisons -/
def PC (X : Cx) (op : CmpOp) (a b : Expr) (t : TE) : Prop :=
  ∀ (pins : List (Addr × Obj)) (s : Shared) (σ : St) (H : Hp) (Q : VK), Inv X pins σ H s → t σ H Q →
    wpAny (model X.prog X.w) X.A (eval a X.env) (fun v s₁ => wpAny (model X.prog X.w) X.A (eval b X.env) (fun u s₂ => wpAny (model X.prog X.w) X.A (compareOp op v u) (EP X pins σ Q) X.xe s₂) X.xe s₁) X.xe s
def tCmp (p : Int → Int → Bool) (ta tb : TE) : TE := fun σ H Q => t2I ta tb (fun i j H2 => Q (.bl (p i j)) H2) σ H
abbrev tLt : TE → TE → TE := tCmp fun i j => decide (i < j)
abbrev tLe : TE → TE → TE := tCmp fun i j => decide (i ≤ j)
abbrev tGt : TE → TE → TE := tCmp fun i j => decide (j < i)
abbrev tGe : TE → TE → TE := tCmp fun i j => decide (j ≤ i)
abbrev tEqI : TE → TE → TE := tCmp fun i j => decide (i = j)
abbrev tNeI : TE → TE → TE := tCmp fun i j => !decide (i = j)
/-- is None -/
def tIsN (ta : TE) : TE := fun σ H Q => ta σ H fun x H1 => Q (.bl (decide (x = .non))) H1
def tNotN (ta : TE) : TE := fun σ H Q => ta σ H fun x H1 => Q (.bl (!decide (x = .non))) H1
/-- a comparison as a value, as a test -/
def tB (t : TE) : TT := fun σ H Q => t σ H fun x H1 => ∃ c, x = .bl c ∧ Q c H1
/-- an expression whose value is a bool, as a test -/
theorem pt_val {e : Expr} {t : TE} (h : PE X e t) (he : ∀ whole, isTrue e X.env whole = (do let v ← whole; standAt e.pos; holding [v] (truthy v)) := by intro _; rfl) : PT X e (tB t) := by
  intro pins s σ H Q I hw
  refine isTrue_plain (thn (h pins s σ H _ I hw) fun v s1 ⟨x, H1, I1, r1, q1⟩ => ?_) (he _)
  obtain ⟨d, rfl, q⟩ := q1
  cases r1
  exact wpAny_truthy_bool ⟨H1, I1, q⟩

/-! ### and, or, not -/
variable {tA tB' : TT} {rest : List Expr}
def tAnd (t u : TT) : TT := fun σ H Q => t σ H fun c H1 => if c = true then u σ H1 Q else Q false H1
def tOr (t u : TT) : TT := fun σ H Q => t σ H fun c H1 => if c = true then Q true H1 else u σ H1 Q
def tNot (t : TT) : TT := fun σ H Q => t σ H fun c H1 => Q (!c) H1
theorem pw_or1 (ha : PT X a tA) : PW X (.BoolOp .Or [a] pos) tA := by
  intro wh pins s σ H Q I h
  refine isTrue_or (thn (ha pins s σ H Q I h) fun c s1 e => ?_)
  cases c with
  | false => exact isTrue_or_nil e
  | true => exact e
theorem pw_or (ha : PT X a tA) (hb : PW X (.BoolOp .Or (b :: rest) pos) tB') : PW X (.BoolOp .Or (a :: b :: rest) pos) (tOr tA tB') := by
  intro wh pins s σ H Q I h
  refine isTrue_or (thn (ha pins s σ H _ I h) fun c s1 ⟨H1, I1, q1⟩ => ?_)
  cases c with
  | true => exact ⟨H1, I1, q1⟩
  | false => exact hb wh pins s1 σ H1 Q I1 q1
theorem pt_not (ha : PT X a tA) : PT X (.UnaryOp .Not a pos) (tNot tA) := by
  intro pins s σ H Q I h
  exact isTrue_not (ha pins s σ H (fun c H1 => Q (!c) H1) I h)
/-- .. as values (bools) -/
def tAndV (ta tb : TE) : TE := fun σ H Q => ta σ H fun x H1 => ∃ c, x = .bl c ∧ if c = true then tb σ H1 Q else Q (.bl false) H1
def tOrV (ta tb : TE) : TE := fun σ H Q => ta σ H fun x H1 => ∃ c, x = .bl c ∧ if c = true then Q (.bl true) H1 else tb σ H1 Q
def tNotV (ta : TE) : TE := fun σ H Q => ta σ H fun x H1 => ∃ c, x = .bl c ∧ Q (.bl (!c)) H1
theorem pe_one {op} {t : TE} (h : PE X a t) : PE X (.BoolOp op [a] pos) t := fun pins s σ H Q I hw => BoolOp_one (h pins s σ H Q I hw)
theorem pe_and (ha : PE X a ta) (hb : PE X (.BoolOp .And (b :: rest) pos) tb) : PE X (.BoolOp .And (a :: b :: rest) pos) (tAndV ta tb) := by
  intro pins s σ H Q I h
  refine BoolOp_and (thn (ha pins s σ H _ I h) fun v s1 ⟨x, H1, I1, r1, q1⟩ => ?_)
  obtain ⟨c, rfl, q1⟩ := q1
  cases r1
  refine wpAny_truthy_bool ?_
  cases c with
  | true => exact hb pins s1 σ H1 Q I1 q1
  | false => exact ⟨.bl false, H1, I1, rfl, q1⟩
theorem pe_not (ha : PE X a ta) : PE X (.UnaryOp .Not a pos) (tNotV ta) := by
  intro pins s σ H Q I h
  refine UnaryOp_ (thn (ha pins s σ H _ I h) fun v s1 ⟨x, H1, I1, r1, q1⟩ => ?_)
  obtain ⟨c, rfl, q1⟩ := q1
  cases r1
  exact not_of (wpAny_truthy_bool ⟨.bl (!c), H1, I1, rfl, q1⟩)
/-- a if t else b -/
def tIf (t : TT) (ta tb : TE) : TE := fun σ H Q => t σ H fun c H1 => if c = true then ta σ H1 Q else tb σ H1 Q
end
end L2

namespace L2
open PySem PySem.Spec PyProof.Rows

/-! ### a list, a tuple that is read: tracked, frozen, or an object of the module -/
def SqL (K : PySem.W.Frag) (H : Hp) (a : Addr) (xs : List V) : Prop :=
  Rd H a (.lst xs) ∨
    ∃ (o : Obj) (its : Array Value) (n : Nat), K.lookup a = some o ∧ o.cls = .type "list" ∧ o.dict = none ∧ o.data = .seq its n ∧ its.size ≤ sizeLine ∧ Vals xs its.toList
def SqT (K : PySem.W.Frag) (H : Hp) (a : Addr) (xs : List V) : Prop :=
  Rd H a (.tup xs) ∨
    ∃ (o : Obj) (its : Array Value) (n : Nat), K.lookup a = some o ∧ o.cls = .type "tuple" ∧ o.data = .seq its n ∧ its.size ≤ sizeLine ∧ Vals xs its.toList
def absV : Value → Option V
  | .none => some .non
  | .bool b => some (.bl b)
  | .int i _ => some (.int i)
  | .str x _ => some (.str x)
  | .bytes b _ => some (.byt b)
  | .float b _ => some (.flt b)
  | .ref a => some (.ref a)
  | .type n => some (.ty n)
  | _ => none
theorem RelV.abs {x : V} {u : Value} (r : RelV x u) : absV u = some x := by
  cases x with
  | non => cases r; rfl
  | bl _ => cases r; rfl
  | int _ => obtain ⟨t, rfl⟩ := r; rfl
  | str _ => obtain ⟨t, rfl⟩ := r; rfl
  | byt _ => obtain ⟨t, rfl⟩ := r; rfl
  | flt _ => obtain ⟨t, rfl⟩ := r; rfl
  | ref _ => cases r; rfl
  | ty _ => cases r; rfl
theorem RelV.inj {x y : V} {u : Value} (r : RelV x u) (q : RelV y u) : x = y := Option.some.inj (r.abs.symm.trans q.abs)
theorem Vals.inj : ∀ {xs ys : List V} {us : List Value}, Vals xs us → Vals ys us → xs = ys
  | _, _, _, .nil, .nil => rfl
  | _, _, _, .cons r t, .cons r' t' => by rw [r.inj r', Vals.inj t t']
section
variable {X : Cx} {pins : List (Addr × Obj)} {σ : St} {H : Hp} {s : Shared} {a : Addr} {xs ys : List V}
theorem SqL.of {K : PySem.W.Frag} (h : H a = some (.lst xs)) : SqL K H a xs := .inl (.inl h)
theorem SqT.of {K : PySem.W.Frag} (h : H a = some (.tup xs)) : SqT K H a xs := .inl (.inl h)
theorem Inv.list (I : Inv X pins σ H s) (h : SqL X.K H a xs) : ∃ its : List Value, Vals xs its ∧ PlainL s.heap a its.toArray ∧ xs.length ≤ sizeLine := by
  rcases h with h | ⟨o, its, n, hk, hc, hd, hs, hz, r⟩
  · obtain ⟨z, its, n, r, e⟩ := h.ok I.hok
    exact ⟨its, r, ⟨_, n, e, rfl, rfl, rfl⟩, z⟩
  · refine ⟨its.toList, r, ⟨o, n, I.kIn a o hk, hc, hd, by simpa using hs⟩, ?_⟩
    have e := r.length
    simp only [Array.length_toList] at e
    omega
theorem Inv.tuple (I : Inv X pins σ H s) (h : SqT X.K H a xs) : ∃ its : List Value, Vals xs its ∧ IsTup s.heap a its.toArray ∧ xs.length ≤ sizeLine := by
  rcases h with h | ⟨o, its, n, hk, hc, hs, hz, r⟩
  · obtain ⟨z, its, r, p⟩ := h.ok I.hok
    exact ⟨its, r, p, z⟩
  · refine ⟨its.toList, r, ⟨o, I.kIn a o hk, hc, n, by simpa using hs⟩, ?_⟩
    have e := r.length
    simp only [Array.length_toList] at e
    omega
theorem Inv.list_inj (I : Inv X pins σ H s) (h : SqL X.K H a xs) (h' : SqL X.K H a ys) : xs = ys := by
  obtain ⟨its, r, ⟨o, n, e, _, _, d⟩, _⟩ := I.list h
  obtain ⟨its', r', ⟨o', n', e', _, _, d'⟩, _⟩ := I.list h'
  rw [e] at e'; cases e'
  rw [d] at d'
  injection d' with d1 _
  have : its = its' := by simpa using congrArg Array.toList d1
  subst this
  exact r.inj r'
theorem Inv.tuple_inj (I : Inv X pins σ H s) (h : SqT X.K H a xs) (h' : SqT X.K H a ys) : xs = ys := by
  obtain ⟨its, r, ⟨o, e, _, n, d⟩, _⟩ := I.tuple h
  obtain ⟨its', r', ⟨o', e', _, n', d'⟩, _⟩ := I.tuple h'
  rw [e] at e'; cases e'
  rw [d] at d'
  injection d' with d1 _
  have : its = its' := by simpa using congrArg Array.toList d1
  subst this
  exact r.inj r'
end

/-! ### another wish about exceptions -/
abbrev Cx.wish (X : Cx) (E : Value → Shared → Prop) : Cx := { X with xe := E }
/-- no exception leaves -/
abbrev Cx.nox (X : Cx) : Cx := X.wish fun _ _ => False
theorem Cx.Ok.wish {X : Cx} (ok : X.Ok) (E : Value → Shared → Prop) : (X.wish E).Ok :=
  ⟨ok.mod, ok.kind, ok.glob, ok.blt, ok.above, ok.inj, ok.has, ok.cab, ok.hd, ok.frames, ok.stk, ok.exf, ok.bs, ok.bsz, ok.noex, ok.exfs, ok.funs, ok.frf⟩
theorem Cx.Ok.unwish {X : Cx} {E : Value → Shared → Prop} (ok : (X.wish E).Ok) : X.Ok :=
  ⟨ok.mod, ok.kind, ok.glob, ok.blt, ok.above, ok.inj, ok.has, ok.cab, ok.hd, ok.frames, ok.stk, ok.exf, ok.bs, ok.bsz, ok.noex, ok.exfs, ok.funs, ok.frf⟩
section
variable {X : Cx} {pins : List (Addr × Obj)} {σ : St} {H : Hp} {s : Shared} {E : Value → Shared → Prop}
theorem Inv.wish (I : Inv X pins σ H s) (E : Value → Shared → Prop) : Inv (X.wish E) pins σ H s := ⟨I.ok.wish E, I.os, I.bare, I.base, I.loc, I.cell, I.free, I.freeC, I.pin, I.hok, I.len⟩
theorem Inv.unwish (I : Inv (X.wish E) pins σ H s) : Inv X pins σ H s := ⟨I.ok.unwish, I.os, I.bare, I.base, I.loc, I.cell, I.free, I.freeC, I.pin, I.hok, I.len⟩
theorem SP.unwish {D : Ends} {f : Flow} {s' : Shared} (h : SP (X.wish E) pins D f s') : SP X pins D f s' := by
  cases f with
  | next => obtain ⟨σ', H', I, q⟩ := h; exact ⟨σ', H', I.unwish, q⟩
  | brk => obtain ⟨σ', H', I, q⟩ := h; exact ⟨σ', H', I.unwish, q⟩
  | cont => obtain ⟨σ', H', I, q⟩ := h; exact ⟨σ', H', I.unwish, q⟩
  | ret u => obtain ⟨v, σ', H', I, r, q⟩ := h; exact ⟨v, σ', H', I.unwish, r, q⟩
theorem PSs.nox {st : List Stmt} {t : TS} (h : PSs X.nox st t) : PSs X st t := fun pins s σ H D I hw =>
  wpAny_mono (h pins s σ H D (I.wish _) hw) (fun _ _ q => q.unwish) fun _ _ z => False.elim z
end

/-! ### blocks and small statements -/
section
variable {X : Cx} {st : Stmt} {rest : List Stmt} {t u : TS} {e : Expr} {te : TE} {pos : Pos}
def tNext : TS := fun D σ H => D.nx σ H
def tSeq (t u : TS) : TS := fun D σ H => t { D with nx := u D } σ H
theorem pss_nil : PSs X [] tNext := fun _ _ σ H _ I h => wpAny_execs_nil ⟨σ, H, I, h⟩
theorem pss_cons (h1 : PS X st t) (h2 : PSs X rest u) : PSs X (st :: rest) (tSeq t u) := by
  intro pins s σ H D I h
  refine wpAny_execs_cons (thn (h1 pins s σ H { D with nx := u D } I h) fun f s1 q => ?_)
  cases f with
  | next =>
    obtain ⟨σ', H', I', q⟩ := q
    exact h2 pins s1 σ' H' D I' q
  | ret v => exact q
  | brk => exact q
  | cont => exact q
theorem pss_one (h1 : PS X st t) : PSs X [st] t := by
  intro pins s σ H D I h
  refine wpAny_execs_cons (thn (h1 pins s σ H D I h) fun f s1 q => ?_)
  cases f with
  | next => exact wpAny_execs_nil q
  | ret v => exact q
  | brk => exact q
  | cont => exact q
def tBreak : TS := fun D σ H => D.bk σ H
def tCont : TS := fun D σ H => D.ct σ H
/-- in a def's body nothing is shown -/
theorem Inv.quiet {pins : List (Addr × Obj)} {σ : St} {H : Hp} {s : Shared} (I : Inv X pins σ H s) : interactive X.env = false := by simp [interactive, I.ok.kind]
/-- an expression whose value is dropped -/
def tDrop (te : TE) : TS := fun D σ H => te σ H fun _ H1 => D.nx σ H1
theorem ps_expr (he : PE X e te) (hs : swapsWith e none pos.line X.env = pure false := by rfl) : PS X (.Expr e pos) (tDrop te) := by
  intro pins s σ H D I h
  exact wpAny_Expr_any (thn (he pins s σ H _ I h) fun v s1 ⟨x, H1, I1, r1, q1⟩ => ⟨σ, H1, I1, q1⟩) I.quiet hs
def tRet (te : TE) : TS := fun D σ H => te σ H D.rt
theorem ps_ret (he : PE X e te) : PS X (.Return (some e) pos) (tRet te) := by
  intro pins s σ H D I h
  exact wpAny_Return_some (thn (he pins s σ H _ I h) fun v s1 ⟨x, H1, I1, r1, q1⟩ => ⟨x, σ, H1, I1, r1, q1⟩)
def tRetN : TS := fun D _ H => D.rt .non H
def tIfS (c : TT) (t u : TS) : TS := fun D σ H => c σ H fun b H1 => if b = true then t D σ H1 else u D σ H1
theorem ps_if {c : Expr} {a b : List Stmt} {tc : TT} (hc : PT X c tc) (ha : PSs X a t) (hb : PSs X b u) : PS X (.If c a b pos) (tIfS tc t u) := by
  intro pins s σ H D I h
  refine wpAny_If (thn (hc pins s σ H _ I h) fun d s1 ⟨H1, I1, q1⟩ => ?_)
  cases d with
  | true => exact ha pins s1 σ H1 D I1 q1
  | false => exact hb pins s1 σ H1 D I1 q1
/-- code that the proof never comes to -/
def tNever : TS := fun _ _ _ => False
end

/-! ### targets -/
abbrev TG := V → St → Hp → (St → Hp → Prop) → Prop
abbrev TGs := List V → St → Hp → (St → Hp → Prop) → Prop
def PG (X : Cx) (target : Expr) (t : TG) : Prop :=
  ∀ (pins : List (Addr × Obj)) (s : Shared) (σ : St) (H : Hp) (v : V) (u : Value) (Q : St → Hp → Prop), Inv X pins σ H s → RelV v u → t v σ H Q →
    wpAny (model X.prog X.w) X.A (assign target X.env u) (fun _ s' => ∃ σ' H', Inv X pins σ' H' s' ∧ Q σ' H') X.xe s
/-- several targets, one after another -/
def PGs (X : Cx) (ts : List Expr) (t : TGs) : Prop :=
  ∀ (pins : List (Addr × Obj)) (s : Shared) (σ : St) (H : Hp) (vs : List V) (us : List Value) (Q : St → Hp → Prop), Inv X pins σ H s → Vals vs us → t vs σ H Q →
    wpAny (model X.prog X.w) X.A (assignInOrder ((assignEach ts X.env).map (·.2)) us) (fun _ s' => ∃ σ' H', Inv X pins σ' H' s' ∧ Q σ' H') X.xe s
/-- o[i] = v, by values -/
abbrev TSet := V → V → V → Hp → (Hp → Prop) → Prop
def PSet (X : Cx) (t : TSet) : Prop :=
  ∀ (pins : List (Addr × Obj)) (s : Shared) (σ : St) (H : Hp) (o i v : V) (ov iv u : Value) (Q : Hp → Prop), Inv X pins σ H s → RelV o ov → RelV i iv → RelV v u → t o i v H Q →
    wpAny (model X.prog X.w) X.A (setItem ov iv u) (fun _ s' => ∃ H', Inv X pins σ H' s' ∧ Q H') X.xe s
/-- a op= b, by values -/
abbrev TIp := V → V → Hp → VK → Prop
def PIp (X : Cx) (op : Operator) (t : TIp) : Prop :=
  ∀ (pins : List (Addr × Obj)) (s : Shared) (σ : St) (H : Hp) (x y : V) (v u : Value) (Q : VK), Inv X pins σ H s → RelV x v → RelV y u → t x y H Q →
    wpAny (model X.prog X.w) X.A (inplaceOp op v u) (EP X pins σ Q) X.xe s
section
variable {X : Cx} {pos : Pos}
def gName (i : Nat) : TG := fun v σ H Q => Q (σ.set i (some v)) H
theorem pg_name {i : Nat} {x : Str} (hN : X.N.Nodup) (hi : X.N[i]? = some x) (hx : Loc X.env.scope x) (hf : X.fn x = true ∨ X.env.scope.names.lookup x = some .local := by first | exact .inl rfl | exact .inr rfl | assumption) : PG X (.Name x pos) (gName i) := by
  intro pins s σ H v u Q I r h
  exact wpAny_assign_Name (store_ok I hN hi hx r (fun s' I' => ⟨_, H, I', h⟩) hf)
def gNil : TGs := fun vs σ H Q => vs = [] ∧ Q σ H
def gCons (t : TG) (u : TGs) : TGs := fun vs σ H Q => ∃ v r, vs = v :: r ∧ t v σ H fun σ' H' => u r σ' H' Q
theorem pgs_nil : PGs X [] gNil := by
  intro pins s σ H vs us Q I r h
  obtain ⟨e, h⟩ := h
  subst e
  cases r
  exact assignInOrder_nil ⟨σ, H, I, h⟩
theorem pgs_cons {e : Expr} {es : List Expr} {t : TG} {u : TGs} (h1 : PG X e t) (h2 : PGs X es u)
    (hs : (assignEach (e :: es) X.env).map (·.2) = assign e X.env :: (assignEach es X.env).map (·.2) := by rfl) : PGs X (e :: es) (gCons t u) := by
  intro pins s σ H vs us Q I r h
  obtain ⟨v, vr, e1, h⟩ := h
  subst e1
  cases r with
  | cons r rr =>
    rw [hs]
    refine assignInOrder_cons (thn (h1 pins s σ H _ _ _ I r h) fun _ s1 ⟨σ1, H1, I1, q1⟩ => ?_)
    exact h2 pins s1 σ1 H1 _ _ Q I1 rr q1
/-- (a, b, ..) = a tuple of that length -/
def gTup (K : PySem.W.Frag) (n : Nat) (t : TGs) : TG := fun v σ H Q => ∃ a xs, v = .ref a ∧ SqT K H a xs ∧ xs.length = n ∧ t xs σ H Q
theorem pg_tup {es : List Expr} {k : Nat} {t : TGs} {n : Nat} (hc : X.calm = true) (h : PGs X es t)
    (hn : (assignEach es X.env).length = n := by rfl) (hst : (assignEach es X.env).findIdx? (·.1) = none := by rfl) : PG X (.Tuple es k pos) (gTup X.K n t) := by
  intro pins s σ H v u Q I r hw
  obtain ⟨a, xs, e1, hq, hl, hw⟩ := hw
  subst e1
  cases r
  obtain ⟨its, rv, ht, hz⟩ := I.tuple hq
  refine assign_Tuple_tuple (I.ok.hd hc) ht (by simp [hn, ← hl, rv.length]) hst fun h' hx => ?_
  have I1 : Inv X pins σ H { s with heap := h' } := I.kept (t' := s.toks) fun b o e => hx b o (Nat.ne_of_lt (Heap.lt_size e)) e
  exact h pins _ σ H xs _ Q I1 (by simpa using rv) hw
/-- o[i] = .. -/
def gSub (to ti : TE) (t : TSet) : TG := fun v σ H Q => to σ H fun o H1 => ti σ H1 fun i H2 => t o i v H2 fun H3 => Q σ H3
theorem pg_sub {o i : Expr} {to ti : TE} {t : TSet} (ho : PE X o to) (hi : PE X i ti) (hs : PSet X t)
    (ha : ∀ v, assign (.Subscript o i pos) X.env v = (do
      let ov ← holding [v] (eval o X.env)
      let iv ← holding [v, ov] (eval i X.env)
      standAt pos
      holding [v, ov, iv] (setItem ov iv v)
      release [v, ov, iv] []) := by intro _; rfl) : PG X (.Subscript o i pos) (gSub to ti t) := by
  intro pins s σ H v u Q I r h
  rw [ha]
  refine wpAny_bind (wpAny_holding (thn (ho pins s σ H _ I h) fun ov s1 ⟨x, H1, I1, r1, q1⟩ => ?_))
  refine wpAny_bind (wpAny_holding (thn (hi pins s1 σ H1 _ I1 q1) fun iv s2 ⟨y, H2, I2, r2, q2⟩ => ?_))
  refine wpAny_bind (wpAny_standAt (wpAny_bind (wpAny_holding (thn (hs pins s2 σ H2 x y v ov iv u _ I2 r1 r2 r q2) fun _ s3 ⟨H3, I3, q3⟩ => ?_))))
  exact wpAny_release ⟨σ, H3, I3, q3⟩
/-- target = value -/
def tAsg (te : TE) (g : TG) : TS := fun D σ H => te σ H fun x H1 => g x σ H1 D.nx
theorem ps_asg {tg e : Expr} {te : TE} {g : TG} (he : PE X e te) (hg : PG X tg g) (hs : swapsWithSole [tg] e pos.line X.env = pure false := by rfl) (hw : swappedStores [tg] e X.env = pure none := by rfl)
    (h1 : (assignEach [tg] X.env).map (·.2) = [assign tg X.env] := by rfl) : PS X (.Assign [tg] e pos) (tAsg te g) := by
  intro pins s σ H D I h
  refine wpAny_Assign_stores (thn (he pins s σ H _ I h) fun v s1 ⟨x, H1, I1, r1, q1⟩ => ?_) hs hw
  rw [h1]
  exact thn (hg pins s1 σ H1 x v _ I1 r1 q1) fun _ s2 q => q
/-- name = value -/
theorem ps_set {i : Nat} {x : Str} {e : Expr} {te : TE} {pos' : Pos} (hN : X.N.Nodup) (hi : X.N[i]? = some x) (hx : Loc X.env.scope x) (he : PE X e te) (hs : swapsWith e (some (.Name x pos')) pos.line X.env = pure false := by rfl) (hf : X.fn x = true ∨ X.env.scope.names.lookup x = some .local := by first | exact .inl rfl | exact .inr rfl | assumption) :
    PS X (.Assign [.Name x pos'] e pos) (tAsg te (gName i)) := by
  intro pins s σ H D I h
  refine wpAny_Assign_Name (thn (he pins s σ H _ I h) fun v s1 ⟨y, H1, I1, r1, q1⟩ => ?_) hs
  exact store_ok I1 hN hi hx r1 (fun s2 I2 => ⟨_, H1, I2, q1⟩) hf
/-- a, b = x, y with plain local names: stored from the right; the pair itself is not tracked (the opening rows as in PyProof/Rows/TupAssign.lean:23) -/
def tPar (i j : Nat) (ta : TA) : TS := fun D σ H => ta σ H fun vs H1 => ∃ v w, vs = [v, w] ∧ D.nx ((σ.set i (some v)).set j (some w)) H1
/-- name op= e -/
def tAug (i : Nat) (te : TE) (ti : TIp) : TS := fun D σ H => ∃ x, σ[i]? = some (some x) ∧ te σ H fun y H1 => ti x y H1 fun z H2 => D.nx (σ.set i (some z)) H2
/-- o[i] op= e -/
def tAugS (to ti te : TE) (tget : V → V → Hp → VK → Prop) (tip : TIp) (tset : TSet) : TS := fun D σ H => to σ H fun o H1 => ti σ H1 fun i H2 => tget o i H2 fun x H3 => te σ H3 fun y H4 => tip x y H4 fun z H5 => tset o i z H5 fun H6 => D.nx σ H6
/-- o[i], by values -/
def PGet (X : Cx) (t : V → V → Hp → VK → Prop) : Prop :=
  ∀ (pins : List (Addr × Obj)) (s : Shared) (σ : St) (H : Hp) (o i : V) (ov iv : Value) (Q : VK), Inv X pins σ H s → RelV o ov → RelV i iv → t o i H Q →
    wpAny (model X.prog X.w) X.A (getItem ov iv) (EP X pins σ Q) X.xe s
/-- ints -/
def ipI (f : Int → Int → Int) : TIp := fun x y H Q => ∃ i j, x = .int i ∧ y = .int j ∧ Q (.int (f i j)) H
end

/-! ### while -/
section
variable {X : Cx} {pos : Pos}
/-- the invariant W with its measure -/
def tWhile (c : TT) (tb : TS) : TS := fun D σ H => ∃ W : Nat → St → Hp → Prop, (∃ m, W m σ H) ∧ ∀ m σ H, W m σ H →
  c σ H fun b H1 => if b = true then ∃ N : St → Hp → Prop, (∀ σ' H', N σ' H' → ∃ m', m' < m ∧ W m' σ' H') ∧ tb { D with nx := N, ct := N, bk := D.nx } σ H1 else D.nx σ H1
theorem ps_while {c : Expr} {body : List Stmt} {tc : TT} {tb : TS} (hp : PassesOwn (model X.prog X.w) X.A X.env X.xe) (hc : PT X c tc) (hb : PSs X body tb) : PS X (.While c body [] pos) (tWhile tc tb) := by
  intro pins s σ H D I h
  obtain ⟨W, ⟨m0, w0⟩, turn⟩ := h
  refine wpAny_While (codeAny_whileLoop (fun n s' => ∃ σ' H', Inv X pins σ' H' s' ∧ W n σ' H') ?_ m0 ⟨σ, H, I, w0⟩)
  rintro n s1 ⟨σ1, H1, I1, w1⟩
  refine wpAny_passesOwn hp (thn (hc pins s1 σ1 H1 _ I1 (turn n σ1 H1 w1)) fun b s2 ⟨H2, I2, q2⟩ => ?_)
  cases b with
  | true =>
    obtain ⟨N, hN, q2⟩ := q2
    rw [if_pos rfl]
    refine wpAny_passesOwn hp (thn (hb pins s2 σ1 H2 _ I2 q2) fun f s3 q3 => ?_)
    cases f with
    | next =>
      obtain ⟨σ3, H3, I3, n3⟩ := q3
      obtain ⟨m', hm, w3⟩ := hN σ3 H3 n3
      exact ⟨m', hm, σ3, H3, I3, w3⟩
    | cont =>
      obtain ⟨σ3, H3, I3, n3⟩ := q3
      obtain ⟨m', hm, w3⟩ := hN σ3 H3 n3
      exact ⟨m', hm, σ3, H3, I3, w3⟩
    | brk => exact q3
    | ret v => exact q3
  | false =>
    rw [if_neg Bool.false_ne_true]
    exact wpAny_execs_nil ⟨σ1, H2, I2, q2⟩
end

/-! ### what a loop or a comprehension walks -/
/-- at turn i: it yields x (the heap may grow), or it stops -/
structure It where
  go : Nat → Hp → Prop
  yld : Nat → Hp → V → Hp → Prop
  stop : Nat → Hp → Prop
/-- the iterator's own objects may turn: they are not the frame's, not pinned, younger than the entry (or a comprehension's own) -/
def FpOk (X : Cx) (pins : List (Addr × Obj)) (H : Hp) (b : Addr) : Prop :=
  H b = none ∧ b ≠ X.env.locals ∧ b ∉ X.fs ∧ (b ∈ X.ex ∨ X.s₀.heap.objs.size ≤ b) ∧ (∀ x c, X.env.cells.lookup x = some c → c ≠ b) ∧ ∀ p ∈ X.pn ++ pins, p.1 ≠ b
theorem Inv.fpOk {X : Cx} {pins : List (Addr × Obj)} {σ : St} {H H' : Hp} {s : Shared} {b : Addr} (I : Inv X pins σ H s) (hb : s.heap.objs.size ≤ b) (hn : H' b = none) : FpOk X pins H' b := by
  refine ⟨hn, Nat.ne_of_gt (Nat.lt_of_lt_of_le I.lt hb), I.nofs hb, .inr (Nat.le_trans I.sz hb), fun x c e z => ?_, fun p hp z => ?_⟩
  · obtain ⟨v, q⟩ := I.cell x c e
    exact absurd (Nat.lt_of_lt_of_le q.lt (by rw [z]; exact hb)) (Nat.lt_irrefl _)
  · exact absurd (Nat.lt_of_lt_of_le (Heap.lt_size (I.pin p hp).1) (by rw [z]; exact hb)) (Nat.lt_irrefl _)
structure Turn (P : Program) (w : World) (K : PySem.W.Frag) (tg : Expr) (J : It) (fp : List Addr) (it : Addr) (tn : Nat → Heap → Prop) : Prop where
  mem : it ∈ fp
  obj : ∀ i h, tn i h → ∀ b ∈ fp, ∃ o, h.get? b = some o ∧ ∀ v, o.data ≠ .cell v
  keep : ∀ i h h', tn i h → (∀ b ∈ fp, ∀ o, h.get? b = some o → h'.get? b = some o) → tn i h'
  item : ∀ (X : Cx), X.prog = P → X.w = w → X.K = K → X.calm = true → ∀ (i : Nat) (pins : List (Addr × Obj)) (s : Shared) (σ : St) (H : Hp) (E : Value → Shared → Prop), Inv X pins σ H s → (∀ b ∈ fp, FpOk X pins H b) → tn i s.heap → J.go i H →
    wpAny (model P w) X.A (pyNext (.ref it)) (fun r s1 => ∃ u, r = some u ∧
      wpAny (model P w) X.A (letOwnedTupleGo tg (.ref it) u) (fun _ s2 => ∃ x H', Inv X pins σ H' s2 ∧ RelV x u ∧ J.yld i H x H' ∧ tn (i + 1) s2.heap ∧ ∀ b ∈ fp, H' b = none) E s1) E s
  done : ∀ (X : Cx), X.prog = P → X.w = w → X.K = K → X.calm = true → ∀ (i : Nat) (pins : List (Addr × Obj)) (s : Shared) (σ : St) (H : Hp) (E : Value → Shared → Prop), Inv X pins σ H s → (∀ b ∈ fp, FpOk X pins H b) → tn i s.heap → J.stop i H →
    wpAny (model P w) X.A (pyNext (.ref it)) (fun r s1 => r = none ∧ Inv X pins σ H s1) E s
  self : ∀ (A : Around) (i : Nat) (s : Shared) (Q : Value → Shared → Prop) (E : Value → Shared → Prop), tn i s.heap → Q (.ref it) s → wpAny (model P w) A (pyIter (.ref it)) Q E s
abbrev TI := St → Hp → (It → Hp → Prop) → Prop
/-- an iterator has come -/
def PIE (X : Cx) (pins : List (Addr × Obj)) (σ : St) (tg : Expr) (R : It → Hp → Prop) (itv : Value) (s2 : Shared) : Prop :=
  ∃ (it : Addr) (fp : List Addr) (tn : Nat → Heap → Prop) (J : It) (H' : Hp), itv = .ref it ∧ Inv X pins σ H' s2 ∧ Turn X.prog X.w X.K tg J fp it tn ∧ tn 0 s2.heap ∧ (∀ b ∈ fp, FpOk X pins H' b) ∧ R J H'
def PI (X : Cx) (tg iter : Expr) (wi : TI) : Prop :=
  ∀ (pins : List (Addr × Obj)) (s : Shared) (σ : St) (H : Hp) (R : It → Hp → Prop), Inv X pins σ H s → wi σ H R →
    wpAny (model X.prog X.w) X.A (eval iter X.env) (fun v s1 => wpAny (model X.prog X.w) X.A (pyIter v) (PIE X pins σ tg R) X.xe s1) X.xe s

/-- the step ahead of the store is nothing for an iterator that keeps no tuple -/
theorem go_of {M : Model} {A : Around} {E : Value → Shared → Prop} {s : Shared} {tg : Expr} {it : Addr} {u : Value} {o : Obj} {n : String} {vs : Array Value} {Q : Unit → Shared → Prop} (ho : s.heap.get? it = some o) (hc : o.cls = .type n) (hd : o.data = .fields vs)
    (hn : ["enumerate", "zip", "dict_itemiterator", "dict_reverseitemiterator", "odict_iterator", "itertools.zip_longest", "itertools.pairwise"].contains n = false) (hQ : Q () s) : wpAny M A (letOwnedTupleGo tg (.ref it) u) Q E s := by
  unfold letOwnedTupleGo
  cases tg <;> first
    | exact wpAny_pure hQ
    | (cases u <;> first
        | exact wpAny_pure hQ
        | (refine wpAny_bind (wpAny_load ho ?_)
           rw [hc, hd]
           show wpAny M A (if (["enumerate", "zip", "dict_itemiterator", "dict_reverseitemiterator", "odict_iterator", "itertools.zip_longest", "itertools.pairwise"].contains n && vs[0]? == some (rawInt _)) = true then _ else _) Q E s
           rw [if_neg (by intro h; rw [hn, Bool.false_and] at h; cases h)]
           exact wpAny_pure hQ))

/-- the list at a, as it stands at each turn (a loop may append to it) -/
def Itl (K : PySem.W.Frag) (a : Addr) : It :=
  ⟨fun i H => ∃ xs x, SqL K H a xs ∧ xs[i]? = some x, fun i H x H' => H' = H ∧ ∀ xs, SqL K H a xs → xs[i]? = some x, fun i H => ∃ xs, SqL K H a xs ∧ xs.length ≤ i⟩
def Itt (K : PySem.W.Frag) (a : Addr) : It :=
  ⟨fun i H => ∃ xs x, SqT K H a xs ∧ xs[i]? = some x, fun i H x H' => H' = H ∧ ∀ xs, SqT K H a xs → xs[i]? = some x, fun i H => ∃ xs, SqT K H a xs ∧ xs.length ≤ i⟩
/-- lo, lo + 1, .. (n of them) -/
def Itr (lo : Int) (n : Nat) : It := ⟨fun i _ => i < n, fun i H x H' => H' = H ∧ x = .int (lo + i), fun i _ => n ≤ i⟩
theorem turn_list {P : Program} {w : World} {K : PySem.W.Frag} {tg : Expr} (a it : Addr) : Turn P w K tg (Itl K a) [it] it (fun i h => h.IsListIter it a i) where
  mem := by simp
  obj := fun i h st b hb => by
    have e : b = it := by simpa using hb
    subst e
    obtain ⟨o, e, c, d⟩ := st
    exact ⟨o, e, fun v z => by rw [d] at z; cases z⟩
  keep := fun i h h' st k => st.at fun o e => k it (by simp) o e
  item := by
    intro X hP hw hK hc i pins s σ H E I hf st hg
    subst hP hw hK
    obtain ⟨xs, x, hq, hx⟩ := hg
    obtain ⟨its, rv, p, hz⟩ := I.list hq
    obtain ⟨u, hu, ru⟩ := rv.get hx
    obtain ⟨f0, f1, f2, f3, f4, f5⟩ := hf it (by simp)
    refine wpAny_pyNext_list_item st p.isList (x := u) (by simpa using hu) fun h' st' sb => ?_
    have I1 : Inv X pins σ H { s with heap := h' } := I.turned (t' := s.toks) (fun b o hb e => (sb.2 b hb).trans e) f0 f1 f3 f4 f5
    obtain ⟨o, e, c, d⟩ := id st'
    exact ⟨u, rfl, go_of (s := { s with heap := h' }) e c d (by decide) ⟨x, H, I1, ru, ⟨rfl, fun ys hy => by rw [I.list_inj hy hq]; exact hx⟩, st', fun b hb => (hf b hb).1⟩⟩
  done := by
    intro X hP hw hK hc i pins s σ H E I hf st hg
    subst hP hw hK
    obtain ⟨xs, hq, hx⟩ := hg
    obtain ⟨its, rv, p, hz⟩ := I.list hq
    obtain ⟨f0, f1, f2, f3, f4, f5⟩ := hf it (by simp)
    have hl := rv.length
    exact wpAny_pyNext_list_end (I.ok.hd hc) st p.isList (by simp; omega) fun h' eb => ⟨rfl, I.turned (t' := s.toks) (fun b o hb e => eb b o hb e) f0 f1 f3 f4 f5⟩
  self := fun _ _ _ _ _ st h => wpAny_pyIter_listiter st h
theorem turn_tuple {P : Program} {w : World} {K : PySem.W.Frag} {tg : Expr} (a it : Addr) : Turn P w K tg (Itt K a) [it] it (fun i h => h.IsTupleIter it a i) where
  mem := by simp
  obj := fun i h st b hb => by
    have e : b = it := by simpa using hb
    subst e
    obtain ⟨o, e, c, d⟩ := st
    exact ⟨o, e, fun v z => by rw [d] at z; cases z⟩
  keep := fun i h h' st k => st.at fun o e => k it (by simp) o e
  item := by
    intro X hP hw hK hc i pins s σ H E I hf st hg
    subst hP hw hK
    obtain ⟨xs, x, hq, hx⟩ := hg
    obtain ⟨its, rv, p, hz⟩ := I.tuple hq
    obtain ⟨u, hu, ru⟩ := rv.get hx
    obtain ⟨f0, f1, f2, f3, f4, f5⟩ := hf it (by simp)
    refine wpAny_pyNext_tuple_item st (show s.heap.IsTuple a its.toArray from p) (x := u) (by simpa using hu) fun h' st' sb => ?_
    have I1 : Inv X pins σ H { s with heap := h' } := I.turned (t' := s.toks) (fun b o hb e => (sb.2 b hb).trans e) f0 f1 f3 f4 f5
    obtain ⟨o, e, c, d⟩ := id st'
    exact ⟨u, rfl, go_of (s := { s with heap := h' }) e c d (by decide) ⟨x, H, I1, ru, ⟨rfl, fun ys hy => by rw [I.tuple_inj hy hq]; exact hx⟩, st', fun b hb => (hf b hb).1⟩⟩
  done := by
    intro X hP hw hK hc i pins s σ H E I hf st hg
    subst hP hw hK
    obtain ⟨xs, hq, hx⟩ := hg
    obtain ⟨its, rv, p, hz⟩ := I.tuple hq
    obtain ⟨f0, f1, f2, f3, f4, f5⟩ := hf it (by simp)
    have hl := rv.length
    exact wpAny_pyNext_tuple_end (I.ok.hd hc) st (show s.heap.IsTuple a its.toArray from p) (by simp; omega) fun h' eb => ⟨rfl, I.turned (t' := s.toks) (fun b o hb e => eb b o hb e) f0 f1 f3 f4 f5⟩
  self := fun _ _ _ _ _ st h => wpAny_pyIter_tupleiter st h
theorem turn_range {P : Program} {w : World} {K : PySem.W.Frag} {tg : Expr} (it : Addr) (lo : Int) (n : Nat) : Turn P w K tg (Itr lo n) [it] it (fun i h => IsRangeIter h it (lo + (i : Nat) * 1) ((n : Int) - (i : Nat)) 1) where
  mem := by simp
  obj := fun i h st b hb => by
    have e : b = it := by simpa using hb
    subst e
    exact ⟨_, st, fun v z => by
      have z' : Data.fields _ = Data.cell v := z
      cases z'⟩
  keep := fun i h h' st k => k it (by simp) _ st
  item := by
    intro X hP hw hK hc i pins s σ H E I hf st hg
    subst hP hw hK
    obtain ⟨f0, f1, f2, f3, f4, f5⟩ := hf it (by simp)
    have W := Walks.range (prog := X.prog) (w := X.w) (I.ok.hd hc) it lo 1 n
    refine W.item i s _ _ hg st fun v h' tk hv st' kk => ?_
    obtain ⟨t, rfl⟩ := hv
    have I1 : Inv X pins σ H { s with heap := h', toks := tk } := I.turned (fun b o hb e => kk b o (by simpa using hb) e) f0 f1 f3 f4 f5
    refine ⟨_, rfl, go_of (s := { s with heap := h', toks := tk }) (n := "range_iterator") st' rfl rfl (by decide) ⟨.int (lo + i), H, I1, ⟨t, ?_⟩, ⟨rfl, rfl⟩, st', fun b hb => (hf b hb).1⟩⟩
    rw [Int.mul_one]
  done := by
    intro X hP hw hK hc i pins s σ H E I hf st hg
    subst hP hw hK
    obtain ⟨f0, f1, f2, f3, f4, f5⟩ := hf it (by simp)
    exact wpAny_pyNext_range_end (I.ok.hd hc) st (by have : n ≤ i := hg; omega) fun h' eb => ⟨rfl, I.turned (t' := s.toks) (fun b o hb e => eb b o hb e) f0 f1 f3 f4 f5⟩
  self := fun _ _ _ _ _ st h => wpAny_pyIter_rangeiter st h
end L2

namespace L2
open PySem PySem.Spec PyProof.Rows
section
variable {X : Cx} {tg : Expr}
def iList (K : PySem.W.Frag) (tl : TE) : TI := fun σ H R => tl σ H fun x H1 => ∃ a, x = .ref a ∧ (∃ xs, SqL K H1 a xs) ∧ R (Itl K a) H1
def iTup (K : PySem.W.Frag) (tl : TE) : TI := fun σ H R => tl σ H fun x H1 => ∃ a, x = .ref a ∧ (∃ xs, SqT K H1 a xs) ∧ R (Itt K a) H1
theorem pi_tup {l : Expr} {tl : TE} (hl : PE X l tl) : PI X tg l (iTup X.K tl) := by
  intro pins s σ H R I h
  refine thn (hl pins s σ H _ I h) fun v s1 ⟨x, H1, I1, r1, q1⟩ => ?_
  obtain ⟨a, e, ⟨xs, hq⟩, q⟩ := q1
  subst e
  cases r1
  obtain ⟨its, rv, p, hz⟩ := I1.tuple hq
  refine wpAny_pyIter_tuple (show s1.heap.IsTuple a its.toArray from p) ?_
  refine ⟨s1.heap.objs.size, [s1.heap.objs.size], _, _, H1, rfl, I1.kept (t' := s1.toks) fun b o e => Heap.get?_push_of_some _ e, turn_tuple a _, ⟨_, Heap.get?_push_size _ rfl, rfl, rfl⟩, fun b hb => ?_, q⟩
  have e : b = s1.heap.objs.size := by simpa using hb
  subst e
  exact I1.fpOk (Nat.le_refl _) (I1.hok.fresh (Nat.le_refl _))
/-- a range object just made, walked -/
theorem range_it {pins : List (Addr × Obj)} {σ : St} {H : Hp} {s : Shared} {R : It → Hp → Prop} {E : Value → Shared → Prop} {lo hi : Int} {t u v : Tok} {tk : Nat} (I : Inv X pins σ H s) (h1 : -(2 ^ 62) ≤ lo) (h2 : lo < 2 ^ 62) (h3 : -(2 ^ 62) ≤ hi) (h4 : hi < 2 ^ 62)
    (q : R (Itr lo (hi - lo).toNat) H) : wpAny (model X.prog X.w) X.A (pyIter (.ref s.heap.objs.size)) (PIE X pins σ tg R) E { s with heap := s.heap.push { cls := .type "range", data := .fields #[.int lo t, .int hi u, .int 1 v] }, toks := tk } := by
  refine wpAny_pyIter_range (IsRange.new ..) (small_one h1 h2 h3 h4) ?_
  have I1 : Inv X pins σ H { s with heap := s.heap.push { cls := .type "range", data := .fields #[.int lo t, .int hi u, .int 1 v] }, toks := tk } := I.kept fun b o e => Heap.get?_push_of_some _ e
  refine ⟨(s.heap.push { cls := .type "range", data := .fields #[.int lo t, .int hi u, .int 1 v] }).objs.size, [(s.heap.push { cls := .type "range", data := .fields #[.int lo t, .int hi u, .int 1 v] }).objs.size], _, _, H, rfl,
    I1.kept (t' := tk) fun b o e => Heap.get?_push_of_some _ e, turn_range _ lo (hi - lo).toNat, ?_, fun b hb => ?_, q⟩
  · have e1 : lo + ((0 : Nat) : Int) * 1 = lo := by simp
    have e2 : (((hi - lo).toNat : Nat) : Int) - ((0 : Nat) : Int) = Builtin.Range.rangeSize lo hi 1 := by rw [rangeSize_one]; split <;> omega
    show IsRangeIter _ _ (lo + ((0 : Nat) : Int) * 1) ((((hi - lo).toNat : Nat) : Int) - ((0 : Nat) : Int)) 1
    rw [e1, e2]
    exact Heap.get?_push_size _ rfl
  · have e : b = (s.heap.push { cls := .type "range", data := .fields #[.int lo t, .int hi u, .int 1 v] }).objs.size := by simpa using hb
    subst e
    exact I1.fpOk (Nat.le_refl _) (I1.hok.fresh (Nat.le_refl _))
def iRng1 (ta : TA) : TI := fun σ H R => ta σ H fun vs H1 => ∃ j : Int, vs = [.int j] ∧ -(2 ^ 62) ≤ j ∧ j < 2 ^ 62 ∧ R (Itr 0 j.toNat) H1
def iRng2 (ta : TA) : TI := fun σ H R => ta σ H fun vs H1 => ∃ i j : Int, vs = [.int i, .int j] ∧ (-(2 ^ 62) ≤ i ∧ i < 2 ^ 62 ∧ -(2 ^ 62) ≤ j ∧ j < 2 ^ 62) ∧ R (Itr i (j - i).toNat) H1
theorem pi_range1 {a : Expr} {ta : TA} {p pos : Pos} (hg : Gl X "range") (hm : X.mg "range" = none) (ha : PA X [a] ta) (hs : starEach [a] X.env = [(false, eval a X.env)] := by rfl) : PI X tg (.Call (.Name "range" p) [a] [] pos) (iRng1 ta) := by
  intro pins s σ H R I h
  refine Call_ (ld_blt I hg hm boot_range (PyProof.Rows.callWith_type1 (thn (ha pos pins s σ H _ I h) fun us s1 ⟨vs, H1, I1, r1, q1⟩ => ?_) hs rfl))
  obtain ⟨j, e, q1, q2, q⟩ := q1
  subst e
  cases r1 with
  | cons r rr =>
    cases rr
    obtain ⟨t, rfl⟩ := r
    exact call_range_1 (range_it I1 (by omega) (by omega) q1 q2 (by simpa using q))
/-! ### for -/
/-- W: the invariant by the turn and a measure; N: what the body is to reach -/
def tFor (wi : TI) (g : TG) (tb : TS) : TS := fun D σ H => wi σ H fun J H1 => ∃ W : Nat → Nat → St → Hp → Prop, (∃ m, W 0 m σ H1) ∧ ∀ i m σ H, W i m σ H →
  (J.stop i H ∧ D.nx σ H) ∨ (J.go i H ∧ ∃ N : St → Hp → Prop, (∀ σ' H', N σ' H' → ∃ m', m' < m ∧ W (i + 1) m' σ' H') ∧ ∀ x H', J.yld i H x H' → g x σ H' fun σ2 H2 => tb { D with nx := N, ct := N, bk := D.nx } σ2 H2)
/-- the records at fp as they stand -/
def pinsAt (fp : List Addr) (h : Heap) : List (Addr × Obj) := fp.filterMap fun b => (h.get? b).map fun o => (b, o)
theorem mem_pinsAt {fp : List Addr} {h : Heap} {b : Addr} {o : Obj} (hb : b ∈ fp) (e : h.get? b = some o) : (b, o) ∈ pinsAt fp h := List.mem_filterMap.mpr ⟨b, hb, by rw [e]; rfl⟩
theorem of_pinsAt {fp : List Addr} {h : Heap} {p : Addr × Obj} (hp : p ∈ pinsAt fp h) : p.1 ∈ fp ∧ h.get? p.1 = some p.2 := by
  obtain ⟨b, hb, e⟩ := List.mem_filterMap.mp hp
  cases q : h.get? b with
  | none => rw [q] at e; cases e
  | some o =>
    rw [q] at e
    have e' : (b, o) = p := Option.some.inj e
    subst e'
    exact ⟨hb, q⟩
theorem Inv.pinned {pins : List (Addr × Obj)} {σ : St} {H : Hp} {s : Shared} {fp : List Addr} (I : Inv X pins σ H s) (hf : ∀ b ∈ fp, FpOk X pins H b) (ho : ∀ b ∈ fp, ∃ o, s.heap.get? b = some o ∧ ∀ v, o.data ≠ .cell v) : Inv X (pins ++ pinsAt fp s.heap) σ H s :=
  I.pins_of fun p hp => (List.mem_append.mp hp).elim (fun z => I.pin p (List.mem_append_right _ z)) fun z => by
    obtain ⟨hb, e⟩ := of_pinsAt z
    obtain ⟨f0, f1, f2, _⟩ := hf p.1 hb
    obtain ⟨o, e', d⟩ := ho p.1 hb
    rw [e] at e'; cases e'
    exact ⟨e, f0, f1, f2, d⟩
theorem Inv.unpinned {pins pl : List (Addr × Obj)} {σ : St} {H : Hp} {s : Shared} (I : Inv X (pins ++ pl) σ H s) : Inv X pins σ H s := I.pins_of fun p hp => I.pin p (List.mem_append_right _ (List.mem_append_left _ hp))
theorem ps_for {iter : Expr} {body : List Stmt} {wi : TI} {g : TG} {tb : TS} {pos : Pos} (hp : PassesOwn (model X.prog X.w) X.A X.env X.xe) (hc : X.calm = true) (hi : PI X tg iter wi) (hg : PG X tg g) (hb : PSs X body tb)
    (hs : ∀ x, foldedSetIterable iter X.env x = pure x := by intro _; rfl) : PS X (.For tg iter body [] pos) (tFor wi g tb) := by
  intro pins s σ H D I h
  refine wpAny_For (thn (hi pins s σ H _ I h) fun v s1 h1 => thn h1 fun itv s2 h2 => ?_) hs
  obtain ⟨it, fp, tn, J, H2, e, I2, T, st2, f2, W, ⟨m0, w0⟩, turn⟩ := h2
  subst e
  -- what stays true of the iterator's objects through the loop
  have stat : ∀ {H' : Hp}, (∀ b ∈ fp, H' b = none) → ∀ b ∈ fp, FpOk X pins H' b := fun hn b hb => ⟨hn b hb, (f2 b hb).2⟩
  refine codeAny_forLoop_any (fun n s' => ∃ i σ' H', Inv X pins σ' H' s' ∧ tn i s'.heap ∧ (∀ b ∈ fp, H' b = none) ∧ W i n σ' H') ?_ m0 ⟨0, σ, H2, I2, st2, fun b hb => (f2 b hb).1, w0⟩
  rintro n s3 ⟨i, σ3, H3, I3, st3, fr3, w3⟩
  rcases turn i n σ3 H3 w3 with ⟨stop, qn⟩ | ⟨go, N, hN, step⟩
  · refine wpAny_passesOwn hp (thn (T.done X rfl rfl rfl hc i pins s3 σ3 H3 X.xe I3 (stat fr3) st3 stop) fun r s4 ⟨hr, I4⟩ => ?_)
    subst hr
    exact wpAny_execs_nil ⟨σ3, H3, I4, qn⟩
  · refine wpAny_passesOwn hp (thn (T.item X rfl rfl rfl hc i pins s3 σ3 H3 X.xe I3 (stat fr3) st3 go) fun r s4 ⟨u, hr, h4⟩ => ?_)
    subst hr
    refine wpAny_passesOwn hp (thn h4 fun _ s5 ⟨x, H5, I5, r5, y5, st5, fr5⟩ => ?_)
    have I5' := I5.pinned (stat fr5) (T.obj _ _ st5)
    refine wpAny_passesOwn hp (thn (hg _ s5 σ3 H5 x u _ I5' r5 (step x H5 y5)) fun _ s6 ⟨σ6, H6, I6, q6⟩ => ?_)
    refine wpAny_passesOwn hp (thn (hb _ s6 σ6 H6 _ I6 q6) fun f s7 q7 => ?_)
    have again : ∀ {σ7 : St} {H7 : Hp}, Inv X (pins ++ pinsAt fp s5.heap) σ7 H7 s7 → N σ7 H7 → ∃ m, m < n ∧ ∃ i σ' H', Inv X pins σ' H' s7 ∧ tn i s7.heap ∧ (∀ b ∈ fp, H' b = none) ∧ W i m σ' H' := fun {σ7 H7} I7 n7 => by
      obtain ⟨m', hm, w7⟩ := hN σ7 H7 n7
      refine ⟨m', hm, i + 1, σ7, H7, I7.unpinned, T.keep _ _ _ st5 fun b hb o e => (I7.pin (b, o) (List.mem_append_right _ (List.mem_append_right _ (mem_pinsAt hb e)))).1, fun b hb => ?_, w7⟩
      obtain ⟨o, e, d⟩ := T.obj _ _ st5 b hb
      exact (I7.pin (b, o) (List.mem_append_right _ (List.mem_append_right _ (mem_pinsAt hb e)))).2.1
    cases f with
    | next => obtain ⟨σ7, H7, I7, n7⟩ := q7; exact again I7 n7
    | cont => obtain ⟨σ7, H7, I7, n7⟩ := q7; exact again I7 n7
    | brk => obtain ⟨σ7, H7, I7, q7⟩ := q7; exact ⟨σ7, H7, I7.unpinned, q7⟩
    | ret v => obtain ⟨x7, σ7, H7, I7, r7, q7⟩ := q7; exact ⟨x7, σ7, H7, I7.unpinned, r7, q7⟩
end

/-! ### the forms one uses -/
end L2

namespace L2
open PySem PySem.Spec PyProof.Rows

abbrev R2 := V → V → Hp → VK → Prop
/-- a two-place operation on values: f is binaryOp op, inplaceOp op or compareOp op -/
def OpR (X : Cx) (f : Value → Value → Sem Value) (r : R2) : Prop :=
  ∀ (pins : List (Addr × Obj)) (s : Shared) (σ : St) (H : Hp) (x y : V) (v u : Value) (Q : VK), Inv X pins σ H s → RelV x v → RelV y u → r x y H Q →
    wpAny (model X.prog X.w) X.A (f v u) (EP X pins σ Q) X.xe s
/-- a one-place operation -/
def UnR (X : Cx) (f : Value → Sem Value) (r : V → Hp → VK → Prop) : Prop :=
  ∀ (pins : List (Addr × Obj)) (s : Shared) (σ : St) (H : Hp) (x : V) (v : Value) (Q : VK), Inv X pins σ H s → RelV x v → r x H Q →
    wpAny (model X.prog X.w) X.A (f v) (EP X pins σ Q) X.xe s
/-- a call of a value that is known (a builtin, a type) with values -/
def CallR (X : Cx) (f : Value) (r : List V → Hp → VK → Prop) : Prop :=
  ∀ (pins : List (Addr × Obj)) (s : Shared) (σ : St) (H : Hp) (xs : List V) (us : List Value) (Q : VK), Inv X pins σ H s → Vals xs us → r xs H Q →
    wpAny (model X.prog X.w) X.A (call f us) (EP X pins σ Q) X.xe s
/-- a value's truth -/
def TruR (X : Cx) (r : V → Hp → (Bool → Hp → Prop) → Prop) : Prop :=
  ∀ (pins : List (Addr × Obj)) (s : Shared) (σ : St) (H : Hp) (x : V) (v : Value) (Q : Bool → Hp → Prop), Inv X pins σ H s → RelV x v → r x H Q →
    wpAny (model X.prog X.w) X.A (truthy v) (TP X pins σ Q) X.xe s

def tOp (r : R2) (ta tb : TE) : TE := fun σ H Q => ta σ H fun x H1 => tb σ H1 fun y H2 => r x y H2 Q
def tUn (r : V → Hp → VK → Prop) (ta : TE) : TE := fun σ H Q => ta σ H fun x H1 => r x H1 Q
/-- ints in, under C, and a value out -/
def rI (C : Int → Int → Prop) (g : Int → Int → V) : R2 := fun x y H Q => ∃ i j, x = .int i ∧ y = .int j ∧ C i j ∧ Q (g i j) H
def rI0 (g : Int → Int → V) : R2 := fun x y H Q => ∃ i j, x = .int i ∧ y = .int j ∧ Q (g i j) H
def rU (g : Int → V) : V → Hp → VK → Prop := fun x H Q => ∃ i, x = .int i ∧ Q (g i) H

section
variable {X : Cx} {a b c : Expr} {ta tb tc : TE} {pos : Pos}

theorem binT (ha : PE X a ta) (hb : PE X b tb) {pins : List (Addr × Obj)} {s : Shared} {σ : St} {H : Hp} {R : V → V → Hp → Prop} (I : Inv X pins σ H s)
    (h : ta σ H fun x H1 => tb σ H1 fun y H2 => R x y H2) {Q : Value → Shared → Prop} {f : Value → Value → Sem Value}
    (hf : ∀ v u s2 x y H2, Inv X pins σ H2 s2 → RelV x v → RelV y u → R x y H2 → wpAny (model X.prog X.w) X.A (f v u) Q X.xe s2) :
    wpAny (model X.prog X.w) X.A (eval a X.env) (fun v s₁ => wpAny (model X.prog X.w) X.A (eval b X.env) (fun u s₂ => wpAny (model X.prog X.w) X.A (f v u) Q X.xe s₂) X.xe s₁) X.xe s := by
  refine thn (ha pins s σ H _ I h) fun v s1 ⟨x, H1, I1, r1, q1⟩ => ?_
  refine thn (hb pins s1 σ H1 _ I1 q1) fun u s2 ⟨y, H2, I2, r2, q2⟩ => ?_
  exact hf v u s2 x y H2 I2 r1 r2 q2

theorem pe_op {op : Operator} {r : R2} (ho : OpR X (binaryOp op) r) (ha : PE X a ta) (hb : PE X b tb) : PE X (.BinOp a op b pos) (tOp r ta tb) := by
  intro pins s σ H Q I h
  exact wpAny_BinOp (binT ha hb I h fun v u s2 x y H2 I2 rx ry q => ho pins s2 σ H2 x y v u Q I2 rx ry q)
theorem pe_un {op : UnaryOp} {r : V → Hp → VK → Prop} (ho : UnR X (unaryOp op) r) (ha : PE X a ta) : PE X (.UnaryOp op a pos) (tUn r ta) := by
  intro pins s σ H Q I h
  exact UnaryOp_ (thn (ha pins s σ H _ I h) fun v s1 ⟨x, H1, I1, r1, q1⟩ => ho pins s1 σ H1 x v Q I1 r1 q1)
/-! ### ints -/
theorem opI {f : Value → Value → Sem Value} {C : Int → Int → Prop} {g : Int → Int → Int}
    (rule : ∀ (i j : Int) (t u : Tok) (s : Shared) (Q : Value → Shared → Prop) (E : Value → Shared → Prop), C i j → Q (.int (g i j) s.toks) { s with toks := s.toks + 1 } → wpAny (model X.prog X.w) X.A (f (.int i t) (.int j u)) Q E s) :
    OpR X f (rI C fun i j => .int (g i j)) := by
  intro pins s σ H x y v u Q I rx ry h
  obtain ⟨i, j, rfl, rfl, hc, q⟩ := h
  obtain ⟨t, rfl⟩ := rx
  obtain ⟨t', rfl⟩ := ry
  exact rule i j t t' s _ _ hc ⟨.int (g i j), H, I.tok _, ⟨_, rfl⟩, q⟩
theorem opI0 {f : Value → Value → Sem Value} {g : Int → Int → Int}
    (rule : ∀ (i j : Int) (t u : Tok) (s : Shared) (Q : Value → Shared → Prop) (E : Value → Shared → Prop), Q (.int (g i j) s.toks) { s with toks := s.toks + 1 } → wpAny (model X.prog X.w) X.A (f (.int i t) (.int j u)) Q E s) :
    OpR X f (rI0 fun i j => .int (g i j)) := by
  intro pins s σ H x y v u Q I rx ry h
  obtain ⟨i, j, rfl, rfl, q⟩ := h
  obtain ⟨t, rfl⟩ := rx
  obtain ⟨t', rfl⟩ := ry
  exact rule i j t t' s _ _ ⟨.int (g i j), H, I.tok _, ⟨_, rfl⟩, q⟩
theorem opB0 {f : Value → Value → Sem Value} {g : Int → Int → Bool}
    (rule : ∀ (i j : Int) (t u : Tok) (s : Shared) (Q : Value → Shared → Prop) (E : Value → Shared → Prop), Q (.bool (g i j)) s → wpAny (model X.prog X.w) X.A (f (.int i t) (.int j u)) Q E s) :
    OpR X f (rI0 fun i j => .bl (g i j)) := by
  intro pins s σ H x y v u Q I rx ry h
  obtain ⟨i, j, rfl, rfl, q⟩ := h
  obtain ⟨t, rfl⟩ := rx
  obtain ⟨t', rfl⟩ := ry
  exact rule i j t t' s _ _ ⟨.bl (g i j), H, I, rfl, q⟩

def CDiv (i j : Int) : Prop := 0 < j ∧ j < 1073741824
def CDivN (i j : Int) : Prop := j ≠ 0 ∧ j.natAbs < 1073741824
def CPow (i j : Int) : Prop := 0 ≤ j ∧ j ≤ 1000000 ∧ i.natAbs < 2 ^ 64
def CMul (i j : Int) : Prop := (-(2 ^ 64) < i ∧ i < 2 ^ 64) ∨ (-(2 ^ 64) < j ∧ j < 2 ^ 64)
theorem CMul.ok {i j : Int} (h : CMul i j) : IntMulOk i j := by
  rcases h with ⟨h1, h2⟩ | ⟨h1, h2⟩
  · exact .of_left (intBits_le_64 h1 h2)
  · exact .of_right (intBits_le_64 h1 h2)
theorem op_add : OpR X (binaryOp .Add) (rI0 fun i j => .int (i + j)) := opI0 fun _ _ _ _ _ _ _ q => add_int q
theorem op_sub : OpR X (binaryOp .Sub) (rI0 fun i j => .int (i - j)) := opI0 fun _ _ _ _ _ _ _ q => sub_int q
theorem op_modN : OpR X (binaryOp .Mod) (rI (fun _ j => j ≠ 0) fun i j => .int (i.fmod j)) := opI fun _ _ _ _ _ _ _ hc q => mod_int' hc q
theorem op_pow : OpR X (binaryOp .Pow) (rI CPow fun i j => .int (i ^ j.toNat)) := opI fun _ _ _ _ _ _ _ hc q => pow_int_small hc.1 hc.2.1 hc.2.2 q
theorem unI {f : Value → Sem Value} {g : Int → Int}
    (rule : ∀ (i : Int) (t : Tok) (s : Shared) (Q : Value → Shared → Prop) (E : Value → Shared → Prop), Q (.int (g i) s.toks) { s with toks := s.toks + 1 } → wpAny (model X.prog X.w) X.A (f (.int i t)) Q E s) :
    UnR X f (rU fun i => .int (g i)) := by
  intro pins s σ H x v Q I rx h
  obtain ⟨i, rfl, q⟩ := h
  obtain ⟨t, rfl⟩ := rx
  exact rule i t s _ _ ⟨.int (g i), H, I.tok _, ⟨_, rfl⟩, q⟩
theorem un_neg : UnR X (unaryOp .USub) (rU fun i => .int (-i)) := unI fun _ _ _ _ _ q => neg_int q
/-! ### bools among ints: n += (a < b) -/
end

/-! ### comparisons -/
/-- the scalars that == tells apart as data does -/
def scal : V → V → Bool
  | .non, .non => true | .non, .int _ => true | .int _, .non => true | .non, .bl _ => true | .bl _, .non => true | .non, .str _ => true | .str _, .non => true
  | .int _, .int _ => true | .bl _, .bl _ => true | .str _, .str _ => true | .byt _, .byt _ => true
  | .int _, .str _ => true | .str _, .int _ => true | .bl _, .str _ => true | .str _, .bl _ => true
  | _, _ => false
def rEq : R2 := fun x y H Q => scal x y = true ∧ Q (.bl (decide (x = y))) H
def rNe : R2 := fun x y H Q => scal x y = true ∧ Q (.bl (!decide (x = y))) H

theorem dec_int {i j : Int} : decide (V.int i = V.int j) = (i == j) := by
  rw [Bool.eq_iff_iff]
  simp
theorem dec_bl {i j : Bool} : decide (V.bl i = V.bl j) = (i == j) := by
  rw [Bool.eq_iff_iff]
  simp
theorem dec_str {i j : Str} : decide (V.str i = V.str j) = (i == j) := by
  rw [Bool.eq_iff_iff]
  simp
theorem dec_byt {i j : Array UInt8} : decide (V.byt i = V.byt j) = (i.toList == j.toList) := by
  rw [Bool.eq_iff_iff]
  cases i
  cases j
  simp

section
variable {X : Cx} {a b c : Expr} {ta tb tc : TE} {pos : Pos}
theorem fin_bl {pins : List (Addr × Obj)} {σ : St} {H : Hp} {s : Shared} {Q : VK} {k k' : Bool} (I : Inv X pins σ H s) (q : Q (.bl k) H) (e : k = k') : EP X pins σ Q (.bool k') s := by
  subst e
  exact ⟨.bl k, H, I, rfl, q⟩
theorem op_eq : OpR X (compareOp .Eq) rEq := by
  intro pins s σ H x y v u Q I rx ry h
  obtain ⟨hs, q⟩ := h
  cases x with
  | non =>
    cases rx
    cases y with
    | non => cases ry; exact PySem.EqNone.eq_none_none (fin_bl I q (by simp))
    | bl j => cases ry; exact PySem.EqNone.eq_none_bool (fin_bl I q (by simp))
    | int j => obtain ⟨t', rfl⟩ := ry; exact PySem.EqNone.eq_none_int (fin_bl I q (by simp))
    | str j => obtain ⟨t', rfl⟩ := ry; exact PySem.EqNone.eq_none_str (fin_bl I q (by simp))
    | _ => exact absurd (show false = true from hs) Bool.false_ne_true
  | bl i =>
    cases rx
    cases y with
    | non => cases ry; exact PySem.EqNone.eq_bool_none (fin_bl I q (by simp))
    | bl j => cases ry; exact eq_bool (fin_bl I q dec_bl)
    | str j => obtain ⟨t', rfl⟩ := ry; exact PySem.EqMixed.eq_bool_str (fin_bl I q (by simp))
    | _ => exact absurd (show false = true from hs) Bool.false_ne_true
  | int i =>
    obtain ⟨t, rfl⟩ := rx
    cases y with
    | non => cases ry; exact PySem.EqNone.eq_int_none (fin_bl I q (by simp))
    | int j => obtain ⟨t', rfl⟩ := ry; exact eq_int (fin_bl I q dec_int)
    | str j => obtain ⟨t', rfl⟩ := ry; exact PySem.EqMixed.eq_int_str (fin_bl I q (by simp))
    | _ => exact absurd (show false = true from hs) Bool.false_ne_true
  | str i =>
    obtain ⟨t, rfl⟩ := rx
    cases y with
    | non => cases ry; exact PySem.EqNone.eq_str_none (fin_bl I q (by simp))
    | bl j => cases ry; exact PySem.EqMixed.eq_str_bool (fin_bl I q (by simp))
    | int j => obtain ⟨t', rfl⟩ := ry; exact PySem.EqMixed.eq_str_int (fin_bl I q (by simp))
    | str j => obtain ⟨t', rfl⟩ := ry; exact eq_str (fin_bl I q dec_str)
    | _ => exact absurd (show false = true from hs) Bool.false_ne_true
  | byt i =>
    obtain ⟨t, rfl⟩ := rx
    cases y with
    | byt j => obtain ⟨t', rfl⟩ := ry; exact PySem.W.eq_bytes (fin_bl I q dec_byt)
    | _ => exact absurd (show false = true from hs) Bool.false_ne_true
  | _ => cases y <;> exact absurd (show false = true from hs) Bool.false_ne_true
theorem op_ne : OpR X (compareOp .NotEq) rNe := by
  intro pins s σ H x y v u Q I rx ry h
  obtain ⟨hs, q⟩ := h
  cases x with
  | non =>
    cases rx
    cases y with
    | non => cases ry; exact PySem.EqNone.ne_none_none (fin_bl I q (by simp))
    | bl j => cases ry; exact PySem.EqNone.ne_none_bool (fin_bl I q (by simp))
    | int j => obtain ⟨t', rfl⟩ := ry; exact PySem.EqNone.ne_none_int (fin_bl I q (by simp))
    | str j => obtain ⟨t', rfl⟩ := ry; exact PySem.EqNone.ne_none_str (fin_bl I q (by simp))
    | _ => exact absurd (show false = true from hs) Bool.false_ne_true
  | bl i =>
    cases rx
    cases y with
    | non => cases ry; exact PySem.EqNone.ne_bool_none (fin_bl I q (by simp))
    | bl j => cases ry; exact ne_bool (fin_bl I q (congrArg not dec_bl))
    | str j => obtain ⟨t', rfl⟩ := ry; exact PySem.EqMixed.ne_bool_str (fin_bl I q (by simp))
    | _ => exact absurd (show false = true from hs) Bool.false_ne_true
  | int i =>
    obtain ⟨t, rfl⟩ := rx
    cases y with
    | non => cases ry; exact PySem.EqNone.ne_int_none (fin_bl I q (by simp))
    | int j => obtain ⟨t', rfl⟩ := ry; exact ne_int (fin_bl I q (congrArg not dec_int))
    | str j => obtain ⟨t', rfl⟩ := ry; exact PySem.EqMixed.ne_int_str (fin_bl I q (by simp))
    | _ => exact absurd (show false = true from hs) Bool.false_ne_true
  | str i =>
    obtain ⟨t, rfl⟩ := rx
    cases y with
    | non => cases ry; exact PySem.EqNone.ne_str_none (fin_bl I q (by simp))
    | bl j => cases ry; exact PySem.EqMixed.ne_str_bool (fin_bl I q (by simp))
    | int j => obtain ⟨t', rfl⟩ := ry; exact PySem.EqMixed.ne_str_int (fin_bl I q (by simp))
    | str j => obtain ⟨t', rfl⟩ := ry; exact ne_str (fin_bl I q (congrArg not dec_str))
    | _ => exact absurd (show false = true from hs) Bool.false_ne_true
  | byt i =>
    obtain ⟨t, rfl⟩ := rx
    cases y with
    | byt j => obtain ⟨t', rfl⟩ := ry; exact PySem.W.ne_bytes (fin_bl I q (congrArg not dec_byt))
    | _ => exact absurd (show false = true from hs) Bool.false_ne_true
  | _ => cases y <;> exact absurd (show false = true from hs) Bool.false_ne_true

theorem op_lt : OpR X (compareOp .Lt) (rI0 fun i j => .bl (decide (i < j))) := opB0 fun _ _ _ _ _ _ _ q => lt_int q
theorem op_gt : OpR X (compareOp .Gt) (rI0 fun i j => .bl (decide (j < i))) := opB0 fun _ _ _ _ _ _ _ q => gt_int q
theorem op_ge : OpR X (compareOp .GtE) (rI0 fun i j => .bl (decide (j ≤ i))) := opB0 fun _ _ _ _ _ _ _ q => ge_int q
/-- is, is not of two objects that are tracked lists or instances -/
def isObj : HO → Bool
  | .lst _ => true
  | .ins _ _ _ => true
  | _ => false
/-- two rules for one operation: by cases -/
theorem OpR.or {f : Value → Value → Sem Value} {r r' : R2} (h : OpR X f r) (h' : OpR X f r') : OpR X f (fun x y H Q => r x y H Q ∨ r' x y H Q) := by
  intro pins s σ H x y v u Q I rx ry q
  rcases q with q | q
  · exact h pins s σ H x y v u Q I rx ry q
  · exact h' pins s σ H x y v u Q I rx ry q

theorem nomark (b : Expr) {op : CmpOp} (h : op ≠ .In := by decide) (h2 : op ≠ .NotIn := by decide) : behindInMarks op b = false := by
  have e1 : (op == CmpOp.In) = false := by cases op <;> first | rfl | exact absurd rfl h
  have e2 : (op == CmpOp.NotIn) = false := by cases op <;> first | rfl | exact absurd rfl h2
  cases b <;> simp [behindInMarks, e1, e2]
/-- a comparison as a value; hm: nomark b, or (for in, not in) by with_unfolding_all rfl -/
theorem pe_cmpR {op : CmpOp} {r : R2} (ho : OpR X (compareOp op) r) (ha : PE X a ta) (hb : PE X b tb) (hm : behindInMarks op b = false) : PE X (.Compare a [op] [b] pos) (tOp r ta tb) := by
  intro pins s σ H Q I h
  exact wpAny_Compare1 (binT ha hb I h fun v u s2 x y H2 I2 rx ry q => ho pins s2 σ H2 x y v u Q I2 rx ry q) hm
/-- a reading of a value as a test -/
def tTest (t : TE) : TT := fun σ H Q => t σ H fun x H' => ∃ k, x = .bl k ∧ Q k H'
theorem pt_cmpR {op : CmpOp} {r : R2} (ho : OpR X (compareOp op) r) (ha : PE X a ta) (hb : PE X b tb) (hm : behindInMarks op b = false) : PT X (.Compare a [op] [b] pos) (tTest (tOp r ta tb)) := by
  intro pins s σ H Q I h
  refine wpAny_isTrue_Compare1 (thn (ha pins s σ H _ I h) fun v s1 ⟨x, H1, I1, r1, q1⟩ => thn (hb pins s1 σ H1 _ I1 q1) fun u s2 ⟨y, H2, I2, r2, q2⟩ =>
    thn (ho pins s2 σ H2 x y v u _ I2 r1 r2 q2) fun c s3 ⟨z, H3, I3, r3, k, e, q3⟩ => ?_) hm
  subst e
  cases r3
  exact wpAny_truthy_bool ⟨H3, I3, q3⟩
/-- a op1 b op2 c -/
def tChain (r r' : R2) (ta tb tc : TE) : TE := fun σ H Q => ta σ H fun x H1 => tb σ H1 fun y H2 => r x y H2 fun z H3 => ∃ k, z = .bl k ∧
  (if k = true then tc σ H3 fun w' H4 => r' y w' H4 Q else Q (.bl false) H3)
/-! ### truth -/
/-- a value's truth by the abstract heap -/
def TruV (K : PySem.W.Frag) (x : V) (H : Hp) (k : Bool) : Prop :=
  match x with
  | .non => k = false
  | .bl b => k = b
  | .int i => k = (i != 0)
  | .str y => y.length ≤ sizeLine ∧ k = ((y.length : Int) != 0)
  | .byt y => y.size ≤ sizeLine ∧ k = ((y.size : Int) != 0)
  | .ref p => (∃ xs, SqL K H p xs ∧ k = !xs.isEmpty) ∨ (∃ xs, SqT K H p xs ∧ k = !xs.isEmpty) ∨ ∃ kvs, H p = some (.dK kvs) ∧ k = !kvs.isEmpty
  | _ => False
theorem line63 : (sizeLine : Nat) < 2 ^ 63 := by rw [sizeLine_eq]; decide
/-! ### strs and bytes -/
theorem op_add_str : OpR X (binaryOp .Add) (fun x y H Q => ∃ i j, x = .str i ∧ y = .str j ∧ i.length + j.length ≤ sizeLine ∧ Q (.str (i ++ j)) H) := by
  intro pins s σ H x y v u Q I rx ry h
  obtain ⟨i, j, rfl, rfl, hz, q⟩ := h
  obtain ⟨t, rfl⟩ := rx
  obtain ⟨t', rfl⟩ := ry
  exact add_str (fun t' tk => ⟨.str (i ++ j), H, I.tok _, ⟨_, rfl⟩, q⟩) hz
def PlainIxT (b : Expr) : Prop := ∀ o i, subscripted b false o i = operate [o, i] (getItem o i)
/-! ### scalar builtins, by CallR -/
theorem vals1 {x : V} {us : List Value} (r : Vals [x] us) : ∃ u, us = [u] ∧ RelV x u := by
  cases r with
  | cons r1 r2 => cases r2; exact ⟨_, rfl, r1⟩
theorem vals2 {x y : V} {us : List Value} (r : Vals [x, y] us) : ∃ u w', us = [u, w'] ∧ RelV x u ∧ RelV y w' := by
  cases r with
  | cons r1 r2 =>
    cases r2 with
    | cons r3 r4 => cases r4; exact ⟨_, _, rfl, r1, r3⟩
theorem call_min2 (hc : X.calm = true) : CallR X (.builtin "min") (fun xs H Q => ∃ i j, xs = [.int i, .int j] ∧ Q (.int (if j < i then j else i)) H) := by
  intro pins s σ H xs us Q I r h
  obtain ⟨i, j, rfl, q⟩ := h
  obtain ⟨u, w', rfl, ⟨t, rfl⟩, ⟨t', rfl⟩⟩ := vals2 r
  refine min_two_ints (I.ok.hd hc) fun h' tk k => ⟨_, H, I.kept k, ?_, q⟩
  by_cases hj : j < i
  · rw [if_pos hj, if_pos hj]; exact ⟨_, rfl⟩
  · rw [if_neg hj, if_neg hj]; exact ⟨_, rfl⟩
/-- len of a str, a bytes, a list, a tuple -/
def LenV (K : PySem.W.Frag) (x : V) (H : Hp) (n : Nat) : Prop :=
  match x with
  | .str y => y.length ≤ sizeLine ∧ n = y.length
  | .byt y => y.size ≤ sizeLine ∧ n = y.size
  | .ref p => (∃ xs, SqL K H p xs ∧ n = xs.length) ∨ ∃ xs, SqT K H p xs ∧ n = xs.length
  | _ => False
end
end L2

namespace L2
open PySem PySem.Spec PyProof.Rows

/-! ### an instance, its attributes a map -/
structure ObjM (h : Heap) (x dx C : Addr) (mA : Str → Option Value) : Prop where
  obj : h.get? x = some (PySem.W.instObj C dx)
  ns : h.Ns1 dx mA
  ne : dx ≠ x

theorem lookIn_ns {h : Heap} {dx : Addr} {mA : Str → Option Value} (n : h.Ns1 dx mA) : ∃ od, h.get? dx = some od ∧ ∀ name, PySem.W.lookIn name od = some (mA name) := by
  obtain ⟨o, es, ep, ho, hd, hk, _, hm⟩ := n
  refine ⟨o, ho, fun name => ?_⟩
  have e := hm name
  unfold nsFind findBy at e
  rw [← Array.find?_toList] at e
  unfold PySem.W.lookIn
  rw [hd]
  dsimp only
  split
  · rename_i y q
    rw [q] at e
    exact congrArg some e
  · rename_i q
    rw [q] at e
    have a : es.toList.any (·.refKey) = false := by
      rw [List.any_eq_false]
      intro y hy
      obtain ⟨z, t, hkey⟩ := hk y (Array.mem_toList_iff.mp hy)
      simp [DictEntry.refKey, hkey]
    have a' : ¬ es.toList.any (·.refKey) = true := by rw [a]; exact Bool.false_ne_true
    rw [if_neg a']
    exact congrArg some e

theorem ObjM.look {h : Heap} {x dx C : Addr} {mA : Str → Option Value} (I : ObjM h x dx C mA) : ∃ od, PySem.W.InstAt h x (PySem.W.instObj C dx) C (some od) ∧ ∀ name, PySem.W.lookIn name od = some (mA name) :=
  let ⟨od, ho, hl⟩ := lookIn_ns I.ns
  ⟨od, ⟨I.obj, rfl, rfl, ho⟩, hl⟩

section
variable {prog : Program} {w : World} {A : Around} {E : Value → Shared → Prop} {s : Shared} {K : PySem.W.Frag} {x dx C f : Addr} {mA : Str → Option Value} {name : Str} {v : Value}

end

/-! ### the attributes as a list of pairs -/
def putF (f : Str) (v : V) : List (Str × V) → List (Str × V)
  | [] => [(f, v)]
  | (g, x) :: r => if g = f then (g, v) :: r else (g, x) :: putF f v r
section
variable {P : Program} {w : World} {H H' : Hp} {h h' : Heap} {a C dx : Addr} {fs fs' : List (Str × V)}
theorem ins_get (hok : HOk P w H h) (e : H a = some (.ins C dx fs)) : ∃ mA, ObjM h a dx C mA ∧ (∀ f, RelO (fs.lookup f) (mA f)) ∧ PySem.Within mA (fs.map (·.1)) ∧ fs.length ≤ 1000 ∧ H dx = some (.own a) := by
  obtain ⟨d, z, ne, ob, mA, n, r, q⟩ := (show ObjOk P w H h a (.ins C dx fs) from hok a _ e)
  exact ⟨mA, ⟨ob, n, ne⟩, r, q, z, d⟩
end

/-! ### what of the text a class must have -/
structure Cls (K : PySem.W.Frag) (C : Addr) : Prop where
  pg : PySem.W.plainGet K C Str.empty = true
  hd : PySem.W.hasDictIn K C = true
  po : PySem.W.plainOver K C = true
  sa : PySem.W.findIn K (.ref C) "__setattr__" = some (some (.builtin "object.__setattr__"))
theorem Cls.get {K : PySem.W.Frag} {C : Addr} (c : Cls K C) (f : Str) : PySem.W.plainGet K C f = true := c.pg
/-- no class of it has the name -/
def NoAttr (K : PySem.W.Frag) (C : Addr) (f : Str) : Prop := PySem.W.findIn K (.ref C) f = some none
/-- a constant of the class -/
structure Con (K : PySem.W.Frag) (C : Addr) (f : Str) (v : V) (u : Value) : Prop where
  at_ : PySem.W.findIn K (.ref C) f = some (some u)
  rel : RelV v u
  get : PySem.W.specialIn K u "__get__" = some none
  cp : PySem.W.copiedNames.contains f = false
/-- a method: a plain def of the class or of one above it -/
structure Meth (K : PySem.W.Frag) (C : Addr) (m : Str) (f : Addr) : Prop where
  at_ : PySem.W.findIn K (.ref C) m = some (some (.ref f))
  fn : PySem.W.isFn K (.ref f) = true
  kp : PySem.W.keepIn K (.ref f) = true

section
variable {X : Cx} {pins : List (Addr × Obj)} {σ : St} {H : Hp} {s : Shared} {a C dx : Addr} {fs : List (Str × V)} {f : Str} {v : V} {A : Around} {E : Value → Shared → Prop}

end

/-! ### readings and rules -/
/-- e.f, an attribute of the instance -/
def tFld (K : PySem.W.Frag) (ta : TE) (f : Str) : TE := fun σ H Q => ta σ H fun x H1 => ∃ a C dx fs v, x = .ref a ∧ H1 a = some (.ins C dx fs) ∧ Cls K C ∧ NoAttr K C f ∧ fs.lookup f = some v ∧ Q v H1
/-- e.f, a constant of the class -/
def tCon (K : PySem.W.Frag) (ta : TE) (f : Str) : TE := fun σ H Q => ta σ H fun x H1 => ∃ a C dx fs v u, x = .ref a ∧ H1 a = some (.ins C dx fs) ∧ Cls K C ∧ Con K C f v u ∧ fs.lookup f = none ∧ Q v H1
/-- e.f = value -/
def sFld (K : PySem.W.Frag) (ta tv : TE) (f : Str) : TS := fun D σ H => tv σ H fun y H1 => ta σ H1 fun x H2 => ∃ a C dx fs, x = .ref a ∧ H2 a = some (.ins C dx fs) ∧ Cls K C ∧ NoAttr K C f ∧ fs.length < 1000 ∧
  D.nx σ (upd H2 a (.ins C dx (putF f y fs)))
/-- an augmented operator on two values -/
def InOp (X : Cx) (op : Operator) (rd : V → V → Hp → VK → Prop) : Prop :=
  ∀ (pins : List (Addr × Obj)) (s : Shared) (σ : St) (H : Hp) (x y : V) (u v : Value) (Q : VK), Inv X pins σ H s → RelV x u → RelV y v → rd x y H Q → wpAny (model X.prog X.w) X.A (inplaceOp op u v) (EP X pins σ Q) X.xe s
/-- e.f op= value -/
def sFldAug (K : PySem.W.Frag) (ta tv : TE) (rd : V → V → Hp → VK → Prop) (f : Str) : TS := fun D σ H => ta σ H fun x H1 => ∃ a C dx fs v, x = .ref a ∧ H1 a = some (.ins C dx fs) ∧ Cls K C ∧ NoAttr K C f ∧ fs.lookup f = some v ∧
  tv σ H1 fun y H2 => rd v y H2 fun z H3 => ∃ dx' fs', H3 a = some (.ins C dx' fs') ∧ fs'.length < 1000 ∧ D.nx σ (upd H3 a (.ins C dx' (putF f z fs')))

section
variable {X : Cx} {o e value : Expr} {f : Str} {pos pos' tpos : Pos} {ta tv : TE}
def rAdd : V → V → Hp → VK → Prop := fun x y H Q => ∃ i j, x = .int i ∧ y = .int j ∧ Q (.int (i + j)) H
def rSub : V → V → Hp → VK → Prop := fun x y H Q => ∃ i j, x = .int i ∧ y = .int j ∧ Q (.int (i - j)) H
end

/-! ### isinstance -/
section
variable {X : Cx} {pins : List (Addr × Obj)} {σ : St} {H : Hp} {s : Shared} {A : Around} {E : Value → Shared → Prop} {Q : Value → Shared → Prop} {c : Value} {b : Bool}
/-- the type of a value, as the fragment's deciders take it; for an instance its class -/
inductive TyOf (K : PySem.W.Frag) (H : Hp) : V → Value → Prop where
  | non : TyOf K H .non (.type "NoneType")
  | bl (x : Bool) : TyOf K H (.bl x) (.type "bool")
  | int (i : Int) : TyOf K H (.int i) (.type "int")
  | str (x : Str) : TyOf K H (.str x) (.type "str")
  | flt (x : UInt64) : TyOf K H (.flt x) (.type "float")
  | lst {a : Addr} {xs : List V} (e : H a = some (.lst xs)) : TyOf K H (.ref a) (.type "list")
  | frz {a : Addr} {o : Obj} {xs : List V} (e : H a = some (.frz o (.lst xs))) : TyOf K H (.ref a) (.type "list")
  | tup {a : Addr} {xs : List V} (e : H a = some (.tup xs)) : TyOf K H (.ref a) (.type "tuple")
  | dK {a : Addr} {kvs : List (Key × V)} (e : H a = some (.dK kvs)) : TyOf K H (.ref a) (.type "dict")
  | dT {a : Addr} {kvs : List (List Key × V)} (e : H a = some (.dT kvs)) : TyOf K H (.ref a) (.type "dict")
  | ins {a C dx : Addr} {fs : List (Str × V)} (e : H a = some (.ins C dx fs)) (cl : Cls K C) (ha : PySem.W.findIn K (.ref C) "__class__" = some (some (.builtin "object.__class__")))
      (hn : PySem.W.specialIn K (.builtin "object.__class__") "__get__" = some (some (.builtin "getset_descriptor.__get__"))) (htk : PySem.W.takesIn K (.builtin "object.__class__") = some true)
      (hm : PySem.W.mroIn K C (.type "object") = some true) : TyOf K H (.ref a) (.ref C)
/-- isinstance(x, c) for one class c, a built-in or an own one: kitOne's answer -/
theorem isinst_ok {x : V} {u t : Value} (I : Inv X pins σ H s) (rx : RelV x u) (ty : TyOf X.K H x t) (e : PySem.W.kitOne X.K t c = some b) (h : ∀ tk, Q (.bool b) { s with toks := tk }) :
    wpAny (model X.prog X.w) A (call (.builtin "isinstance") [u, c]) Q E s := by
  cases ty with
  | non => cases (show u = Value.none from rx); exact PySem.W.kia_one PySem.W.kitx_none I.kIn True.intro e (fun z => nomatch z) h
  | bl y => cases (show u = Value.bool y from rx); exact PySem.W.kia_one PySem.W.kitx_bool I.kIn True.intro e (fun z => nomatch z) h
  | int i => obtain ⟨t, q⟩ := (show ∃ t, u = Value.int i t from rx); cases q; exact PySem.W.kia_one PySem.W.kitx_int I.kIn True.intro e (fun z => nomatch z) h
  | str y => obtain ⟨t, q⟩ := (show ∃ t, u = Value.str y t from rx); cases q; exact PySem.W.kia_one PySem.W.kitx_str I.kIn True.intro e (fun z => nomatch z) h
  | flt y => obtain ⟨t, q⟩ := (show ∃ t, u = Value.float y t from rx); cases q; exact PySem.W.kia_one PySem.W.kitx_float I.kIn True.intro e (fun z => nomatch z) h
  | @lst a xs ea =>
    cases (show u = Value.ref a from rx)
    obtain ⟨_, _, n, _, h1⟩ := (show ObjOk X.prog X.w H s.heap a (.lst xs) from I.hok a _ ea)
    exact PySem.W.kia_one PySem.W.kitx_list I.kIn ⟨_, h1, rfl⟩ e (fun z => nomatch z) h
  | @frz a ob xs ea =>
    cases (show u = Value.ref a from rx)
    obtain ⟨_, _, _, n, _, h1⟩ := (show ObjOk X.prog X.w H s.heap a (.frz ob (.lst xs)) from I.hok a _ ea)
    exact PySem.W.kia_one PySem.W.kitx_list I.kIn ⟨_, h1, rfl⟩ e (fun z => nomatch z) h
  | @tup a xs ea =>
    cases (show u = Value.ref a from rx)
    obtain ⟨_, _, _, p⟩ := (show ObjOk X.prog X.w H s.heap a (.tup xs) from I.hok a _ ea)
    obtain ⟨o, h1, h2, _⟩ := p
    exact PySem.W.kia_one PySem.W.kitx_tuple I.kIn ⟨o, h1, h2⟩ e (fun z => nomatch z) h
  | @dK a kvs ea =>
    cases (show u = Value.ref a from rx)
    obtain ⟨_, _, vs, _, p⟩ := (show ObjOk X.prog X.w H s.heap a (.dK kvs) from I.hok a _ ea)
    obtain ⟨o, es, ep, h1, h2, _⟩ := p
    exact PySem.W.kia_one PySem.W.kitx_dict I.kIn ⟨o, h1, h2.1⟩ e (fun z => nomatch z) h
  | @dT a kvs ea =>
    cases (show u = Value.ref a from rx)
    obtain ⟨_, _, xs, _, o, es, ep, h1, h2, _⟩ := (show ObjOk X.prog X.w H s.heap a (.dT kvs) from I.hok a _ ea)
    exact PySem.W.kia_one PySem.W.kitx_dict I.kIn ⟨o, h1, h2.1⟩ e (fun z => nomatch z) h
  | @ins a C dx fs ea cl ha hn htk hm =>
    cases (show u = Value.ref a from rx)
    obtain ⟨mA, O, _⟩ := ins_get I.hok ea
    obtain ⟨od, J, _⟩ := O.look
    exact PySem.W.kia_one (PySem.W.kitx_own (cl.get _) cl.hd ha hn htk hm) I.kIn J e (fun z => nomatch z) h
end
end L2

namespace L2
open PySem PySem.Spec PyProof.Rows

/-! ### room -/
structure Room (k : Nat) (A : Around) : Prop where
  hd : A.handled = none
  dp : A.depth + 3 * k + 5 < recursionLimit
  un : A.units + 16 * k + 200 < cLine
theorem Room.mono {j k : Nat} {A : Around} (r : Room k A) (h : j ≤ k) : Room j A := ⟨r.hd, by have := r.dp; omega, by have := r.un; omega⟩
theorem Room.deeper {k : Nat} {A : Around} (r : Room (k + 1) A) (env : Env) : Room k (A.deeper env) :=
  ⟨r.hd, by have := r.dp; show A.depth + 1 + 3 * k + 5 < _; omega, by have := r.un; show A.units + 3 + 16 * k + 200 < _; omega⟩
theorem Room.depth {k : Nat} {A : Around} (r : Room k A) : A.depth < recursionLimit := by have := r.dp; omega
theorem Room.units {k : Nat} {A : Around} (r : Room k A) : A.units + 64 < cLine := by have := r.un; omega
/-! ### argument lists and displays -/
def tNil : TA := fun _ H Q => Q [] H
def tCons (ta : TE) (tr : TA) : TA := fun σ H Q => ta σ H fun x H1 => tr σ H1 fun xs H2 => Q (x :: xs) H2
section
variable {X : Cx} {e : Expr} {es : List Expr} {te : TE} {t : TA} {pos : Pos}
theorem pa_nil : PA X [] tNil := fun _ _ _ _ H Q I h => Calls.spliced_nil ⟨[], H, I, .nil, h⟩
theorem pa_cons (ha : PE X e te) (hr : PA X es t) (hs : starEach (e :: es) X.env = (false, eval e X.env) :: starEach es X.env := by rfl) : PA X (e :: es) (tCons te t) := by
  intro pos pins s σ H Q I h
  rw [hs]
  show wpAny _ _ (spliced ((false, eval e X.env) :: backTo pos (starEach es X.env))) _ _ s
  refine Calls.spliced_cons (thn (ha pins s σ H _ I h) fun u s1 ⟨x, H1, I1, r1, q1⟩ => ?_)
  exact thn (hr pos pins s1 σ H1 _ I1 q1) fun us s2 ⟨xs, H2, I2, r2, q2⟩ => ⟨x :: xs, H2, I2, .cons r1 r2, q2⟩

/-- a tuple, a list of written items -/
def tTup (t : TA) : TE := fun σ H Q => t σ H fun xs H1 => xs.length ≤ sizeLine ∧ ∀ p, H1 p = none → Q (.ref p) (upd H1 p (.tup xs))
def tLst (t : TA) : TE := fun σ H Q => t σ H fun xs H1 => xs.length ≤ sizeLine ∧ ∀ p, H1 p = none → Q (.ref p) (upd H1 p (.lst xs))
theorem pe_lst (h : PA X es t) : PE X (.List es pos) (tLst t) := by
  intro pins s σ H Q I hq
  refine wpAny_List_spliced (thn (h pos pins s σ H _ I hq) fun us s1 ⟨xs, H1, I1, r, z, q⟩ => ⟨by rw [← r.length]; exact z, ?_⟩)
  have hf : H1 s1.heap.objs.size = none := I1.hok.fresh (Nat.le_refl _)
  refine ⟨.ref s1.heap.objs.size, upd H1 s1.heap.objs.size (.lst xs), I1.laid (t' := s1.toks) (fun b u e => Heap.get?_push_of_some _ e) (Nat.le_refl _) ?_, rfl, q _ hf⟩
  exact ⟨z, us, 0, r, Heap.get?_push_size _ rfl⟩
end

/-! ### what a def promises -/
/-- a def's promise: the bound arguments in the parameters' order, the heap, the wanted end, the wanted exception -/
abbrev Sp := List V → Hp → VK → XK → Prop
/-- how an exception lies behind a call (file 08 gives it): the callers' frames, abstract heap and state ahead of the call, the wish, the exception, the state -/
abbrev CXT := List Env → Hp → Shared → XK → Value → Shared → Prop

/-- the state at a call -/
structure Env0 (P : Program) (w : World) (K : PySem.W.Frag) (mg : Str → Option Value) (base : Heap) (A : Around) (outer : List Env) (s : Shared) (H : Hp) : Prop where
  frames : A.frames = some outer
  mod : Mod K mg base
  bs : ∀ b o, base.get? b = some o → s.heap.get? b = some o ∧ H b = none
  bsz : base.objs.size ≤ s.heap.objs.size
  funs : s.heap.FunFrames base outer
  frf : ∀ b ∈ frs outer, H b = none
  hok : HOk P w H s.heap
  bare : AllBare s.gens
/-- a call's end -/
def CE (outer : List Env) (P : Program) (w : World) (H : Hp) (s : Shared) (Q : VK) (u : Value) (s' : Shared) : Prop :=
  ∃ v H', s'.os = s.os ∧ AllBare s'.gens ∧ Un (frs outer) [] H H' s.heap s'.heap ∧ HOk P w H' s'.heap ∧ RelV v u ∧ Q v H'
def CR (CX : CXT) (outer : List Env) (P : Program) (w : World) (H : Hp) (s : Shared) (Q : VK) (E : XK) (r : Result) (s' : Shared) : Prop :=
  match r with
  | .ok (.ret u) => CE outer P w H s Q u s'
  | .ok _ => False
  | .error e => CX outer H s E e s'
structure FnOk (P : Program) (w : World) (K : PySem.W.Frag) (mg : Str → Option Value) (base : Heap) (CX : CXT) (k : Nat) (f : Addr) (fd : FuncData) (ps : List Str) (sp : Sp) : Prop where
  len : ∀ vs H Q E, sp vs H Q E → vs.length = ps.length
  run : ∀ (A : Around) (outer : List Env) (s : Shared) (H : Hp) (args : Args) (us : List Value) (vs : List V) (Q : VK) (E : XK), Room k A → Env0 P w K mg base A outer s H → BindsTo s fd args (ps.zip us) → Vals vs us → sp vs H Q E →
    codeAny (model P w) A (.call (.ref f) args) (CR CX outer P w H s Q E) s
theorem FnOk.mono {P : Program} {w : World} {K : PySem.W.Frag} {mg : Str → Option Value} {base : Heap} {CX : CXT} {j k : Nat} {f : Addr} {fd : FuncData} {ps : List Str} {sp : Sp} (F : FnOk P w K mg base CX j f fd ps sp) (h : j ≤ k) :
    FnOk P w K mg base CX k f fd ps sp := ⟨F.len, fun A outer s H args us vs Q E hr => F.run A outer s H args us vs Q E (hr.mono h)⟩
/-- a weaker promise -/
theorem FnOk.imp {P : Program} {w : World} {K : PySem.W.Frag} {mg : Str → Option Value} {base : Heap} {CX : CXT} {k : Nat} {f : Addr} {fd : FuncData} {ps : List Str} {sp sp' : Sp} (F : FnOk P w K mg base CX k f fd ps sp)
    (h : ∀ vs H Q E, sp' vs H Q E → sp vs H Q E) : FnOk P w K mg base CX k f fd ps sp' :=
  ⟨fun vs H Q E q => F.len vs H Q E (h _ _ _ _ q), fun A outer s H args us vs Q E hr he hb hv hs => F.run A outer s H args us vs Q E hr he hb hv (h _ _ _ _ hs)⟩

section
variable {X : Cx} {pins : List (Addr × Obj)} {σ : St} {H : Hp} {s s' : Shared}
/-- from a body: what a callee wants -/
theorem Inv.env0 (I : Inv X pins σ H s) : Env0 X.prog X.w X.K X.mg X.base X.A X.stack s H :=
  ⟨I.ok.frames, I.ok.mod, I.bs, Nat.le_trans I.ok.bsz I.sz, I.stack, I.stkFree, I.hok, I.bare⟩
/-- behind a call -/
theorem Inv.after {Q : VK} {u : Value} (I : Inv X pins σ H s) (h : CE X.stack X.prog X.w H s Q u s') : EP X pins σ Q u s' := by
  obtain ⟨v, H', os, bare, un, hok, r, q⟩ := h
  obtain ⟨hh, g, d, t, os'⟩ := s'
  obtain rfl : os' = s.os := os
  exact ⟨v, H', I.call (h' := hh) (g' := g) (d' := d) (t' := t) (ch := []) un hok bare (fun b z => absurd z (by simp)), r, q⟩
end

/-! ### calls -/
/-- f(..): the written arguments, then the defaults dvs; E: what is wanted of an exception -/
def tCall (sp : Sp) (dvs : List V) (E : XK) (t : TA) : TE := fun σ H Q => t σ H fun vs H1 => sp (vs ++ dvs) H1 Q E
/-- o.m(..) of an instance of the class at C -/
def tMeth (C : Addr) (m : Str) (sp : Sp) (dvs : List V) (E : XK) (ta : TE) (t : TA) : TE := fun σ H Q => ta σ H fun x H1 => ∃ a dx fs, x = .ref a ∧ H1 a = some (.ins C dx fs) ∧ fs.lookup m = none ∧
  t σ H1 fun vs H2 => sp (x :: (vs ++ dvs)) H2 Q E
/-- C(..): a new instance and its dict, then __init__ -/
def tMake (C : Addr) (sp : Sp) (dvs : List V) (E : XK) (t : TA) : TE := fun σ H Q => t σ H fun vs H1 => ∀ x dx, H1 x = none → H1 dx = none → dx ≠ x →
  sp (.ref x :: (vs ++ dvs)) (upd (upd H1 dx (.own x)) x (.ins C dx [])) (fun v H2 => v = .non ∧ Q (.ref x) H2) E

/-- how the parameters are bound: us the positional arguments, kw the keywords' values by name, ds the defaults that fill up -/
def Binds (K : PySem.W.Frag) (fd : FuncData) (ps : List Str) (ds : List Value) : Prop :=
  ∀ (s : Shared) (us : List Value), K.In s.heap → (us ++ ds).length = ps.length → BindsTo s fd ⟨us, []⟩ (ps.zip (us ++ ds))
/-- every parameter is given -/
theorem Binds.all {K : PySem.W.Frag} {fd : FuncData} {ps : List Str} (h : ∀ us : List Value, us.length = ps.length → bindArgs fd ⟨us, []⟩ = pure (ps.zip us)) : Binds K fd ps [] := fun s us _ hl => by
  rw [List.append_nil] at hl ⊢
  exact .of_eq (h us hl)

/-- an exception of a callee reaches what this body wants of exceptions -/
def Passes (CX : CXT) (X : Cx) (E : XK) : Prop := ∀ (pins : List (Addr × Obj)) (σ : St) (H : Hp) (s : Shared) (e : Value) (s' : Shared), Inv X pins σ H s → CX X.stack H s E e s' → X.xe e s'

section
variable {X : Cx} {CX : CXT} {k : Nat} {f C : Addr} {fd : FuncData} {ps : List Str} {sp : Sp} {dvs : List V} {ds : List Value} {E : XK} {x m : Str} {p pos apos : Pos} {e o : Expr} {es : List Expr} {ta : TE} {t : TA}

/-- the callee runs -/
theorem run_fn {pins : List (Addr × Obj)} {σ : St} {H : Hp} {s : Shared} {Q : VK} {us : List Value} {vs : List V} (F : FnOk X.prog X.w X.K X.mg X.base CX k f fd ps sp) (hr : Room k X.A) (hb : Binds X.K fd ps ds) (hd : Vals dvs ds) (hx : Passes CX X E)
    (I : Inv X pins σ H s) (r : Vals vs us) (h : sp (vs ++ dvs) H Q E) : wpAny (model X.prog X.w) X.A (call (.ref f) us) (EP X pins σ Q) X.xe s := by
  have r2 : Vals (vs ++ dvs) (us ++ ds) := r.append hd
  have hl : (us ++ ds).length = ps.length := by rw [← r2.length]; exact F.len _ _ _ _ h
  refine wpAny_call (codeAny_mono (F.run X.A X.stack s H ⟨us, []⟩ (us ++ ds) (vs ++ dvs) Q E hr I.env0 (hb s us I.kIn hl) r2 h) fun r s' hq => ?_)
  cases r with
  | error e => exact hx pins σ H s e s' I hq
  | ok fl =>
    cases fl with
    | ret u => exact I.after hq
    | next => exact False.elim hq
    | brk => exact False.elim hq
    | cont => exact False.elim hq

theorem pe_call (F : FnOk X.prog X.w X.K X.mg X.base CX k f fd ps sp) (hr : Room k X.A) (hg : Gl X x) (hm : X.mg x = some (.ref f)) (hk : PySem.W.keepIn X.K (.ref f) = true) (hb : Binds X.K fd ps ds) (hd : Vals dvs ds) (hx : Passes CX X E)
    (ha : PA X (e :: es) t) (hdb : (x == ("__debug__" : Str)) = false := by decide) (he : starEach (e :: es) X.env = (false, eval e X.env) :: starEach es X.env := by rfl) (hpl : (backTo pos (starEach es X.env)).any (·.1) = false := by rfl) :
    PE X (.Call (.Name x p) (e :: es) [] pos) (tCall sp dvs E t) := by
  intro pins s σ H Q I h
  refine wpAny_Call_Name_kw (ld_glob I hg hm ?_ hdb)
  refine PySem.W.callWith_K (h₀ := X.base) I.ok.mod.kin hk (thn (ha pos pins s σ H _ I h) fun us s1 ⟨vs, H1, I1, r, q⟩ => ⟨I1.kIn, ?_⟩) he hpl
  exact run_fn F hr hb hd hx I1 r q
/-- what a class must have to be made -/
structure Mk (K : PySem.W.Frag) (C f : Addr) : Prop where
  makes : PySem.W.makesIn K C = true
  init : PySem.W.findIn K (.ref C) "__init__" = some (some (.ref f))
  fn : PySem.W.isFn K (.ref f) = true
  kp : PySem.W.keepIn K (.ref C) = true

end

/-! ### keywords -/
/-- the values of the keywords, from the left -/
def PK (X : Cx) (kws : List Keyword) (t : TA) : Prop :=
  ∀ (pos : Pos) (pins : List (Addr × Obj)) (s : Shared) (σ : St) (H : Hp) (Q : List V → Hp → Prop), Inv X pins σ H s → t σ H Q → wpAny (model X.prog X.w) X.A (evalAll ((backToKw pos (keywordEach kws X.env)).map (·.2))) (AP X pins σ Q) X.xe s
section
variable {X : Cx} {CX : CXT} {k : Nat} {f C : Addr} {fd : FuncData} {ps ks : List Str} {sp : Sp} {E : XK} {x m : Str} {p pos apos kpos : Pos} {e o : Expr} {es : List Expr} {kws : List Keyword} {te ta : TE} {t tk : TA} {nm : Option Str}
/-- how a call with keywords binds: g puts the positional values us and the keywords' values ws (names ks) in the parameters' order, defaults among them -/
structure KBinds (K : PySem.W.Frag) (fd : FuncData) (ps ks : List Str) (g : List Value → List Value → List Value) (gV : List V → List V → List V) : Prop where
  to : ∀ (s : Shared) (us ws : List Value), K.In s.heap → (g us ws).length = ps.length → BindsTo s fd ⟨us, ks.zip ws⟩ (ps.zip (g us ws))
  rel : ∀ {vs : List V} {us : List Value} {zs : List V} {ws : List Value}, Vals vs us → Vals zs ws → Vals (gV vs zs) (g us ws)
def tCallK (sp : Sp) (gV : List V → List V → List V) (E : XK) (t tk : TA) : TE := fun σ H Q => t σ H fun vs H1 => tk σ H1 fun zs H2 => sp (gV vs zs) H2 Q E
variable {g : List Value → List Value → List Value} {gV : List V → List V → List V}
end

/-! ### a def's body keeps its promise -/
/-- names: the parameters first -/
structure FnScope (N P : List Str) (sc : Scope) : Prop where
  kind : sc.kind = .function
  co : sc.isCoroutine = false
  gen : sc.isGenerator = false
  nd : N.Nodup
  pre : N.take P.length = P
  par : ∀ x ∈ P, sc.names.lookup x = some .local ∨ sc.names.lookup x = some .cell
  nofree : ∀ y ∈ sc.names, y.2 ≠ .free

theorem bindL_out {kindOf : Str → Option NameKind} {x : Str} : ∀ {binds : List (Str × Value)} {m : Str → Option Value}, (∀ v, (x, v) ∉ binds) → bindL kindOf binds m x = m x
  | [], _, _ => rfl
  | (n, v) :: r, m, h => by
    unfold bindL
    rw [bindL_out fun w hw => h w (List.mem_cons_of_mem _ hw)]
    split
    · have : x ≠ n := by rintro rfl; exact h v List.mem_cons_self
      simp [this]
    · rfl
theorem bindC_out {kindOf : Str → Option NameKind} {x : Str} : ∀ {binds : List (Str × Value)} {m : Str → Option Value}, (∀ v, (x, v) ∉ binds) → bindC kindOf binds m x = m x
  | [], _, _ => rfl
  | (n, v) :: r, m, h => by
    unfold bindC
    rw [bindC_out fun w hw => h w (List.mem_cons_of_mem _ hw)]
    split
    · rfl
    · have : x ≠ n := by rintro rfl; exact h v List.mem_cons_self
      simp [this]
theorem bindL_get {kindOf : Str → Option NameKind} {x : Str} {v : Value} : ∀ {P : List Str} {vs : List Value} {i : Nat} {m : Str → Option Value}, P.Nodup → P[i]? = some x → vs[i]? = some v → kindOf x = some .local →
    bindL kindOf (P.zip vs) m x = some v
  | [], _, _, _, _, h, _, _ => by simp at h
  | _ :: _, [], _, _, _, _, h, _ => by simp at h
  | p :: P, w :: vs, 0, m, nd, h1, h2, hk => by
    simp at h1 h2; subst h1; subst h2
    show bindL kindOf ((p, w) :: P.zip vs) m p = _
    unfold bindL
    rw [bindL_out fun v hv => (List.nodup_cons.mp nd).1 (List.of_mem_zip hv).1, if_pos hk]
    simp
  | p :: P, w :: vs, i + 1, m, nd, h1, h2, hk => by
    show bindL kindOf ((p, w) :: P.zip vs) m x = _
    unfold bindL
    exact bindL_get (i := i) (List.nodup_cons.mp nd).2 (by simpa using h1) (by simpa using h2) hk
theorem bindC_get {kindOf : Str → Option NameKind} {x : Str} {v : Value} : ∀ {P : List Str} {vs : List Value} {i : Nat} {m : Str → Option Value}, P.Nodup → P[i]? = some x → vs[i]? = some v → kindOf x ≠ some .local →
    bindC kindOf (P.zip vs) m x = some v
  | [], _, _, _, _, h, _, _ => by simp at h
  | _ :: _, [], _, _, _, _, h, _ => by simp at h
  | p :: P, w :: vs, 0, m, nd, h1, h2, hk => by
    simp at h1 h2; subst h1; subst h2
    show bindC kindOf ((p, w) :: P.zip vs) m p = _
    unfold bindC
    rw [bindC_out fun v hv => (List.nodup_cons.mp nd).1 (List.of_mem_zip hv).1, if_neg hk]
    simp
  | p :: P, w :: vs, i + 1, m, nd, h1, h2, hk => by
    show bindC kindOf ((p, w) :: P.zip vs) m x = _
    unfold bindC
    exact bindC_get (i := i) (List.nodup_cons.mp nd).2 (by simpa using h1) (by simpa using h2) hk

/-- the names' values at the entry -/
def start (N : List Str) (vs : List V) : St := vs.map some ++ List.replicate (N.length - vs.length) none

/-- the context of a def's body, at its entry; an exception leaves the frame, then lies as CX says -/
def cxOf (CX : CXT) (P : Program) (w : World) (K : PySem.W.Frag) (mg : Str → Option Value) (base : Heap) (N : List Str) (qual : Str) (scope : Scope) (f : Addr) (cd : Value) (A : Around) (outer : List Env) (s : Shared) (H : Hp) (E : XK) : Cx where
  prog := P
  w := w
  K := K
  mg := mg
  base := base
  A := A.deeper (envOfC qual scope s.heap.objs.size f cd)
  N := N
  s₀ := s
  H₀ := H
  env := envOfC qual scope s.heap.objs.size f cd
  outer := outer
  stack := envOfC qual scope s.heap.objs.size f cd :: outer
  ex := []
  calm := true
  fn := fun _ => true
  pn := []
  xe := fun e s' => wpAny (model P w) (A.deeper (envOfC qual scope s.heap.objs.size f cd)) (leaving (envOfC qual scope s.heap.objs.size f cd) e) (fun _ s'' => CX outer H s E e s'') (fun e' s'' => CX outer H s E e' s'') s'

theorem cell_has {sc : Scope} {n : Nat} {x : Str} (h : sc.names.lookup x = some .cell) : ∃ c, (cellsFrom n sc.names []).lookup x = some c := by
  have q := PySem.W.cellsFrom_some sc.names n [] (.inl h)
  exact Option.isSome_iff_exists.mp q

theorem inv_start {CX : CXT} {P : Program} {w : World} {K : PySem.W.Frag} {mg : Str → Option Value} {base : Heap} {N ps : List Str} {qual : Str} {scope : Scope} {f : Addr} {cd : Value} {A : Around} {outer : List Env} {s s1 : Shared} {H : Hp} {E : XK} {us : List Value} {vs : List V}
    (S : FnScope N ps scope) (hd : A.handled = none) (e0 : Env0 P w K mg base A outer s H) (hl : vs.length = ps.length) (r : Vals vs us)
    (x : InCallC s s.heap.objs.size (bindL (envOfC qual scope s.heap.objs.size f cd).kindOf (ps.zip us) fun _ => none) (cellsFrom (s.heap.objs.size + 1) scope.names []) (bindC (envOfC qual scope s.heap.objs.size f cd).kindOf (ps.zip us) fun _ => none) s1) :
    Inv (cxOf CX P w K mg base N qual scope f cd A outer s H E) [] (start N vs) H s1 := by
  have hpl : ps.length ≤ N.length := by have := congrArg List.length S.pre; rw [List.length_take] at this; omega
  obtain ⟨h1, tk, rfl, hk⟩ := x.done
  have noA : ∀ b : Addr, b ∉ (cxOf CX P w K mg base N qual scope f cd A outer s H E).ex := fun b z => absurd (show b ∈ ([] : List Addr) from z) (by simp)
  refine ⟨⟨e0.mod, S.kind, rfl, rfl, Nat.le_refl _, fun y z c h1 h2 => ?_, fun y hy => ?_, fun y c _ h => ?_, fun _ => hd, Around.frames_deeper e0.frames, .inr ⟨rfl, rfl⟩, fun b z => absurd z (noA b), e0.bs, e0.bsz, fun b _ _ => noA b, fun b z => absurd z (noA b), e0.funs, e0.frf⟩,
    rfl, e0.bare, Un.kept hk, ⟨_, x.toInCall.ns, fun i y v h1 h2 h3 => ?_⟩, fun y c h => ⟨_, x.cell y c h⟩, e0.hok.fresh (Nat.le_refl _), fun y c h => ?_, fun p hp => absurd (show p ∈ ([] : List (Addr × Obj)) from hp) (by simp), e0.hok.kept hk, ?_⟩
  · exact name_of_addr x.apart (PySem.mem_of_lookup h1) (PySem.mem_of_lookup h2)
  · have hy : scope.names.lookup y = some .cell ∨ scope.names.lookup y = some .free := hy
    rcases hy with hy | hy
    · exact cell_has hy
    · exact absurd rfl (S.nofree _ (PySem.mem_of_lookup hy))
  · exact Nat.le_of_lt (x.above y c (PySem.mem_of_lookup h))
  · have hi : i < vs.length := by
      unfold start at h2
      by_cases hi : i < vs.length
      · exact hi
      · rw [List.getElem?_append_right (by simpa using hi)] at h2
        rw [List.getElem?_replicate] at h2
        split at h2 <;> cases h2
    have ha : vs[i]? = some v := by
      unfold start at h2
      rw [List.getElem?_append_left (by simpa using hi), List.getElem?_map] at h2
      cases e : vs[i]? with
      | none => rw [e] at h2; cases h2
      | some a => rw [e] at h2; cases h2; rfl
    obtain ⟨u, hu, rv⟩ := r.get ha
    have hp : ps[i]? = some y := by
      rw [← S.pre, List.getElem?_take_of_lt (by omega)]; exact h1
    have ndP : ps.Nodup := by rw [← S.pre]; exact S.nd.sublist (List.take_sublist _ _)
    refine ⟨u, rv, ?_⟩
    rcases S.par y (List.mem_of_getElem? hp) with k | k
    · exact .inl ⟨k, bindL_get ndP hp hu k⟩
    · obtain ⟨c, e⟩ := cell_has (n := s.heap.objs.size + 1) k
      refine .inr ⟨.inl k, c, e, ?_⟩
      have q := x.cell y c e
      rw [bindC_get ndP hp hu (by show scope.names.lookup y ≠ _; rw [k]; decide)] at q
      exact q
  · exact e0.hok.fresh (Nat.le_of_lt (x.above y c (PySem.mem_of_lookup h)))
  · unfold start
    show _ = N.length
    rw [List.length_append, List.length_map, List.length_replicate]
    omega

/-- THE RULE: a def (or a method) of the text, by its body. The body's reading t is chosen for each entry; it is run at the parameters' values -/
theorem fn_of {CX : CXT} {P : Program} {w : World} {K : PySem.W.Frag} {mg : Str → Option Value} {base : Heap} {k : Nat} {f : Addr} {name qual : Str} {params : Arguments} {body : List Stmt} {scope : Scope} {dV kV doc pm cdv ct oc : Value} {an od : Option Addr}
    {osl : Array (Option Value)} {N ps : List Str} {sp : Sp} (lk : K.lookup f = some ⟨oc, od, .func (PySem.W.fnOf name qual params body scope dV kV doc pm an cdv ct), osl⟩) (hcd : PySem.W.codeIn K cdv qual = true) (S : FnScope N ps scope)
    (len : ∀ vs H Q E, sp vs H Q E → vs.length = ps.length)
    (hbody : ∀ (A : Around) (outer : List Env) (s : Shared) (H : Hp) (vs : List V) (Q : VK) (E : XK), Room k (A.deeper (envOfC qual scope s.heap.objs.size f cdv)) → sp vs H Q E →
      ∃ t, PSs (cxOf CX P w K mg base N qual scope f cdv A outer s H E) body t ∧ t { nx := fun _ H' => Q .non H', rt := Q } (start N vs) H) :
    FnOk P w K mg base CX (k + 1) f (PySem.W.fnOf name qual params body scope dV kV doc pm an cdv ct) ps sp := by
  refine ⟨len, fun A outer s H args us vs Q E hr e0 hb r hsp => ?_⟩
  have hl := len _ _ _ _ hsp
  have KX : K.In s.heap := e0.mod.kin.keeps fun b o e => (e0.bs b o e).1
  have lim : s.heap.NoLimit := e0.mod.nolimit.keeps fun b o e => (e0.bs b o e).1
  have hkind : ∀ y ∈ ps.zip us, scope.names.lookup y.1 = some .local ∨ (scope.names.lookup y.1 = some .cell ∧ ((cellsFrom (s.heap.objs.size + 1) scope.names []).lookup y.1).isSome = true) := fun ⟨n, v⟩ hy => by
    rcases S.par n (List.of_mem_zip hy).1 with q | q
    · exact .inl q
    · exact .inr ⟨q, PySem.W.cellsFrom_some _ _ _ (.inl q)⟩
  refine codeAny_call_function hr.depth (KX _ _ lk) rfl S.co S.gen rfl (PySem.W.codeRec_of KX hcd) (hb _ _ _ _ ?_)
  refine wpAny_newFunctionEnv_cells S.kind hkind fun env he s1 x => ?_
  subst he
  refine ⟨lim.keeps x.toInCall.keep, codeAny_func ?_⟩
  obtain ⟨t, ht, hq⟩ := hbody A outer s H vs Q E (hr.deeper _) hsp
  have I : Inv (cxOf CX P w K mg base N qual scope f cdv A outer s H E) [] (start N vs) H s1 := inv_start S hr.hd e0 hl r x
  refine wpAny_mono (ht [] s1 (start N vs) H _ I hq) (fun fl s' hs => ?_) fun e s' hs => hs
  have fin : ∀ {σ' : St} {H' : Hp} {v : V} {u : Value}, Inv (cxOf CX P w K mg base N qual scope f cdv A outer s H E) [] σ' H' s' → RelV v u → Q v H' → CE outer P w H s Q u s' :=
    fun {σ' H' v u} J rv q => ⟨v, H', J.os, J.bare, J.base, J.hok, rv, q⟩
  cases fl with
  | ret u =>
    obtain ⟨v, σ', H', J, rv, q⟩ := hs
    exact fin J rv q
  | next =>
    obtain ⟨σ', H', J, q⟩ := hs
    exact fin (v := V.non) (u := Value.none) J rfl q
  | brk =>
    obtain ⟨_, _, _, q⟩ := hs
    exact False.elim q
  | cont =>
    obtain ⟨_, _, _, q⟩ := hs
    exact False.elim q
end L2

namespace L2
open PySem PySem.Spec PyProof.Rows
section
variable {X : Cx} {x : Str} {p pos : Pos} {e : Expr} {es : List Expr} {t : TA} {id T : String} {r : List V → Hp → VK → Prop}

def tCB (r : List V → Hp → VK → Prop) (t : TA) : TE := fun σ H Q => t σ H fun vs H1 => r vs H1 Q
/-- f(e, ..), f a built-in function -/
theorem pe_callB (hc : CallR X (.builtin id) r) (hg : Gl X x) (hm : X.mg x = none) (hv : bootBuiltins x = some (.builtin id)) (ha : PA X (e :: es) t) (hn : x ≠ "__name__" := by decide) (hdb : (x == ("__debug__" : Str)) = false := by decide)
    (he : starEach (e :: es) X.env = (false, eval e X.env) :: starEach es X.env := by rfl) (hpl : (backTo pos (starEach es X.env)).any (·.1) = false := by rfl) : PE X (.Call (.Name x p) (e :: es) [] pos) (tCB r t) := by
  intro pins s σ H Q I h
  refine wpAny_Call_Name_kw (ld_blt I hg hm hv ?_ hn hdb)
  exact PyProof.Rows.callWith_builtin1 (thn (ha pos pins s σ H _ I h) fun us s1 ⟨vs, H1, I1, r1, q1⟩ => hc pins s1 σ H1 vs us Q I1 r1 q1) he hpl
/-- T(e, ..), T a built-in type -/
theorem pe_callTy (hc : CallR X (.type T) r) (hg : Gl X x) (hm : X.mg x = none) (hv : bootBuiltins x = some (.type T)) (ha : PA X (e :: es) t) (hn : x ≠ "__name__" := by decide) (hdb : (x == ("__debug__" : Str)) = false := by decide)
    (he : starEach (e :: es) X.env = (false, eval e X.env) :: starEach es X.env := by rfl) (hpl : (backTo pos (starEach es X.env)).any (·.1) = false := by rfl) : PE X (.Call (.Name x p) (e :: es) [] pos) (tCB r t) := by
  intro pins s σ H Q I h
  refine wpAny_Call_Name_kw (ld_blt I hg hm hv ?_ hn hdb)
  exact PyProof.Rows.callWith_type1 (thn (ha pos pins s σ H _ I h) fun us s1 ⟨vs, H1, I1, r1, q1⟩ => hc pins s1 σ H1 vs us Q I1 r1 q1) he hpl
end
end L2

namespace HT
open PySem PyProof.Rows

/-- t < u of tuples of ints -/
def lexLt : List Int → List Int → Bool
  | [], [] => false
  | [], _ :: _ => true
  | _ :: _, [] => false
  | x :: xs, y :: ys => if x = y then lexLt xs ys else decide (x < y)
section
open PySem.SeqAt
open PySem.AutoSeq1 (wpAny_loadPart')
open PySem.MeetsSeq PySem.MeetsSeq2 PySem.MeetsSeq3

end

section
variable {prog : Program} {w : World} {A : Around} {E : Value → Shared → Prop} {s : Shared}

/-! ### t[a:b], not the whole -/
/-- a slice's bound as a place among n (d where it is left out) -/
def sIx (n d : Nat) : Option Int → Nat
  | none => d
  | some v => if v < 0 then (v + (n : Int)).toNat else min v.toNat n
end
end HT

namespace L2
open PySem PySem.Spec PyProof.Rows

/-! ### the parts of a slice -/
abbrev TO := St → Hp → (Option Int → Hp → Prop) → Prop
/-- a slice's part (left out, or an int) -/
def PO (X : Cx) (e : Option Expr) (t : TO) : Prop :=
  ∀ (pins : List (Addr × Obj)) (s : Shared) (σ : St) (H : Hp) (Q : Option Int → Hp → Prop), Inv X pins σ H s → t σ H Q →
    wpAny (model X.prog X.w) X.A (evalPart e X.env) (fun u s' => ∃ o H', Inv X pins σ H' s' ∧ IsPart u o ∧ Q o H') X.xe s
def tNoPart : TO := fun _ H Q => Q none H
def tPart (t : TE) : TO := fun σ H Q => t σ H fun x H1 => ∃ i, x = .int i ∧ Q (some i) H1

section
variable {X : Cx} {e : Expr} {te : TE} {lo hi : Option Expr} {tl th : TO} {pos p2 : Pos}

/-- what a slice of a value is, by values: the slice object stands at sl -/
def SlR (X : Cx) (r : V → Option Int → Option Int → Hp → VK → Prop) : Prop :=
  ∀ (pins : List (Addr × Obj)) (s : Shared) (σ : St) (H : Hp) (x : V) (v vl vu : Value) (lo hi : Option Int) (sl : Addr) (Q : VK), Inv X pins σ H s → RelV x v → s.heap.IsSliceOf sl vl vu .none → IsPart vl lo → IsPart vu hi → r x lo hi H Q →
    ∃ T id, typeLookup (.type T) "__getitem__" = pure (some (.builtin id)) ∧ s.TypeIs v T ∧ wpAny (model X.prog X.w) X.A (getItem v (.ref sl)) (EP X pins σ Q) X.xe s
def tSl (r : V → Option Int → Option Int → Hp → VK → Prop) (te : TE) (tl th : TO) : TE := fun σ H Q => te σ H fun x H1 => tl σ H1 fun l H2 => th σ H2 fun u H3 => r x l u H3 Q
/-- the items of xs[lo:hi] -/
def cutV (xs : List V) (lo hi : Option Int) : List V := (xs.drop (HT.sIx xs.length 0 lo)).take (HT.sIx xs.length xs.length hi - HT.sIx xs.length 0 lo)
/-- t[lo:hi], not the whole of it (the whole would be t itself) -/
def rSlT (K : PySem.W.Frag) : V → Option Int → Option Int → Hp → VK → Prop := fun x lo hi H Q => ∃ a xs, x = .ref a ∧ SqT K H a xs ∧
  ¬ (HT.sIx xs.length 0 lo = 0 ∧ HT.sIx xs.length xs.length hi = xs.length) ∧ ∀ p, H p = none → Q (.ref p) (upd H p (.tup (cutV xs lo hi)))
/-! ### t < u, t + u -/
def rLtT (K : PySem.W.Frag) : R2 := fun x y H Q => ∃ a b ns ms, x = .ref a ∧ y = .ref b ∧ SqT K H a (ns.map V.int) ∧ SqT K H b (ms.map V.int) ∧ Q (.bl (HT.lexLt ns ms)) H
/-- t + u, t not empty: u empty gives t itself -/
def rCatT (K : PySem.W.Frag) : R2 := fun x y H Q => ∃ a b xs ys, x = .ref a ∧ y = .ref b ∧ SqT K H a xs ∧ SqT K H b ys ∧ xs ≠ [] ∧ xs.length + ys.length ≤ sizeLine ∧
  (ys = [] → Q (.ref a) H) ∧ (ys ≠ [] → ∀ p, H p = none → Q (.ref p) (upd H p (.tup (xs ++ ys))))
end
end L2

namespace L2
open PySem PySem.Spec PyProof.Rows

/-! ### places -/
/-- the place that an index of any sign means -/
def ixN (n : Nat) (i : Int) : Option Nat := if 0 ≤ i then (if i < n then some i.toNat else none) else if -(n : Int) ≤ i then some (i + n).toNat else none
def atI {α : Type} (xs : List α) (i : Int) : Option α := (ixN xs.length i).bind fun j => xs[j]?
theorem ixN_seq {n : Nat} {i : Int} {j : Nat} (h : ixN n i = some j) : seqIndex? i n = some j ∧ j < n ∧ -(n : Int) ≤ i ∧ i < n := by
  unfold ixN at h
  by_cases h0 : 0 ≤ i
  · rw [if_pos h0] at h
    by_cases h1 : i < n
    · rw [if_pos h1] at h
      have e : i.toNat = j := Option.some.inj h
      exact ⟨by rw [seqIndex_of h0 h1, e], by omega, by omega, h1⟩
    · rw [if_neg h1] at h; cases h
  · rw [if_neg h0] at h
    by_cases h1 : -(n : Int) ≤ i
    · rw [if_pos h1] at h
      have e : (i + n).toNat = j := Option.some.inj h
      exact ⟨by rw [seqIndex_neg (by omega) h1, e], by omega, h1, by omega⟩
    · rw [if_neg h1] at h; cases h
theorem atI_get {α : Type} {xs : List α} {i : Int} {v : α} (h : atI xs i = some v) : ∃ j, seqIndex? i xs.length = some j ∧ xs[j]? = some v ∧ j < xs.length ∧ -(xs.length : Int) ≤ i ∧ i < xs.length := by
  unfold atI at h
  cases e : ixN xs.length i with
  | none => rw [e] at h; cases h
  | some j =>
    rw [e] at h
    obtain ⟨h1, h2, h3, h4⟩ := ixN_seq e
    exact ⟨j, h1, h, h2, h3, h4⟩
theorem atI_nat {α : Type} {xs : List α} {j : Nat} {v : α} (h : xs[j]? = some v) : atI xs (j : Int) = some v := by
  have hj : j < xs.length := (List.getElem?_eq_some_iff.mp h).1
  have e : ixN xs.length (j : Int) = some j := by
    unfold ixN
    rw [if_pos (by omega), if_pos (by omega)]; simp
  unfold atI; rw [e]; exact h
/-! ### what may be subscripted -/
/-- what stands as an index of a plain subscript -/
def PlainIx (b : Expr) : Prop := ∀ o i, subscripted b false o i = operate [o, i] (getItem o i)
/-- a subscript by values -/
def IxR (X : Cx) (r : R2) : Prop :=
  ∀ (value slice : Expr) (pins : List (Addr × Obj)) (s : Shared) (σ : St) (H : Hp) (x y : V) (v u : Value) (Q : VK), Inv X pins σ H s → RelV x v → RelV y u → r x y H Q →
    subscripted slice false v u = operate [v, u] (getItem v u) → wpAny (model X.prog X.w) X.A (subscriptTail value slice v u) (EP X pins σ Q) X.xe s
/-- a call of a builtin's method by values: the receiver, the arguments -/
def MtR (X : Cx) (id : String) (r : V → List V → Hp → VK → Prop) : Prop :=
  ∀ (pins : List (Addr × Obj)) (s : Shared) (σ : St) (H : Hp) (x : V) (xs : List V) (v : Value) (us : List Value) (Q : VK), Inv X pins σ H s → RelV x v → Vals xs us → r x xs H Q →
    wpAny (model X.prog X.w) X.A (call (.builtin id) (v :: us)) (EP X pins σ Q) X.xe s
section
variable {X : Cx} {a b : Expr} {ta tb : TE} {pos : Pos}
theorem IxR.or {r r' : R2} (h : IxR X r) (h' : IxR X r') : IxR X (fun x y H Q => r x y H Q ∨ r' x y H Q) := by
  intro value slice pins s σ H x y v u Q I rx ry q hs
  rcases q with q | q
  · exact h value slice pins s σ H x y v u Q I rx ry q hs
  · exact h' value slice pins s σ H x y v u Q I rx ry q hs
/-- a[b] -/
theorem pe_ix {r : R2} (hr : IxR X r) (ha : PE X a ta) (hb : PE X b tb) (hs : PlainIx b) : PE X (.Subscript a b pos) (tOp r ta tb) := by
  intro pins s σ H Q I h
  exact Subscript_ (binT ha hb I h fun v u s2 x y H2 I2 rx ry q => hr a b pins s2 σ H2 x y v u Q I2 rx ry q (hs _ _))

def rIxL (K : PySem.W.Frag) : R2 := fun x y H Q => ∃ p xs i v, x = .ref p ∧ y = .int i ∧ SqL K H p xs ∧ atI xs i = some v ∧ Q v H
def rIxT (K : PySem.W.Frag) : R2 := fun x y H Q => ∃ p xs i v, x = .ref p ∧ y = .int i ∧ SqT K H p xs ∧ atI xs i = some v ∧ Q v H
def rIxS : R2 := fun x y H Q => ∃ z i c, x = .str z ∧ y = .int i ∧ z.length ≤ sizeLine ∧ atI z.cps.toList i = some c ∧ Q (.str ⟨#[c]⟩) H
theorem ix_list : IxR X (rIxL X.K) := by
  intro value slice pins s σ H x y v u Q I rx ry h hs
  obtain ⟨p, xs, i, z, rfl, rfl, hq, he, q⟩ := h
  cases rx
  obtain ⟨t, rfl⟩ := ry
  obtain ⟨its, r, pl, hz⟩ := I.list hq
  obtain ⟨j, h1, h2, h3, h4, h5⟩ := atI_get he
  obtain ⟨w, ew, rw'⟩ := r.get h2
  have hl := r.length
  have hn := line63
  have fin : EP X pins σ Q w s := ⟨z, H, I, rw', q⟩
  by_cases h0 : 0 ≤ i
  · have hj : i.toNat = j := by
      rw [seqIndex_of h0 h5] at h1
      exact Option.some.inj h1
    exact item_listR pl.isList h0 (by omega) (by rw [hj]; simpa using ew) fin hs
  · have hj : (i + (its.toArray.size : Int)).toNat = j := by
      rw [seqIndex_neg (by omega) h4] at h1
      rw [List.size_toArray, ← hl]
      exact Option.some.inj h1
    exact subscriptTail_builtinR (x := w) pl.isList.typeIs slot_list_getitem.lookup
      (wpAny_getItem_list_neg (Q := fun r s' => r = w ∧ EP X pins σ Q r s') pl.isList (by omega) (by rw [List.size_toArray] <;> omega) (by omega) (by rw [hj]; simpa using ew) ⟨rfl, fin⟩) hs
theorem ix_tup : IxR X (rIxT X.K) := by
  intro value slice pins s σ H x y v u Q I rx ry h hs
  obtain ⟨p, xs, i, z, rfl, rfl, hq, he, q⟩ := h
  cases rx
  obtain ⟨t, rfl⟩ := ry
  obtain ⟨its, r, pl, hz⟩ := I.tuple hq
  obtain ⟨j, h1, h2, h3, h4, h5⟩ := atI_get he
  obtain ⟨w, ew, rw'⟩ := r.get h2
  have hl := r.length
  have hn := line63
  have fin : EP X pins σ Q w s := ⟨z, H, I, rw', q⟩
  exact subscriptTail_builtinR (x := w) pl.typeIs slot_tuple_getitem.lookup
    (getItem_tuple (j := j) (Q := fun r s' => r = w ∧ EP X pins σ Q r s') pl (by omega) (by omega) (by rw [List.size_toArray, ← hl]; exact h1) (by simpa using ew) ⟨rfl, fin⟩) hs
theorem ix_str : IxR X rIxS := by
  intro value slice pins s σ H x y v u Q I rx ry h hs
  obtain ⟨z, i, c, rfl, rfl, hz, he, q⟩ := h
  obtain ⟨t, rfl⟩ := rx
  obtain ⟨t', rfl⟩ := ry
  obtain ⟨j, h1, h2, h3, h4, h5⟩ := atI_get he
  have hl : z.cps.toList.length = z.length := by simp [Str.length]
  rw [hl] at h1 h4 h5
  have hn := line63
  exact tail_any (typeIs_str s z t) slot_str_getitem.lookup (getItem_str (c := c) (by
    have e1 : decide (i < -(2 ^ 63 : Int)) = false := decide_eq_false (by omega)
    have e2 : decide (i ≥ 2 ^ 63) = false := decide_eq_false (by omega)
    rw [e1, e2, Bool.or_false]) (by rw [h1]; simpa using h2) ⟨.str ⟨#[c]⟩, H, I.tok _, ⟨_, rfl⟩, q⟩) hs
/-- list, tuple or str -/
def rIx (K : PySem.W.Frag) : R2 := fun x y H Q => rIxL K x y H Q ∨ rIxT K x y H Q ∨ rIxS x y H Q
/-! ### xs[i] = v, any sign -/
/-- the list's object behind a store -/
theorem mapSeq_set (its : List Value) (n j : Nat) (u : Value) : Obj.mapSeq (·.setIfInBounds j u) { cls := .type "list", data := .seq its.toArray n } = { cls := .type "list", data := .seq (its.set j u).toArray n } := by
  simp [Obj.mapSeq]
theorem Inv.lst {pins : List (Addr × Obj)} {σ : St} {H : Hp} {s : Shared} {p : Addr} {xs : List V} (I : Inv X pins σ H s) (h : H p = some (.lst xs)) :
    ∃ (its : List Value) (n : Nat), Vals xs its ∧ s.heap.get? p = some { cls := .type "list", data := .seq its.toArray n } ∧ xs.length ≤ sizeLine := by
  obtain ⟨z, its, n, r, e⟩ := I.hok p _ h
  exact ⟨its, n, r, e, z⟩
/-- the list at p is written by an update of its object -/
theorem Inv.lstUpd {pins : List (Addr × Obj)} {σ : St} {H : Hp} {s : Shared} {p : Addr} {xs ys : List V} {its its' : List Value} {n n' : Nat} {f : Obj → Obj} (I : Inv X pins σ H s) (h : H p = some (.lst xs))
    (ho : s.heap.get? p = some { cls := .type "list", data := .seq its.toArray n }) (hf : f { cls := .type "list", data := .seq its.toArray n } = { cls := .type "list", data := .seq its'.toArray n' }) (r : Vals ys its') (hz : ys.length ≤ sizeLine) (t : Nat) :
    Inv X pins σ (upd H p (.lst ys)) { s with heap := s.heap.update p f, toks := t } := by
  have e : (s.heap.update p f).get? p = some { cls := .type "list", data := .seq its'.toArray n' } := by
    rw [Heap.get?_update_self f ho (by rw [hf] <;> rfl), hf]
  refine I.write (x := p) (e := p) (by rw [h]; trivial) (.inl rfl) (fun b u hb q => (Heap.get?_update_other _ _ (Ne.symm hb)).trans q) ⟨_, e⟩ ?_
  exact ⟨hz, its', n', r, e⟩
def rSetL : V → V → V → Hp → (Hp → Prop) → Prop := fun o i v H Q => ∃ p xs k j, o = .ref p ∧ i = .int k ∧ H p = some (.lst xs) ∧ ixN xs.length k = some j ∧ Q (upd H p (.lst (xs.set j v)))
theorem set_list : PSet X rSetL := by
  intro pins s σ H o i v ov iv u Q I ro ri rv h
  obtain ⟨p, xs, k, j, rfl, rfl, hp, hj, q⟩ := h
  cases ro
  obtain ⟨t, rfl⟩ := ri
  obtain ⟨its, n, r, ho, hz⟩ := I.lst hp
  obtain ⟨h1, h2, h3, h4⟩ := ixN_seq hj
  have hl := r.length
  have hn := line63
  have I' : Inv X pins σ (upd H p (.lst (xs.set j v))) { s with heap := s.heap.update p (Obj.mapSeq (·.setIfInBounds j u)) } :=
    I.lstUpd hp ho (mapSeq_set its n j u) (r.set rv j) (by rw [List.length_set]; exact hz) s.toks
  by_cases h0 : 0 ≤ k
  · have hk : k.toNat = j := by
      rw [seqIndex_of h0 h4] at h1
      exact Option.some.inj h1
    exact PySem.W.ki_setAt ho h0 (by omega) (by rw [List.size_toArray, ← hl]; exact h4) (by rw [hk]; exact ⟨_, I', q⟩)
  · have hk : (k + (its.toArray.size : Int)).toNat = j := by
      rw [seqIndex_neg (by omega) h3] at h1
      rw [List.size_toArray, ← hl]
      exact Option.some.inj h1
    exact PySem.W.ki_setBack ho (by omega) (by rw [List.size_toArray, ← hl]; exact h3) (by omega) (by rw [hk]; exact ⟨_, I', q⟩)

/-! ### slices -/
/-- xs[lo:hi] of a list: a new list -/
def rSlL (K : PySem.W.Frag) : V → Option Int → Option Int → Hp → VK → Prop := fun x lo hi H Q => ∃ a xs, x = .ref a ∧ SqL K H a xs ∧ ∀ p, H p = none → Q (.ref p) (upd H p (.lst (cutV xs lo hi)))
/-! ### in, not in: flat items -/
def flatV : V → Bool
  | .non => true
  | .bl _ => true
  | .int _ => true
  | .str _ => true
  | _ => false
/-- == of flat values -/
def eqV : V → V → Bool
  | .non, .non => true
  | .bl a, .bl b => a == b
  | .bl a, .int b => (if a then 1 else 0) == b
  | .int a, .bl b => a == (if b then 1 else 0)
  | .int a, .int b => a == b
  | .str a, .str b => a == b
  | _, _ => false
/-- the items' answers, read off the values (a value's own answer does not lean on its token) -/
def eqU (x : V) (u : Value) : Bool := match u with
  | .none => eqV .non x
  | .bool b => eqV (.bl b) x
  | .int i _ => eqV (.int i) x
  | .str z _ => eqV (.str z) x
  | _ => false
def inV (x : V) (xs : List V) : Bool := xs.any fun y => eqV y x
/-- x in a list or tuple of flat items -/
def rIn (K : PySem.W.Frag) (neg : Bool) : R2 := fun x y H Q => ∃ p xs, y = .ref p ∧ (SqL K H p xs ∨ SqT K H p xs) ∧ flatV x = true ∧ xs.all flatV = true ∧ Q (.bl (if neg then !inV x xs else inV x xs)) H
/-! ### len, list(x), tuple(x) of any list or tuple that is read -/
theorem call_len_seq : CallR X (.builtin "len") (fun xs H Q => ∃ p ys, xs = [.ref p] ∧ (SqL X.K H p ys ∨ SqT X.K H p ys) ∧ Q (.int ys.length) H) := by
  intro pins s σ H xs us Q I r h
  obtain ⟨p, ys, rfl, hq, q⟩ := h
  obtain ⟨u, rfl, rx⟩ := vals1 r
  cases rx
  have hn := line63
  rcases hq with hq | hq
  · obtain ⟨its, r', pl, hz⟩ := I.list hq
    have hlen := r'.length
    exact Calls.call_len_list pl.isList (by simp only [List.size_toArray] <;> omega) ⟨.int ys.length, H, I.tok _, ⟨s.toks + 1, by rw [List.size_toArray, hlen]⟩, q⟩
  · obtain ⟨its, r', pl, hz⟩ := I.tuple hq
    have hlen := r'.length
    exact len_tuple pl (by simp only [List.size_toArray] <;> omega) ⟨.int ys.length, H, I.tok _, ⟨s.toks + 1, by rw [List.size_toArray, hlen]⟩, q⟩
theorem call_len_str : CallR X (.builtin "len") (fun xs H Q => ∃ z, xs = [.str z] ∧ z.length ≤ sizeLine ∧ Q (.int z.length) H) := by
  intro pins s σ H xs us Q I r h
  obtain ⟨z, rfl, hz, q⟩ := h
  obtain ⟨u, rfl, t, rfl⟩ := vals1 r
  have hn := line63
  exact len_str (by omega) ⟨.int z.length, H, I.tok _, ⟨_, rfl⟩, q⟩
theorem call_list_of : CallR X (.type "list") (fun xs H Q => ∃ p ys, xs = [.ref p] ∧ (SqL X.K H p ys ∨ SqT X.K H p ys) ∧ ∀ l, H l = none → Q (.ref l) (upd H l (.lst ys))) := by
  intro pins s σ H xs us Q I r h
  obtain ⟨p, ys, rfl, hq, q⟩ := h
  obtain ⟨u, rfl, rx⟩ := vals1 r
  cases rx
  have fin : ∀ (its : List Value), Vals ys its → ys.length ≤ sizeLine → ∀ (h' : Heap) (c' : Nat), (∀ b o', s.heap.get? b = some o' → h'.get? b = some o') →
      h'.get? s.heap.objs.size = some { cls := .type "list", dict := none, data := .seq its.toArray c', slots := #[] } → EP X pins σ Q (.ref s.heap.objs.size) { s with heap := h' } := fun its r' hz h' c' kp e =>
    ⟨.ref s.heap.objs.size, _, I.laid (t' := s.toks) kp (Nat.le_refl _) (show ObjOk X.prog X.w _ h' _ (.lst ys) from ⟨hz, its, c', r', e⟩), rfl, q _ (I.hok.fresh (Nat.le_refl _))⟩
  rcases hq with hq | hq
  · obtain ⟨its, r', pl, hz⟩ := I.list hq
    have hlen := r'.length
    obtain ⟨o, ho, hc, n, hd⟩ := pl.isList
    exact call_list_seq p (.inl rfl) ho hc hd (fun h' c' kp e => fin its r' hz h' c' kp e) (by simp only [List.size_toArray] <;> omega)
  · obtain ⟨its, r', pl, hz⟩ := I.tuple hq
    have hlen := r'.length
    obtain ⟨o, ho, hc, n, hd⟩ := pl
    exact call_list_seq p (.inr rfl) ho hc hd (fun h' c' kp e => fin its r' hz h' c' kp e) (by simp only [List.size_toArray] <;> omega)
/-! ### the call of a builtin's method: o.m(..) -/
/-- the value is of that builtin type -/
def tyV (K : PySem.W.Frag) (T : String) (x : V) (H : Hp) : Prop := match x with
  | .str _ => T = "str"
  | .int _ => T = "int"
  | .ref p => (T = "list" ∧ ∃ xs, SqL K H p xs) ∨ (T = "tuple" ∧ ∃ o, K.lookup p = some o ∧ o.cls = .type "tuple" ∧ o.dict = none) ∨
      (T = "dict" ∧ ((∃ kvs, H p = some (.dK kvs)) ∨ ∃ kvs, H p = some (.dT kvs))) ∨ (T = "set" ∧ ∃ S n, H p = some (.set S n))
  | _ => False
theorem tyV_is {pins : List (Addr × Obj)} {σ : St} {H : Hp} {s : Shared} {T : String} {x : V} {v : Value} (I : Inv X pins σ H s) (r : RelV x v) (ty : tyV X.K T x H) :
    s.TypeIs v T ∧ ∀ a, v = .ref a → ∃ ob, s.heap.get? a = some ob ∧ ob.dict = none := by
  cases x with
  | str z =>
    obtain ⟨t, rfl⟩ := r
    cases (show T = "str" from ty)
    exact ⟨typeIs_str s z t, fun _ e => nomatch e⟩
  | int i =>
    obtain ⟨t, rfl⟩ := r
    cases (show T = "int" from ty)
    exact ⟨typeIs_int s i t, fun _ e => nomatch e⟩
  | ref p =>
    cases r
    rcases ty with ⟨rfl, xs, hq⟩ | ⟨rfl, o, hk, hc, hd⟩ | ⟨rfl, hk⟩ | ⟨rfl, S, n, hk⟩
    · obtain ⟨its, _, pl, _⟩ := I.list hq
      refine ⟨pl.isList.typeIs, fun a e => ?_⟩
      cases e
      obtain ⟨o, n, e, c, hd, _⟩ := pl
      exact ⟨o, e, hd⟩
    · refine ⟨⟨o, I.kIn p o hk, hc⟩, fun a e => ?_⟩
      cases e
      exact ⟨o, I.kIn _ o hk, hd⟩
    · have z : ∃ o, s.heap.get? p = some o ∧ o.ExactDict := by
        rcases hk with ⟨kvs, hk⟩ | ⟨kvs, hk⟩
        · obtain ⟨_, _, _, _, o, _, _, e, ex, _⟩ := I.hok p _ hk
          exact ⟨o, e, ex⟩
        · obtain ⟨_, _, _, _, o, _, _, e, ex, _⟩ := I.hok p _ hk
          exact ⟨o, e, ex⟩
      obtain ⟨o, e, ex⟩ := z
      refine ⟨⟨o, e, ex.1⟩, fun a e2 => ?_⟩
      cases e2
      exact ⟨o, e, ex.2.1⟩
    · obtain ⟨o, _, _, _, e, ex, _⟩ := I.hok p _ hk
      refine ⟨⟨o, e, ex.1⟩, fun a e2 => ?_⟩
      cases e2
      exact ⟨o, e, ex.2.1⟩
  | _ => exact False.elim ty
def tBM0 (K : PySem.W.Frag) (T : String) (r : V → List V → Hp → VK → Prop) (to : TE) : TE := fun σ H Q => to σ H fun x H1 => tyV K T x H1 ∧ r x [] H1 Q
def tBM (K : PySem.W.Frag) (T : String) (r : V → List V → Hp → VK → Prop) (to : TE) (t : TA) : TE := fun σ H Q => to σ H fun x H1 => tyV K T x H1 ∧ t σ H1 fun xs H2 => r x xs H2 Q
variable {o e : Expr} {es : List Expr} {to : TE} {t : TA} {name : Str} {apos cpos : Pos} {T id : String} {r : V → List V → Hp → VK → Prop}
theorem pe_bm0 (pa : PlainAttrs T) (slot : Slot T name id) (hty : typeOf (.builtin id) = pure (.type "method_descriptor")) (hm : MtR X id r) (ho : PE X o to)
    (hbase : attributeBase o name X.env (eval o X.env) = eval o X.env := by rfl) (hline : (apos.endLine == cpos.line) = true := by rfl) : PE X (.Call (.Attribute o name apos) [] [] cpos) (tBM0 X.K T r to) := by
  intro pins s σ H Q I h
  refine wpAny_Call_method0_late hbase hline (thn (ho pins s σ H _ I h) fun v s1 ⟨x, H1, I1, r1, ty, q1⟩ => ?_)
  obtain ⟨h1, h2⟩ := tyV_is I1 r1 ty
  exact ⟨T, id, pa, slot, hty, h1, h2, Calls.callWith_builtin rfl (PySem.evalArgs_none (hm pins s1 σ H1 x [] v [] Q I1 r1 .nil q1))⟩
theorem pe_bm (pa : PlainAttrs T) (slot : Slot T name id) (hty : typeOf (.builtin id) = pure (.type "method_descriptor")) (hm : MtR X id r) (ho : PE X o to) (ha : PA X (e :: es) t)
    (hbase : attributeBase o name X.env (eval o X.env) = eval o X.env := by rfl)
    (hfew : ((backTo cpos (starEach (e :: es) X.env)).all (fun x => !x.1) && (backToKw cpos (keywordEach [] X.env)).all (fun x => x.1.isSome)
      && decide ((e :: es).length + ([] : List Keyword).length + (if ([] : List Keyword).isEmpty then 0 else 1) < 30)) = true := by rfl)
    (hline : (apos.endLine == cpos.line) = true := by rfl) (hs : starEach (e :: es) X.env = (false, eval e X.env) :: starEach es X.env := by rfl) (hplain : (backTo cpos (starEach es X.env)).any (·.1) = false := by rfl) :
    PE X (.Call (.Attribute o name apos) (e :: es) [] cpos) (tBM X.K T r to t) := by
  intro pins s σ H Q I h
  refine wpAny_Call_method_late hbase hfew hline rfl (thn (ho pins s σ H _ I h) fun v s1 ⟨x, H1, I1, r1, ty, q1⟩ => ?_)
  obtain ⟨h1, h2⟩ := tyV_is I1 r1 ty
  refine ⟨T, id, pa, slot, hty, h1, h2, ?_⟩
  have hA := ha cpos pins s1 σ H1 _ I1 q1
  rw [hs] at hA ⊢
  refine Calls.callWith_builtin (by show (false || (backTo cpos (starEach es X.env)).any (·.1)) = false; rw [hplain] <;> rfl) (Calls.evalArgs_plain ?_)
  exact thn hA fun us s2 ⟨vs, H2, I2, r2, q2⟩ => hm pins s2 σ H2 x vs v us Q I2 r1 r2 q2
end
end L2

namespace L2
open PySem PySem.Spec PyProof.Rows

def MtM (X : Cx) (id : String) (r : V → List V → Hp → VK → Prop) : Prop :=
  ∀ (pins : List (Addr × Obj)) (s : Shared) (σ : St) (H : Hp) (x : V) (xs : List V) (v : Value) (us : List Value) (Q : VK), Inv X pins σ H s → RelV x v → Vals xs us → r x xs H Q →
    wpAny (model X.prog X.w) X.A (call (.builtin id) (v :: us)) (EP X pins σ Q) X.xe s

/-! ### lists of values -/
theorem Vals.one : ∀ {x : V} {us : List Value}, Vals [x] us → ∃ u, us = [u] ∧ RelV x u
  | _, _, .cons r .nil => ⟨_, rfl, r⟩
theorem Vals.zero : ∀ {us : List Value}, Vals [] us → us = []
  | _, .nil => rfl
section
variable {X : Cx} {pins : List (Addr × Obj)} {σ : St} {H : Hp} {s : Shared} {l b : Addr} {xs ys zs : List V}

/-! ### the two steps: a tracked list is rewritten, a new list is laid -/
theorem Inv.lset {its its' : List Value} {n : Nat} {f : Array Value → Array Value} {t' : Nat} (I : Inv X pins σ H s) (hH : H l = some (.lst xs))
    (e : s.heap.get? l = some { cls := .type "list", data := .seq its.toArray n }) (hf : f its.toArray = its'.toArray) (hv : Vals ys its') (hz : ys.length ≤ sizeLine) :
    Inv X pins σ (upd H l (.lst ys)) { s with heap := s.heap.update l (Obj.mapSeq f), toks := t' } := by
  have q := PySem.IsL.update e f
  rw [hf] at q
  refine I.write (x := l) (e := l) (by rw [hH]; exact trivial) (.inl rfl) (fun b' u hb hu => (Heap.get?_update_other s.heap (Obj.mapSeq f) (Ne.symm hb)).trans hu) ⟨_, q⟩ ?_
  exact ⟨hz, its', _, hv, q⟩
theorem Inv.lnew {its : List Value} {t' : Nat} (I : Inv X pins σ H s) (hv : Vals ys its) (hz : ys.length ≤ sizeLine) :
    Inv X pins σ (upd H s.heap.objs.size (.lst ys)) { s with heap := s.heap.push { cls := .type "list", data := .seq its.toArray }, toks := t' } :=
  I.laid (fun _ _ q => Heap.get?_push_of_some _ q) (Nat.le_refl _) ⟨hz, its, 0, hv, Heap.get?_push_size _ rfl⟩
theorem Inv.fresh (I : Inv X pins σ H s) : H s.heap.objs.size = none := I.hok.fresh (Nat.le_refl _)
theorem Inv.lstM (I : Inv X pins σ H s) (hH : H l = some (.lst xs)) : xs.length ≤ sizeLine ∧ ∃ (its : List Value) (n : Nat), Vals xs its ∧ xs.length = its.length ∧ s.heap.get? l = some { cls := .type "list", data := .seq its.toArray n } := by
  obtain ⟨z, its, n, r, e⟩ := I.hok l _ hH
  exact ⟨z, its, n, r, r.length, e⟩

end

section
variable {X : Cx}

/-! ### methods -/
def rAppend : V → List V → Hp → VK → Prop := fun x vs H Q => ∃ l xs y, x = .ref l ∧ vs = [y] ∧ H l = some (.lst xs) ∧ xs.length < sizeLine ∧ Q .non (upd H l (.lst (xs ++ [y])))
theorem mt_append : MtM X "list.append" rAppend := by
  intro pins s σ H x vs v us Q I rx rv h
  obtain ⟨l, xs, y, rfl, rfl, hH, hz, q⟩ := h
  cases rx
  obtain ⟨u, rfl, ru⟩ := rv.one
  obtain ⟨z, its, n, r, hl, e⟩ := I.lstM hH
  refine call_meets F.slot_list_append ⟨_, e, rfl⟩ F.entry_list_append (F.args_list_append_2 _ _) (PySem.list_append l its.toArray n u (by rw [List.size_toArray]; omega)) ⟨e, ?_⟩
  refine ⟨.non, _, I.lset (its' := its ++ [u]) hH e (by simp) (r.append (.cons ru .nil)) ?_, rfl, q⟩
  rw [List.length_append, List.length_singleton]
  omega

def rExtend : V → List V → Hp → VK → Prop := fun x vs H Q => ∃ l b xs zs, x = .ref l ∧ vs = [.ref b] ∧ H l = some (.lst xs) ∧ H b = some (.lst zs) ∧ xs.length + zs.length ≤ sizeLine ∧ Q .non (upd H l (.lst (xs ++ zs)))
def rPop : V → List V → Hp → VK → Prop := fun x vs H Q => ∃ l xs y, x = .ref l ∧ vs = [] ∧ H l = some (.lst xs) ∧ xs[xs.length - 1]? = some y ∧ Q y (upd H l (.lst xs.dropLast))
def rPopAt : V → List V → Hp → VK → Prop := fun x vs H Q => ∃ l xs i k y, x = .ref l ∧ vs = [.int i] ∧ H l = some (.lst xs) ∧ -(2 ^ 63) ≤ i ∧ i < 2 ^ 63 ∧ seqIndex? i xs.length = some k ∧ xs[k]? = some y ∧ Q y (upd H l (.lst (xs.eraseIdx k)))
def rReverse : V → List V → Hp → VK → Prop := fun x vs H Q => ∃ l xs, x = .ref l ∧ vs = [] ∧ H l = some (.lst xs) ∧ Q .non (upd H l (.lst xs.reverse))
def rClear : V → List V → Hp → VK → Prop := fun x vs H Q => ∃ l xs, x = .ref l ∧ vs = [] ∧ H l = some (.lst xs) ∧ Q .non (upd H l (.lst []))
theorem mt_clear : MtM X "list.clear" rClear := by
  intro pins s σ H x vs v us Q I rx rv h
  obtain ⟨l, xs, rfl, rfl, hH, q⟩ := h
  cases rx
  have hus := rv.zero
  subst hus
  obtain ⟨z, its, n, r, hl, e⟩ := I.lstM hH
  refine call_meets F.slot_list_clear ⟨_, e, rfl⟩ F.entry_list_clear (F.args_list_clear_1 _) (AutoSeq1.list_clear_list_0 l its.toArray n (by rw [List.size_toArray]; omega)) ⟨e, ?_⟩
  exact ⟨.non, _, I.lset (its' := []) (ys := []) hH e rfl .nil (Nat.zero_le _), rfl, q⟩

/-! ### list + list, list += list, list * int -/
def rCat : R2 := fun x y H Q => ∃ l b xs zs, x = .ref l ∧ y = .ref b ∧ H l = some (.lst xs) ∧ H b = some (.lst zs) ∧ xs.length + zs.length ≤ sizeLine ∧ ∀ p, H p = none → Q (.ref p) (upd H p (.lst (xs ++ zs)))
theorem op_cat : OpR X (binaryOp .Add) rCat := by
  intro pins s σ H x y v u Q I rx ry h
  obtain ⟨l, b, xs, zs, rfl, rfl, hH, hB, hz, q⟩ := h
  cases rx
  cases ry
  obtain ⟨z, its, n, r, hl, e⟩ := I.lstM hH
  obtain ⟨z2, its2, n2, r2, hl2, e2⟩ := I.lstM hB
  refine PySem.P.add_list e e2 ?_ (by rw [List.size_toArray, List.size_toArray]; omega)
  have ea : its.toArray ++ its2.toArray = (its ++ its2).toArray := by simp
  rw [ea]
  exact ⟨.ref _, _, I.lnew (t' := s.toks) (r.append r2) (by rw [List.length_append]; omega), rfl, q _ I.fresh⟩
/-- a list times an int (a negative one is nothing) -/
def rRep : R2 := fun x y H Q => ∃ l k xs, x = .ref l ∧ y = .int k ∧ H l = some (.lst xs) ∧ -(2 ^ 63) ≤ k ∧ k < 2 ^ 63 ∧ xs.length * k.toNat ≤ sizeLine ∧
  ∀ p, H p = none → Q (.ref p) (upd H p (.lst (List.replicate k.toNat xs).flatten))
/-! ### del xs[i] -/
end

/-! ### xs[a:b] = ys -/
section
variable {prog : Program} {w : World} {A : Around} {E : Value → Shared → Prop} {s : Shared}
set_option maxRecDepth 100000 in
end

section
variable {X : Cx}
end
end L2

namespace Att
open PySem PySem.W PySem.Calls PyProof.Rows

/-! ### the script -/
theorem ints_of_wellAll {P : Params} {h : Heap} : ∀ (ns : List Int) (vs : List Value), WellAll P h vs (ns.map WData.int) → IntsAre vs ns := by
  intro ns
  induction ns with
  | nil =>
    intro vs w
    rw [List.map_nil] at w
    cases w
    exact .nil
  | cons n ns ih =>
    intro vs w
    rw [List.map_cons] at w
    cases w with
    | cons a b =>
      cases a
      exact .cons _ _ (ih _ b)

theorem script_of {l : OpenLaw} {n : Nat} (hn : l.most = some n) {P : Params} {h : Heap} {args : List WData} {vals : List Value}
    (hpre : l.row.toRowW.claim.pre args = true) (hwl : WellAll P h vals args) :
    ∃ a vs ns, vals = [Value.ref a] ∧ args = [WData.list (ns.map WData.int)] ∧ h.get? a = some { cls := .type "list", data := .seq vs.toArray } ∧ IntsAre vs ns ∧ ns.length ≤ n := by
  have hsh : WShape.hasAll [] args [.list .int] = true := (pre_splitW hpre).1
  have hc : l.pre.holds [] { args := args } = true := (pre_splitW hpre).2
  obtain ⟨d, r, rfl, h1, h2⟩ := hasAllW_cons hsh
  obtain rfl := hasAllW_nil h2
  obtain ⟨xs, rfl, h3⟩ := hasW_list h1
  obtain ⟨ns, rfl⟩ := items_int h3
  have hlen : ns.length ≤ n := by
    unfold OpenLaw.pre at hc
    have h4 : (WTm.not (.lt (.lit (.int (n : Int))) (.len (.arg 0)))).holds [] { args := [.list (ns.map .int)] } = true := by
      have h4 := (holds_andW hc).1
      rw [hn] at h4
      exact h4
    have h5 := condW_of h4 (w_not (w_lt w_lit (w_len_list (w_arg rfl))))
    rw [List.length_map] at h5
    refine Nat.le_of_not_lt fun q => ?_
    have q' : (n : Int) < ((ns.length : Nat) : Int) := by omega
    first
      | (rw [decide_eq_true q'] at h5; exact absurd h5 (by decide))
      | (simp at h5; omega)
  cases hwl with
  | cons w1 w2 =>
    cases w2
    cases w1 with
    | list ho hall => exact ⟨_, _, ns, rfl, rfl, ho, ints_of_wellAll ns _ hall, hlen⟩

theorem post_true (l : OpenLaw) (args : List WData) : l.row.toRowW.claim.post args (.bool true) args = true :=
  postW_of (r := l.row.toRowW) (X := (true == true))
    (show WShape.has [] (.bool true) .bool = true by first | rfl | decide | simp [WShape.has, WShape.arms, WShape.armsAll])
    (show (WTm.eq .res (.lit (.bool true))).value [] { args := args, res := some (.bool true), after := args } = some (.bool (true == true)) from w_eq_bool (w_res rfl) w_lit) rfl

/-! ### the attachment: holds_open's last premise (the goal 'hc' behind k_head) from a wpAny of the law's body -/
/-- the same from a codeAny of the CALL (for a layer whose function contracts speak of calls) -/
theorem attach_call {l : OpenLaw} {n : Nat} {q : Program} {loose : List Str} {XP : (Str → Option Value) → Heap → Prop} {YP : World → Heap → Prop} {d : DefRec}
    (hn : l.most = some n) (hdf : d.params.defaults = [])
    (call : ∀ (w : World) (s₀ s₁ : Shared) (mg mb : Str → Option Value) (fa : Addr) (o : Obj) (pm cd doc : Value) (a : Addr) (vs : List Value) (ns : List Int),
      Ground q loose [] XP w s₀ mg mb s₁.heap → YP w s₁.heap →
      s₁.heap.get? fa = some o → o.data = .func (docDef d.name d.params d.body d.scope pm cd doc) → s₁.heap.CodeRec cd d.name → mg d.name = some (.ref fa) →
      s₁.heap.get? a = some { cls := .type "list", data := .seq vs.toArray } → IntsAre vs ns → ns.length ≤ n → s₁.gens = #[] →
      codeAny (model l.prog w) callerA (.call (.ref fa) ⟨[.ref a], []⟩) (fun r s' => r = .ok (.ret (.bool true)) ∧ OldK s₁.heap s'.heap ∧ s'.os = s₁.os ∧ AllBare s'.gens) s₁) :
    WalkO q loose XP YP l.row.toRowW d [] (fun f vs => PySem.call f vs) := by
  intro w s₀ s₁ mg mb G Y fa o pm cd doc dV kV ho hd hcd hD hmg hg args vals as hpre hlay hrd hwl hlo
  obtain rfl : dV = .none := Dflts.none hD hdf
  obtain rfl : kV = .none := Dflts.noKw hD
  obtain ⟨a, vs, ns, rfl, rfl, hobj, hints, hlen⟩ := script_of hn hpre hwl
  refine enter_call (codeAny_mono (call w s₀ s₁ mg mb fa o pm cd doc a vs ns G Y ho (fd_plain hd) hcd hmg hobj hints hlen hg) fun r s' hq => ?_)
  obtain ⟨rfl, h2, h3, h4⟩ := hq
  exact ⟨.inl ⟨.bool true, .bool true, [], rfl, fun _ => rfl, .bool true, post_true l _, fun _ => ⟨List.Pairwise.nil, fun _ hm => (nomatch hm)⟩⟩, h2, h3, h4⟩

/-! ### rules over ANY heap (no ledger) from facts about the written part K: the library's own take a ledger (News) for what they write -/
section
variable {prog : Program} {w : World} {A : Around} {E : Value → Shared → Prop} {s : Shared} {K : Frag}

/-! the whole heap as the ledger: makes every rule that writes through a ledger a rule over any heap -/
def noObjs (h : Heap) : Heap := { h with objs := #[] }
def ledger (h : Heap) (L d : Addr) : List (Addr × Obj) := (List.range h.objs.size).filterMap fun a => if a = L ∨ a = d then none else (h.get? a).map fun o => (a, o)
end
end Att

namespace L2
open PySem PySem.Spec PyProof.Rows

theorem vals_ints : ∀ {vs : List Value} {ns : List Int}, IntsAre vs ns → Vals (ns.map V.int) vs
  | _, _, .nil => .nil
  | _, _, .cons n t h => .cons ⟨t, rfl⟩ (vals_ints h)

/-- nothing is tracked but the script, known to the object (or it is an object of the module) -/
def Only (H : Hp) : Prop := ∀ b, H b = none ∨ ∃ o xs, H b = some (.frz o (.lst xs))

/-- THE HEAD: the law's promise, at the heap behind the top. F, the promise of the law's def, may use that base is part of the heap (so K.In base, base.Ns mainGlobals mg stand in Mod) -/
theorem law_call {P : Program} {w : World} {K : PySem.W.Frag} {mg mb : Str → Option Value} {CX : CXT} {k : Nat} {fa a : Addr} {fd : FuncData} {x : Str} {sp : Sp} {s₁ : Shared} {vs : List Value} {ns : List Int}
    (KX : K.In s₁.heap) (hns : s₁.heap.Ns mainGlobals mg) (hb : s₁.heap.Ns builtinsNs mb) (hbb : ∀ x : Str, x ≠ "__name__" → mb x = bootBuiltins x) (hlim : s₁.heap.NoLimit) (hg : s₁.gens = #[])
    (ha : s₁.heap.get? a = some { cls := .type "list", data := .seq vs.toArray }) (hi : IntsAre vs ns) (hl : ns.length ≤ sizeLine) (hr : Room k callerA)
    (F : ∀ base : Heap, K.In base → base.Ns mainGlobals mg → FnOk P w K mg base CX k fa fd [x] sp) (hbind : ∀ (s : Shared) (u : Value), BindsTo s fd ⟨[u], []⟩ [(x, u)])
    (hsp : ∀ H : Hp, Only H → SqL K H a (ns.map V.int) → sp [.ref a] H (fun v _ => v = .bl true) fun _ _ _ => False)
    (hCX : ∀ H e s', CX [] H s₁ (fun _ _ _ => False) e s' → False) :
    codeAny (model P w) callerA (.call (.ref fa) ⟨[.ref a], []⟩) (fun r s' => r = .ok (.ret (.bool true)) ∧ OldK s₁.heap s'.heap ∧ s'.os = s₁.os ∧ AllBare s'.gens) s₁ := by
  have rv := vals_ints hi
  have lenV := hi.length
  -- from an abstract heap in which nothing but the script may be tracked
  have core : ∀ H : Hp, Only H → SqL K H a (ns.map V.int) → HOk P w H s₁.heap → (∀ b, H b ≠ none → b = a) → (H a ≠ none → K.lookup a = none) →
      codeAny (model P w) callerA (.call (.ref fa) ⟨[.ref a], []⟩) (fun r s' => r = .ok (.ret (.bool true)) ∧ OldK s₁.heap s'.heap ∧ s'.os = s₁.os ∧ AllBare s'.gens) s₁ := by
    intro H hO hS hok hA hK
    have base_of : ∀ {b : Addr} {o : Obj}, s₁.heap.get? b = some o → H b = none → (hidT s₁.heap H).get? b = some o := fun e n => hidT_get e n
    have noA : ∀ {b : Addr} {o : Obj} {es : Array DictEntry} {ep : Nat}, s₁.heap.get? b = some o → o.data = .dict es ep → H b = none := fun {b o es ep} e d => by
      cases q : H b with
      | none => rfl
      | some u =>
        have e' : b = a := hA b (by rw [q]; simp)
        subst e'
        rw [ha] at e; cases e
        have d' : Data.seq vs.toArray _ = Data.dict es ep := d
        cases d'
    have nsK : ∀ {b : Addr} {m : Str → Option Value}, s₁.heap.Ns b m → (hidT s₁.heap H).Ns b m := fun {b m} ⟨o, es, ep, e, d, r⟩ => ⟨o, es, ep, base_of e (noA e d), d, r⟩
    have hKb : K.In (hidT s₁.heap H) := fun b o e => base_of (KX b o e) (by
      cases q : H b with
      | none => rfl
      | some u =>
        have e' : b = a := hA b (by rw [q]; simp)
        subst e'
        rw [hK (by rw [q]; simp)] at e; cases e)
    have hM : Mod K mg (hidT s₁.heap H) := ⟨hKb, nsK hns, ⟨mb, nsK hb, hbb⟩, let ⟨mc, h1, h2⟩ := hlim; ⟨mc, nsK h1, h2⟩⟩
    have e0 : Env0 P w K mg (hidT s₁.heap H) callerA [] s₁ H := ⟨rfl, hM, fun b o e => of_hidT e, Nat.le_of_eq (hidT_size _ _), trivial, fun b hb => absurd (show b ∈ ([] : List Addr) from hb) (by simp), hok, .of_eq hg⟩
    refine codeAny_mono ((F _ hKb (nsK hns)).run callerA [] s₁ H ⟨[.ref a], []⟩ [.ref a] [.ref a] _ _ hr e0 (hbind s₁ (.ref a)) (.cons rfl .nil) (hsp H hO hS)) fun r s' h => ?_
    cases r with
    | error e => exact (hCX H e s' h).elim
    | ok fl =>
      cases fl with
      | next => exact False.elim h
      | brk => exact False.elim h
      | cont => exact False.elim h
      | ret u =>
        obtain ⟨v, H', os, bare, un, hok', r', q⟩ := h
        have q' : v = .bl true := q
        subst q'
        obtain rfl : u = Value.bool true := r'
        refine ⟨rfl, OldK.of_keep fun b o e => ?_, os, bare⟩
        cases q : H b with
        | none => exact un.keep b o e q (by intro z; exact absurd (show b ∈ ([] : List Addr) from z) (by simp)) (by simp)
        | some u =>
          rcases hO b with z | ⟨ob, xs, z⟩
          · rw [q] at z; cases z
          · have z2 := un.frzs b ob _ z
            obtain ⟨e1, _⟩ := hok b _ z
            obtain ⟨e2, _⟩ := hok' b _ z2
            rw [e] at e1; cases e1
            exact e2
  cases hk : K.lookup a with
  | some o =>
    -- the script is one of the module's own objects
    have e := KX a o hk
    rw [ha] at e
    cases e
    refine core (fun _ => none) (fun _ => .inl rfl) (.inr ⟨_, vs.toArray, _, hk, rfl, rfl, rfl, by rw [List.size_toArray, lenV]; exact hl, by simpa using rv⟩) (fun b u z => by have z' : (none : Option HO) = some u := z; cases z') (fun b z => absurd rfl z) fun z => absurd rfl z
  | none =>
    refine core (fun b => if b = a then some (.frz { cls := .type "list", data := .seq vs.toArray } (.lst (ns.map V.int))) else none) (fun b => ?_) (.inl (.inr ⟨{ cls := .type "list", data := .seq vs.toArray }, if_pos rfl⟩)) (fun b u z => ?_) (fun b z => ?_) fun _ => hk
    · by_cases hb : b = a
      · exact .inr ⟨_, _, if_pos hb⟩
      · exact .inl (if_neg hb)
    · by_cases hb : b = a
      · have z' := (if_pos hb).symm.trans z
        cases z'
        subst hb
        exact ⟨ha, by rw [List.length_map]; exact hl, vs, _, rv, ha⟩
      · have z' := (if_neg hb).symm.trans z
        cases z'
    · by_cases hb : b = a
      · exact hb
      · exact absurd (if_neg hb) z
end L2

namespace L2
open PySem PySem.Spec PyProof.Rows

abbrev KOf {K : PySem.W.Frag} {h : Heap} (_ : K.In h) : PySem.W.Frag := K

/-- the goal that k_head leaves (case hc), from the law's promise. F gives the function object fd (K's own) once, then the promise over every base -/
theorem walk_of {l : PySem.W.OpenLaw} {n k : Nat} {q : Program} {loose : List Str} {XP : (Str → Option Value) → Heap → Prop} {YP : World → Heap → Prop} {d : DefRec} {K : Params → PySem.W.Frag} {CX : World → CXT} {sp : World → Sp} {x : Str}
    (hn : l.most = some n) (hn2 : n ≤ sizeLine) (hdf : d.params.defaults = []) (hr : Room k callerA)
    (hY : ∀ (w : World) (h : Heap), YP w h → (K w.params).In h)
    (F : ∀ (w : World) (mg : Str → Option Value) (fa : Addr) (h : Heap), (K w.params).In h → h.Ns mainGlobals mg → mg d.name = some (.ref fa) →
      ∃ fd : FuncData, (∀ (s : Shared) (u : Value), BindsTo s fd ⟨[u], []⟩ [(x, u)]) ∧
        ∀ base : Heap, (K w.params).In base → base.Ns mainGlobals mg → FnOk l.prog w (K w.params) mg base (CX w) k fa fd [x] (sp w))
    (hsp : ∀ (w : World) (H : Hp) (a : Addr) (ns : List Int), ns.length ≤ n → Only H → SqL (K w.params) H a (ns.map V.int) → sp w [.ref a] H (fun v _ => v = .bl true) fun _ _ _ => False)
    (hCX : ∀ (w : World) (H : Hp) (s : Shared) (e : Value) (s' : Shared), CX w [] H s (fun _ _ _ => False) e s' → False) :
    PySem.W.WalkO q loose XP YP l.row.toRowW d [] (fun f vs => PySem.call f vs) := by
  refine Att.attach_call hn hdf fun w s₀ s₁ mg mb fa o pm cd doc a vs ns G Y ho hd hcd hmg hobj hints hlen hg => ?_
  have KX := hY w _ Y
  obtain ⟨fd, hb, hF⟩ := F w mg fa _ KX G.T.g hmg
  exact law_call KX G.T.g G.T.b G.T.builtins G.T.nolimit hg hobj hints (Nat.le_trans hlen hn2) hr hF hb (fun H hO hS => hsp w H a ns hlen hO hS) fun H e s' => hCX w H s₁ e s'
end L2


/-! SHORT WORDS over the layer: a def of the text, its body, what a loop and a test want. -/
namespace L2
open PySem PySem.Spec PyProof.Rows

/-! ### the text by places -/
/-- the j-th statement of a class's body -/
def inClass (s : Stmt) (j : Nat) : Stmt := match s with
  | .ClassDef _ _ _ body _ _ _ _ _ _ _ => body.getD j (.Pass ⟨0, 0, 0, 0⟩)
  | _ => .Pass ⟨0, 0, 0, 0⟩
def defArgs (s : Stmt) : Arguments := match s with
  | .FunctionDef _ a _ _ _ _ _ _ _ _ => a
  | _ => { posonlyargs := [], args := [], vararg := none, kwonlyargs := [], kw_defaults := [], kwarg := none, defaults := [] }
def defBody (s : Stmt) : List Stmt := match s with
  | .FunctionDef _ _ b _ _ _ _ _ _ _ => b
  | _ => []
def defScope (s : Stmt) : Scope := match s with
  | .FunctionDef _ _ _ _ _ _ sc _ _ _ => sc
  | _ => { kind := .function, names := [], isGenerator := false, isCoroutine := false }

/-! ### no exception leaves a def -/
abbrev CX0 : CXT := fun _ _ _ _ _ _ => False
abbrev E0 : XK := fun _ _ _ => False
theorem pass0 {X : Cx} : Passes CX0 X E0 := fun _ _ _ _ _ _ _ h => h.elim

/-! ### a def (or method) of the text as it stands behind the top -/
structure Fun (K : PySem.W.Frag) (x qual : Str) (st : Stmt) (f : Addr) (fd : FuncData) : Prop where
  ex : ∃ (oc : Value) (od : Option Addr) (kV doc pm : Value) (an : Option Addr) (cdv ct : Value) (osl : Array (Option Value)),
    fd = PySem.W.fnOf x qual (defArgs st) (defBody st) (defScope st) .none kV doc pm an cdv ct ∧ K.lookup f = some ⟨oc, od, .func fd, osl⟩ ∧ PySem.W.codeIn K cdv qual = true
  kp : PySem.W.keepIn K (.ref f) = true
section
variable {P : Program} {w : World} {K : PySem.W.Frag} {mg : Str → Option Value} {base : Heap}
/-- how its arguments bind (no defaults): h is «fun _ _ _ _ _ _ us hl => match us, hl with | [_, _], _ => rfl», one _ a parameter -/
theorem Fun.binds {x qual : Str} {st : Stmt} {f : Addr} {fd : FuncData} {ps : List Str} (F : Fun K x qual st f fd)
    (h : ∀ (kV doc pm : Value) (an : Option Addr) (cdv ct : Value) (us : List Value), us.length = ps.length → bindArgs (PySem.W.fnOf x qual (defArgs st) (defBody st) (defScope st) .none kV doc pm an cdv ct) ⟨us, []⟩ = pure (ps.zip us)) : Binds K fd ps [] := by
  obtain ⟨oc, od, kV, doc, pm, an, cdv, ct, osl, rfl, lk, hcd⟩ := F.ex
  exact .all (h kV doc pm an cdv ct)
theorem fun_mk {x qual : Str} {st : Stmt} {f : Addr} {oc : Value} {od an : Option Addr} {osl : Array (Option Value)} {kV doc pm cdv ct : Value} (l : K.lookup f = some ⟨oc, od, .func (PySem.W.fnOf x qual (defArgs st) (defBody st) (defScope st) .none kV doc pm an cdv ct), osl⟩)
    (c : PySem.W.codeIn K cdv qual = true) (k : PySem.W.keepIn K (.ref f) = true) : Fun K x qual st f (PySem.W.fnOf x qual (defArgs st) (defBody st) (defScope st) .none kV doc pm an cdv ct) := ⟨⟨oc, od, kV, doc, pm, an, cdv, ct, osl, rfl, l, c⟩, k⟩
end
/-! ### expressions in short: the name that stands in the i-th slot -/
section
variable {X : Cx}
theorem pv (i : Nat) {x : Str} {pos : Pos} (hN : X.N[i]? = some x := by rfl) (hv : Vis X.env.scope x := by first | exact Or.inl rfl | exact Or.inr (Or.inl rfl) | exact Or.inr (Or.inr rfl)) (hd : (x == ("__debug__" : Str)) = false := by decide)
    (hcd : (x == ("__classdict__" : Str)) = false := by decide) : PE X (.Name x pos) (tVar i) := pe_var hN hv hd hcd
end

/-! ### tests -/
theorem iteF {A B : Prop} (h : B) : if false = true then A else B := by
  rw [if_neg Bool.false_ne_true]
  exact h
theorem iteT {A B : Prop} (h : A) : if true = true then A else B := by
  rw [if_pos rfl]
  exact h
/-! ### heaps -/
/-- all that was tracked is as it was -/
def Same (H H' : Hp) : Prop := ∀ b o, H b = some o → H' b = some o
theorem Same.refl (H : Hp) : Same H H := fun _ _ h => h
theorem Same.trans {H H1 H2 : Hp} (a : Same H H1) (b : Same H1 H2) : Same H H2 := fun c o h => b c o (a c o h)
theorem Same.free {H H' : Hp} (e : Same H H') {l : Addr} (h : H' l = Option.none) : H l = Option.none := by
  cases q : H l with
  | none => rfl
  | some o =>
    rw [e l o q] at h
    cases h
theorem Same.seq {K : PySem.W.Frag} {H H' : Hp} {a : Addr} {xs : List V} (e : Same H H') (h : SqL K H a xs) : SqL K H' a xs := by
  rcases h with (h | ⟨o, h⟩) | h
  · exact .inl (.inl (e _ _ h))
  · exact .inl (.inr ⟨o, e _ _ h⟩)
  · exact .inr h

end L2

namespace L2
open PySem Builtin Builtin.Str
/-! ### texts by their codes -/
abbrev tx (cs : List Nat) : Str := ⟨cs.toArray⟩
theorem tx_inj {a b : List Nat} : tx a = tx b ↔ a = b := by
  constructor
  · intro h
    have h2 : a.toArray = b.toArray := congrArg Str.cps h
    simpa using h2
  · rintro rfl; rfl
theorem tx_cps (cs : List Nat) : (tx cs).cps.toList = cs := by simp [tx]
theorem tx_len (cs : List Nat) : (tx cs).length = cs.length := by simp [tx, Str.length]
theorem tx_app (a b : List Nat) : tx a ++ tx b = tx (a ++ b) := by
  show Str.mk (a.toArray ++ b.toArray) = Str.mk (a ++ b).toArray
  simp
def sIx' (n d : Nat) : Option Int → Nat
  | none => d
  | some v => if v < 0 then (v + (n : Int)).toNat else min v.toNat n
def cutL {α : Type} (xs : List α) (lo hi : Option Int) : List α := (xs.drop (sIx' xs.length 0 lo)).take (sIx' xs.length xs.length hi - sIx' xs.length 0 lo)
end L2

namespace L2
open PySem Builtin Builtin.Str
/-- a number's figures -/
def figs (n : Nat) : List Nat := (Nat.toDigits 10 n).map Char.toNat
def figB (c : Nat) : Bool := decide (48 ≤ c) && decide (c ≤ 57)
def valL (cs : List Nat) : Nat := cs.foldl (fun acc c => acc * 10 + (c - 48)) 0

/-! ### split -/
def splitL (c : Nat) : List Nat → List (List Nat)
  | [] => [[]]
  | x :: xs => if x = c then [] :: splitL c xs else match splitL c xs with
    | [] => [[x]]
    | p :: ps => (x :: p) :: ps
/-! ### partition, find, rfind, count -/
/-- the first place, the last place of a sign -/
def findL (c : Nat) (cs : List Nat) : Int := match cs.findIdx? (· == c) with
  | some i => (i : Int)
  | none => -1
def rfindL (c : Nat) : List Nat → Int
  | [] => -1
  | x :: xs => if 0 ≤ rfindL c xs then rfindL c xs + 1 else if x = c then 0 else -1
/-! ### join -/
def joinL (sep : List Nat) : List (List Nat) → List Nat
  | [] => []
  | [x] => x
  | x :: y :: r => x ++ sep ++ joinL sep (y :: r)
end L2


namespace L2
open PySem PySem.Spec PyProof.Rows

/-! ### list comprehensions -/
section
variable {prog : Program} {w : World} {A : Around} {R : Result → Shared → Prop} {s : Shared}
theorem compLoop_any {elt target iter : Expr} {ifs : List Expr} {scope : Scope} {pos : Pos} {it acc : Value} {env : Env} (I : Nat → Shared → Prop)
    (turn : ∀ n s, I n s → wpAny (model prog w) A (pyNext it) (fun r s₁ => match r with
      | none => R (.ok .next) s₁
      | some v => wpAny (model prog w) A (letOwnedTupleGo target it v) (fun _ s₀ => wpAny (model prog w) A (assign target env v) (fun _ s₂ =>
          wpAny (model prog w) A (forIn ifs true fun c r => if r = true then do let ok ← isTrue c env (eval c env); pure (ForInStep.yield ok) else pure (ForInStep.yield r)) (fun ok s₃ =>
            if ok = true then wpAny (model prog w) A (eval elt env) (fun x s₄ =>
              wpAny (model prog w) A (call (.builtin "list.append") [acc, x]) (fun _ s₅ => ∃ m, m < n ∧ I m s₅) (notedBy (model prog w) A env fun e s' => R (.error e) s') s₄) (notedBy (model prog w) A env fun e s' => R (.error e) s') s₃
            else ∃ m, m < n ∧ I m s₃) (notedBy (model prog w) A env fun e s' => R (.error e) s') s₂) (notedBy (model prog w) A env fun e s' => R (.error e) s') s₀) (notedBy (model prog w) A env fun e s' => R (.error e) s') s₁) (notedBy (model prog w) A env fun e s' => R (.error e) s') s)
    (n : Nat) (h : I n s) :
    codeAny (model prog w) A (.compLoop (.ListComp elt [⟨target, iter, ifs, 0⟩] scope pos) 0 it acc env) R s := by
  refine codeAny_loop rfl I (fun n s hI => ?_) n h
  show wpAny _ A ((compTurn (.ListComp elt [⟨target, iter, ifs, 0⟩] scope pos) 0 it acc env).onRaise (fun x => do noteFrame x env; theTreesLotGoes x)) _ _ s
  refine wpAny_noted ?_
  rw [compTurn_list]
  refine wpAny_bind (wpAny_standAt (wpAny_bind (wpAny_mono (turn n s hI) (fun r s₁ h₁ => ?_) fun _ _ h' => h')))
  cases r with
  | none => exact wpAny_pure h₁
  | some v =>
    refine wpAny_bind (wpAny_mono h₁ (fun _ s₀ h₀ => ?_) fun _ _ h' => h')
    refine wpAny_bind (wpAny_mono h₀ (fun _ s₂ h₂ => wpAny_bind (wpAny_mono h₂ (fun ok s₃ h₃ => ?_) fun _ _ h' => h')) fun _ _ h' => h')
    cases ok with
    | false => exact wpAny_pure ⟨rfl, h₃⟩
    | true =>
      exact wpAny_bind (wpAny_bind (wpAny_mono h₃ (fun x s₄ h₄ => wpAny_bind (wpAny_mono h₄ (fun _ s₅ h₅ => wpAny_pure (wpAny_pure ⟨rfl, h₅⟩)) fun _ _ h' => h')) fun _ _ h' => h'))
end

/-- the cells that a block takes along -/
def closL (cells : List (Str × Addr)) : List (Str × NameKind) → List (Str × Addr) → List (Str × Addr)
  | [], acc => acc
  | (n, k) :: r, acc => closL cells r (if (k == .free) = true then (n, (cells.lookup n).getD 0) :: acc else acc)
theorem closureFor_go {env : Env} : ∀ (names : List (Str × NameKind)) (acc : List (Str × Addr)), (∀ x ∈ names, x.2 = .free → ∃ c, env.cells.lookup x.1 = some c) →
    (forIn names acc fun (x : Str × NameKind) (r : List (Str × Addr)) => match x with
      | (name, kind) => if (kind == .free) = true then (do let c ← cellOf env name; pure (ForInStep.yield ((name, c) :: r))) else pure (ForInStep.yield r)) = (pure (closL env.cells names acc) : Sem _)
  | [], acc, _ => rfl
  | (n, k) :: r, acc, h => by
    rw [List.forIn_cons]
    show ((if (k == .free) = true then (do let c ← cellOf env n; pure (ForInStep.yield ((n, c) :: acc))) else pure (ForInStep.yield acc)) >>= _) = _
    by_cases hk : (k == .free) = true
    · obtain ⟨c, hc⟩ := h (n, k) List.mem_cons_self (by simpa using hk)
      have e : cellOf env n = pure c := by
        unfold cellOf
        rw [hc]
      rw [if_pos hk, e]
      show (forIn r ((n, c) :: acc) _ : Sem _) = _
      rw [closureFor_go r _ fun x hx => h x (List.mem_cons_of_mem _ hx)]
      conv => rhs; unfold closL
      rw [if_pos hk, hc]
      rfl
    · rw [if_neg hk]
      show (forIn r acc _ : Sem _) = _
      rw [closureFor_go r _ fun x hx => h x (List.mem_cons_of_mem _ hx)]
      conv => rhs; unfold closL
      rw [if_neg hk]
theorem closureFor_eq {scope : Scope} {env : Env} (h : ∀ x ∈ scope.names, x.2 = .free → ∃ c, env.cells.lookup x.1 = some c) : closureFor scope env = pure (closL env.cells scope.names []) := by
  have e := closureFor_go (env := env) scope.names [] h
  unfold closureFor
  show ((forIn scope.names ([] : List (Str × Addr)) _ : Sem _) >>= fun cs => pure cs) = _
  have e2 : (forIn scope.names ([] : List (Str × Addr)) fun (x : Str × NameKind) (r : List (Str × Addr)) => match x with
      | (name, kind) => if (kind == .free) = true then (do let c ← cellOf env name; pure (ForInStep.yield ((name, c) :: r))) else pure (ForInStep.yield r)) = (pure (closL env.cells scope.names []) : Sem _) := e
  rw [e2]
  rfl
theorem closL_sub {cells : List (Str × Addr)} {x : Str} {c : Addr} : ∀ (names : List (Str × NameKind)) (acc : List (Str × Addr)), (∀ y ∈ names, y.2 = .free → ∃ c, cells.lookup y.1 = some c) →
    (∀ c, acc.lookup x = some c → cells.lookup x = some c) → (closL cells names acc).lookup x = some c → cells.lookup x = some c
  | [], acc, _, ha, h => ha c h
  | (n, k) :: r, acc, hf, ha, h => by
    unfold closL at h
    refine closL_sub r _ (fun y hy => hf y (List.mem_cons_of_mem _ hy)) (fun c' h' => ?_) h
    by_cases hk : (k == .free) = true
    · rw [if_pos hk] at h'
      obtain ⟨c0, hc0⟩ := hf (n, k) List.mem_cons_self (by simpa using hk)
      rw [List.lookup_cons] at h'
      cases hx : x == n with
      | true =>
        rw [hx] at h'
        have e : x = n := eq_of_beq hx
        subst e
        have h'' : (cells.lookup x).getD 0 = c' := Option.some.inj h'
        have hc0' : cells.lookup x = some c0 := hc0
        rw [hc0'] at h'' ⊢
        exact congrArg some h''
      | false =>
        rw [hx] at h'
        exact ha c' h'
    · rw [if_neg hk] at h'
      exact ha c' h'
theorem closL_has {cells : List (Str × Addr)} {x : Str} : ∀ (names : List (Str × NameKind)) (acc : List (Str × Addr)), ((x, NameKind.free) ∈ names ∨ ∃ c, acc.lookup x = some c) → ∃ c, (closL cells names acc).lookup x = some c
  | [], acc, h => by
    rcases h with h | h
    · cases h
    · exact h
  | (n, k) :: r, acc, h => by
    unfold closL
    refine closL_has r _ ?_
    rcases h with h | ⟨c, h⟩
    · rcases List.mem_cons.mp h with e | e
      · cases e
        refine .inr ⟨(cells.lookup x).getD 0, ?_⟩
        rw [if_pos (by rfl), List.lookup_cons]
        simp
      · exact .inl e
    · refine .inr ?_
      by_cases hk : (k == .free) = true
      · rw [if_pos hk, List.lookup_cons]
        cases hx : x == n with
        | true => exact ⟨_, rfl⟩
        | false => exact ⟨c, h⟩
      · rw [if_neg hk]
        exact ⟨c, h⟩

/-- a comprehension's names: its own (tn), those of the def that it reads (cn, at the places js) -/
structure CompSc (X : Cx) (scope : Scope) (tn cn : List Str) (js : List Nat) : Prop where
  kind : scope.kind = .function
  nocell : ∀ y ∈ scope.names, y.2 ≠ .cell
  names : ∀ y ∈ scope.names, y.2 = .local → scope.names.lookup y.1 = some .local
  free : ∀ y ∈ scope.names, y.2 = .free → X.env.kindOf y.1 = some .cell ∨ X.env.kindOf y.1 = some .free
  cap : ∀ (k : Nat) (x : Str), cn[k]? = some x → ∃ j, js[k]? = some j ∧ X.N[j]? = some x ∧ (X.env.kindOf x = some .cell ∨ X.env.kindOf x = some .free) ∧ scope.names.lookup x = some .free
  len : cn.length = js.length
def compScB (onames : List (Str × NameKind)) (oN : List Str) (names : List (Str × NameKind)) (cn : List Str) (js : List Nat) : Bool :=
  names.all (fun y => !(y.2 == .cell)) && names.all (fun y => !(y.2 == .local) || (names.lookup y.1 == some .local)) &&
  names.all (fun y => !(y.2 == .free) || (onames.lookup y.1 == some .cell || onames.lookup y.1 == some .free)) &&
  ((cn.zip js).all fun p => oN[p.2]? == some p.1 && (onames.lookup p.1 == some .cell || onames.lookup p.1 == some .free) && names.lookup p.1 == some .free) && (cn.length == js.length)
theorem CompSc.mk' {X : Cx} {scope : Scope} {tn cn : List Str} {js : List Nat} {osc : Scope} {oN : List Str} (hk : scope.kind = .function) (ho : X.env.scope = osc) (hN : X.N = oN) (h : compScB osc.names oN scope.names cn js = true) : CompSc X scope tn cn js := by
  unfold compScB at h
  simp only [Bool.and_eq_true] at h
  obtain ⟨⟨⟨⟨h1, h2⟩, h3⟩, h4⟩, h5⟩ := h
  rw [List.all_eq_true] at h1 h2 h3 h4
  have hlen : cn.length = js.length := by simpa using h5
  refine ⟨hk, fun y hy => ?_, fun y hy e => ?_, fun y hy e => ?_, fun k x e => ?_, hlen⟩
  · have := h1 y hy
    simpa using this
  · have := h2 y hy
    simpa [e] using this
  · have := h3 y hy
    unfold Env.kindOf
    rw [ho]
    simpa [e] using this
  · have hkl : k < cn.length := (List.getElem?_eq_some_iff.mp e).1
    have hkj : k < js.length := by omega
    refine ⟨js[k], by simp [hkj], ?_⟩
    have hz : (x, js[k]) ∈ cn.zip js := by
      have e2 : (cn.zip js)[k]? = some (x, js[k]) := by
        rw [List.getElem?_zip_eq_some]
        exact ⟨e, by simp [hkj]⟩
      exact List.mem_of_getElem? e2
    have := h4 _ hz
    unfold Env.kindOf
    rw [ho, hN]
    simp only [Bool.and_eq_true, Bool.or_eq_true, beq_iff_eq] at this
    exact ⟨this.1.1, this.1.2, this.2⟩

def pick (σ : St) (js : List Nat) : St := js.map fun j => (σ[j]?).getD none
/-- a block's values at a turn's start -/
def blk (n : Nat) (σ : St) (js : List Nat) : St := List.replicate n none ++ pick σ js
def compCx (X : Cx) (scope : Scope) (N' : List Str) (C : Addr) (s₂ : Shared) (H₂ : Hp) (fp : List Addr) (xe : Value → Shared → Prop) : Cx :=
  { X with N := N', s₀ := s₂, H₀ := H₂, env := compEnvC scope (closL X.env.cells scope.names []) C X.env, outer := X.stack, ex := fp, fn := fun _ => false, pn := [], xe := xe }

section
variable {X : Cx} {pins : List (Addr × Obj)} {σ : St} {H₂ : Hp} {s₂ : Shared} {scope : Scope} {tn cn : List Str} {js : List Nat}
theorem CompSc.clos (S : CompSc X scope tn cn js) (ok : X.Ok) : ∀ y ∈ scope.names, y.2 = .free → ∃ c, X.env.cells.lookup y.1 = some c := fun y hy e => ok.has y.1 (S.free y hy e)
theorem relabel_lookup {env : Env} : ∀ {names : List (Str × NameKind)} {x : Str} {k : NameKind}, (names.map fun (n, k) => if (k == NameKind.free && env.scope.kind == .function && env.kindOf n == some .cell) then (n, NameKind.cell) else (n, k)).lookup x = some k →
    (k = .cell ∨ k = .free) → (∀ y ∈ names, y.2 ≠ .cell) → (x, NameKind.free) ∈ names
  | [], _, _, h, _, _ => by simp at h
  | (n, k0) :: r, x, k, h, hk, hc => by
    have ih := @relabel_lookup env r x k
    have h : List.lookup x ((if (k0 == NameKind.free && env.scope.kind == .function && env.kindOf n == some .cell) = true then (n, NameKind.cell) else (n, k0)) :: _) = _ := h
    by_cases hb : (k0 == NameKind.free && env.scope.kind == .function && env.kindOf n == some .cell) = true
    · rw [if_pos hb, List.lookup_cons] at h
      have e0 : k0 = .free := by
        simp only [Bool.and_eq_true] at hb
        simpa using hb.1.1
      cases hx : x == n with
      | true =>
        have e : x = n := eq_of_beq hx
        subst e; subst e0
        exact List.mem_cons_self
      | false =>
        rw [hx] at h
        exact List.mem_cons_of_mem _ (ih h hk fun y hy => hc y (List.mem_cons_of_mem _ hy))
    · rw [if_neg hb, List.lookup_cons] at h
      cases hx : x == n with
      | true =>
        rw [hx] at h
        have e : x = n := eq_of_beq hx
        have e0 : k0 = k := Option.some.inj h
        subst e; subst e0
        rcases hk with hk | hk
        · exact absurd hk (hc (x, k0) List.mem_cons_self)
        · subst hk
          exact List.mem_cons_self
      | false =>
        rw [hx] at h
        exact List.mem_cons_of_mem _ (ih h hk fun y hy => hc y (List.mem_cons_of_mem _ hy))
theorem relabel_free {env : Env} : ∀ {names : List (Str × NameKind)} {x : Str}, names.lookup x = some .free →
    (names.map fun (n, k) => if (k == NameKind.free && env.scope.kind == .function && env.kindOf n == some .cell) then (n, NameKind.cell) else (n, k)).lookup x = some .cell ∨
    (names.map fun (n, k) => if (k == NameKind.free && env.scope.kind == .function && env.kindOf n == some .cell) then (n, NameKind.cell) else (n, k)).lookup x = some .free
  | [], _, h => by simp at h
  | (n, k0) :: r, x, h => by
    have ih := @relabel_free env r x
    show List.lookup x ((if (k0 == NameKind.free && env.scope.kind == .function && env.kindOf n == some .cell) = true then (n, NameKind.cell) else (n, k0)) :: _) = _ ∨
      List.lookup x ((if (k0 == NameKind.free && env.scope.kind == .function && env.kindOf n == some .cell) = true then (n, NameKind.cell) else (n, k0)) :: _) = _
    cases hx : x == n with
    | true =>
      simp only [List.lookup_cons, hx] at h
      cases h
      by_cases hb : (NameKind.free == NameKind.free && env.scope.kind == .function && env.kindOf n == some .cell) = true
      · rw [if_pos hb]; simp [List.lookup_cons, hx]
      · rw [if_neg hb]; simp [List.lookup_cons, hx]
    | false =>
      simp only [List.lookup_cons, hx] at h
      by_cases hb : (k0 == NameKind.free && env.scope.kind == .function && env.kindOf n == some .cell) = true
      · rw [if_pos hb]; simp only [List.lookup_cons, hx]; exact ih h
      · rw [if_neg hb]; simp only [List.lookup_cons, hx]; exact ih h
theorem comp_ok {C : Addr} {fp : List Addr} {xe : Value → Shared → Prop} (S : CompSc X scope tn cn js) (I : Inv X pins σ H₂ s₂) (hC : s₂.heap.objs.size ≤ C) (hf : ∀ b ∈ fp, FpOk X pins H₂ b) (ho : ∀ b ∈ fp, ∃ o, s₂.heap.get? b = some o ∧ ∀ v, o.data ≠ .cell v) :
    (compCx X scope (tn ++ cn) C s₂ H₂ fp xe).Ok where
  mod := I.ok.mod
  kind := S.kind
  glob := I.ok.glob
  blt := I.ok.blt
  above := hC
  inj := fun x y c h1 h2 => I.ok.inj x y c (closL_sub _ [] (S.clos I.ok) (fun _ z => by cases z) h1) (closL_sub _ [] (S.clos I.ok) (fun _ z => by cases z) h2)
  has := fun x hx => by
    refine closL_has _ _ (.inl ?_)
    rcases hx with hx | hx
    · exact relabel_lookup (env := X.env) (k := .cell) hx (Or.inl (Eq.refl NameKind.cell)) S.nocell
    · exact relabel_lookup (env := X.env) (k := .free) hx (Or.inr (Eq.refl NameKind.free)) S.nocell
  cab := fun x c h _ => by cases h
  hd := I.ok.hd
  frames := I.ok.frames
  stk := .inl rfl
  exf := fun b hb => by
    obtain ⟨o, e, _⟩ := ho b hb
    obtain ⟨_, _, _, _, f4, _⟩ := hf b hb
    exact ⟨Nat.ne_of_lt (Nat.lt_of_lt_of_le (Heap.lt_size e) hC), fun x c h => f4 x c (closL_sub _ [] (S.clos I.ok) (fun _ z => by cases z) h)⟩
  bs := I.bs
  bsz := Nat.le_trans I.ok.bsz I.sz
  noex := fun b o e hb => by
    obtain ⟨_, _, _, f3, _, _⟩ := hf b hb
    rcases f3 with z | z
    · exact I.ok.noex b o e z
    · exact absurd (Nat.lt_of_lt_of_le (Heap.lt_size (I.ok.bs b o e).1) z) (Nat.lt_irrefl _)
  exfs := fun b hb z => by
    obtain ⟨_, f1, f2, _, _, _⟩ := hf b hb
    exact (List.mem_cons.mp (I.stkSub b z)).elim f1 f2
  funs := I.stack
  frf := I.stkFree

/-- the names that a block reads, at whatever state of it -/
theorem comp_look {C : Addr} {fp : List Addr} {s : Shared} {H : Hp} {m : Str → Option Value} (S : CompSc X scope tn cn js) (I : Inv X pins σ H₂ s₂) (hf : ∀ b ∈ fp, FpOk X pins H₂ b)
    (u : Un (frs X.stack) fp H₂ H s₂.heap s.heap) :
    ∀ (i : Nat) (x : Str) (v : V), (tn ++ cn)[i]? = some x → (blk tn.length σ js)[i]? = some (some v) → ∃ z, RelV v z ∧ Look (compEnvC scope (closL X.env.cells scope.names []) C X.env) s.heap m x z := by
  intro i x v e1 e2
  unfold blk at e2
  by_cases hi : i < tn.length
  · rw [List.getElem?_append_left (by simpa using hi), List.getElem?_replicate, if_pos hi] at e2
    cases e2
  · have hi' : tn.length ≤ i := by omega
    rw [List.getElem?_append_right hi'] at e1
    rw [List.getElem?_append_right (by simpa using hi'), List.length_replicate] at e2
    obtain ⟨j, hj, hN, hk, hm⟩ := S.cap _ _ e1
    unfold pick at e2
    rw [List.getElem?_map, hj] at e2
    have e3 : (σ[j]?).getD none = some v := Option.some.inj e2
    have e4 : σ[j]? = some (some v) := by
      cases q : σ[j]? with
      | none => rw [q] at e3; cases e3
      | some z => rw [q] at e3; exact congrArg some e3
    obtain ⟨m0, _, hl⟩ := I.loc
    have hv : Vis X.env.scope x := by
      rcases hk with hk | hk
      · exact .inr (.inl hk)
      · exact .inr (.inr hk)
    obtain ⟨z, rz, l⟩ := hl j x v hN e4 hv
    refine ⟨z, rz, ?_⟩
    obtain ⟨c, hc, ob, ho, hd⟩ : ∃ c, X.env.cells.lookup x = some c ∧ s₂.heap.IsCell c (some z) := by
      rcases l with ⟨k, _⟩ | ⟨_, c, hc, q⟩
      · rcases hk with hk | hk
        · rw [hk] at k; cases k
        · rw [hk] at k; cases k
      · exact ⟨c, hc, q⟩
    obtain ⟨c', hc'⟩ := closL_has (cells := X.env.cells) (x := x) scope.names [] (.inl (PySem.mem_of_lookup hm))
    have ec : c' = c := by
      have := closL_sub _ [] (S.clos I.ok) (fun _ z => by cases z) hc'
      rw [hc] at this
      exact (Option.some.inj this).symm
    subst ec
    have nf : c' ∉ fp := fun hb => (hf c' hb).2.2.2.2.1 x c' hc rfl
    obtain ⟨sl, q⟩ := u.any ho (I.freeC x c' hc) nf
    exact .inr ⟨relabel_free hm, c', hc', ⟨_, q, hd⟩⟩

theorem blk_len (S : CompSc X scope tn cn js) : (blk tn.length σ js).length = (tn ++ cn).length := by
  unfold blk pick
  rw [List.length_append, List.length_append, List.length_replicate, List.length_map, S.len]
/-- a block's turn begins anew -/
theorem comp_again {C : Addr} {fp : List Addr} {xe : Value → Shared → Prop} {s : Shared} {H : Hp} {σ' : St} {pins' : List (Addr × Obj)} (S : CompSc X scope tn cn js) (I : Inv X pins σ H₂ s₂) (hf : ∀ b ∈ fp, FpOk X pins H₂ b)
    (I' : Inv (compCx X scope (tn ++ cn) C s₂ H₂ fp xe) pins' σ' H s) : Inv (compCx X scope (tn ++ cn) C s₂ H₂ fp xe) pins' (blk tn.length σ js) H s := by
  obtain ⟨m, hn, _⟩ := id I'.loc
  exact ⟨I'.ok, I'.os, I'.bare, I'.base, ⟨m, hn, fun i x v e1 e2 _ => comp_look S I hf I'.base i x v e1 e2⟩, I'.cell, I'.free, I'.freeC, I'.pin, I'.hok, blk_len S⟩
/-- a block begins -/
theorem comp_start {C D : Addr} {fp : List Addr} {xe : Value → Shared → Prop} {h : Heap} {tk : Nat} {ob : Obj} {m : Str → Option Value} (S : CompSc X scope tn cn js) (I : Inv X pins σ H₂ s₂) (hC : s₂.heap.objs.size ≤ C) (hD : s₂.heap.objs.size ≤ D) (hDC : D ≠ C)
    (hf : ∀ b ∈ fp, FpOk X pins H₂ b) (ho : ∀ b ∈ fp, ∃ o, s₂.heap.get? b = some o ∧ ∀ v, o.data ≠ .cell v) (k : ∀ b o, s₂.heap.get? b = some o → h.get? b = some o) (hn : h.Ns C m) (hob : h.get? D = some ob) (hcell : ∀ v, ob.data ≠ .cell v) :
    Inv (compCx X scope (tn ++ cn) C s₂ H₂ fp xe) [(D, ob)] (blk tn.length σ js) H₂ { s₂ with heap := h, toks := tk } := by
  have ok := comp_ok (xe := xe) S I hC hf ho
  have u : Un (frs X.stack) fp H₂ H₂ s₂.heap h := Un.kept k
  refine ⟨ok, rfl, I.bare, u, ⟨m, hn, fun i x v e1 e2 _ => comp_look (s := { s₂ with heap := h, toks := tk }) S I hf u i x v e1 e2⟩, fun x c e => ?_, I.hok.fresh hC, fun x c e => ?_, fun p hp => ?_, I.hok.kept k, blk_len S⟩
  · obtain ⟨v, o, q, d⟩ := I.cell x c (closL_sub _ [] (S.clos I.ok) (fun _ z => by cases z) e)
    exact ⟨v, o, k c o q, d⟩
  · exact I.freeC x c (closL_sub _ [] (S.clos I.ok) (fun _ z => by cases z) e)
  · have e : p = (D, ob) := by
      have : p ∈ ([] : List (Addr × Obj)) ++ [(D, ob)] := hp
      simpa using this
    subst e
    refine ⟨hob, I.hok.fresh hD, hDC, fun z => ?_, hcell⟩
    have z : D ∈ frs X.stack := z
    rcases List.mem_cons.mp (I.stkSub D z) with e | e
    · exact absurd (Nat.lt_of_lt_of_le I.lt (by rw [← e]; exact hD)) (Nat.lt_irrefl _)
    · exact I.nofs hD e
/-- behind a block: its list is the def's -/
theorem comp_end {C D : Addr} {fp : List Addr} {xe : Value → Shared → Prop} {s : Shared} {H : Hp} {σ' : St} {ys : List V} {its : List Value} {n : Nat} {h' : Heap} (S : CompSc X scope tn cn js) (I : Inv X pins σ H₂ s₂) (hC : s₂.heap.objs.size ≤ C) (hD : s₂.heap.objs.size ≤ D) (hDC : D ≠ C)
    (hf : ∀ b ∈ fp, FpOk X pins H₂ b) (I' : Inv (compCx X scope (tn ++ cn) C s₂ H₂ fp xe) [(D, { cls := .type "list", data := .seq its.toArray n })] σ' H s) (hv : Vals ys its) (hz : ys.length ≤ sizeLine) (hs : Heap.SameBut C s.heap h') :
    Inv X pins σ (upd H D (.lst ys)) { s with heap := h' } := by
  have pd := I'.pin (D, { cls := .type "list", data := .seq its.toArray n }) (List.mem_append_right _ List.mem_cons_self)
  have pd1 : s.heap.get? D = some { cls := .type "list", data := .seq its.toArray n } := pd.1
  have pd2 : H D = none := pd.2.1
  have hD' : h'.get? D = some { cls := .type "list", data := .seq its.toArray n } := (hs.2 D hDC).trans pd1
  have hCf : H C = none := I'.free
  have old : ∀ b o, s₂.heap.get? b = some o → b ≠ C ∧ b ≠ D := fun b o e => ⟨Nat.ne_of_lt (Nat.lt_of_lt_of_le (Heap.lt_size e) hC), Nat.ne_of_lt (Nat.lt_of_lt_of_le (Heap.lt_size e) hD)⟩
  have u := I'.base
  have u : Un (frs X.stack) fp H₂ H s₂.heap s.heap := u
  refine I.call' (s' := { s with heap := h' }) (ch := fp) (H' := upd H D (.lst ys)) I'.os ⟨fun b o e n hb hx => ?_, fun b o e n hb hx => ?_, fun b o e n hx => ?_, fun b o e hx => ?_, fun b xs e => ?_, fun b o xs e => ?_, fun b ps e => ?_⟩ (fun b o e => ?_) I'.bare (fun b hb => ?_)
  · exact (hs.2 b (old b o e).1).trans (u.keep b o e n hb hx)
  · obtain ⟨sl, q⟩ := u.slot b o e n hb hx
    exact ⟨sl, (hs.2 b (old b o e).1).trans q⟩
  · rw [upd_ne (old b o e).2]
    exact u.free b o e n hx
  · obtain ⟨o', q⟩ := u.there b o e hx
    exact ⟨o', (hs.2 b (old b o e).1).trans q⟩
  · have q := u.tups b xs e
    rw [upd_ne (ne_of_none q pd2)]
    exact q
  · have q := u.frzs b o xs e
    rw [upd_ne (ne_of_none q pd2)]
    exact q
  · obtain ⟨more, q⟩ := u.tbls b ps e
    exact ⟨more, by rw [upd_ne (ne_of_none q pd2)]; exact q⟩
  · by_cases hb : b = D
    · subst hb
      rw [upd_same] at e
      cases e
      exact ⟨hz, its, n, hv, hD'⟩
    · rw [upd_ne hb] at e
      refine (I'.hok b o e).stay (fun c v hc q => (hs.2 c ?_).trans q) (fun c q => by rw [upd_ne (ne_of_none q pd2)]; exact q) fun c xs q => by rw [upd_ne (ne_of_none q pd2)]; exact q
      rintro rfl
      rcases hc with rfl | hc
      · rw [hCf] at e; cases e
      · rw [hCf] at hc; cases hc
  · obtain ⟨f0, f1, f2, f3, f4, f5⟩ := hf b hb
    exact ⟨f3, f1, f4, f5⟩
end

def PTs (X : Cx) (ifs : List Expr) (t : TT) : Prop :=
  ∀ (pins : List (Addr × Obj)) (s : Shared) (σ : St) (H : Hp) (Q : Bool → Hp → Prop), Inv X pins σ H s → t σ H Q →
    wpAny (model X.prog X.w) X.A (forIn ifs true fun c r => if r = true then do let ok ← isTrue c X.env (eval c X.env); pure (ForInStep.yield ok) else pure (ForInStep.yield r)) (TP X pins σ Q) X.xe s
def tYes : TT := fun _ H Q => Q true H
theorem pts_nil {X : Cx} : PTs X [] tYes := fun _ _ _ H _ I h => wpAny_tests_nil ⟨H, I, h⟩
theorem pts_one {X : Cx} {c : Expr} {t : TT} (h : PT X c t) : PTs X [c] t := fun pins s σ H Q I q => wpAny_tests_one (h pins s σ H Q I q)

/-- [elt for tg in iter if tests]: W tells, by the turn, a measure, the items so far and the heap, what holds -/
def tComp (wi : TI) (g : TG) (tt : TT) (te : TE) (n : Nat) (js : List Nat) : TE := fun σ H Q => wi σ H fun J H1 =>
  ∃ W : Nat → Nat → List V → Hp → Prop, (∃ m, W 0 m [] H1) ∧ ∀ i m ys H, W i m ys H →
    (J.stop i H ∧ ∀ p, H p = none → Q (.ref p) (upd H p (.lst ys))) ∨
    (J.go i H ∧ ∀ x H', J.yld i H x H' → g x (blk n σ js) H' fun σ2 H2 => tt σ2 H2 fun b H3 =>
      if b = true then te σ2 H3 fun y H4 => ys.length < sizeLine ∧ ∃ m', m' < m ∧ W (i + 1) m' (ys ++ [y]) H4 else ∃ m', m' < m ∧ W (i + 1) m' ys H3)

section
variable {X : Cx} {tg iter elt : Expr} {ifs : List Expr} {scope : Scope} {pos : Pos} {wi : TI} {g : TG} {tt : TT} {te : TE} {tn cn : List Str} {js : List Nat}
/-- the context of a block from which no exception comes -/
abbrev compX (X : Cx) (scope : Scope) (N' : List Str) (C : Addr) (s₂ : Shared) (H₂ : Hp) (fp : List Addr) : Cx := compCx X scope N' C s₂ H₂ fp fun _ _ => False

theorem nofail {α : Type} {M : Model} {A : Around} {m : Sem α} {Q : α → Shared → Prop} {E : Value → Shared → Prop} {s : Shared} (h : wpAny M A m Q (fun _ _ => False) s) : wpAny M A m Q E s := wpAny_mono h (fun _ _ q => q) fun _ _ z => z.elim

theorem comp_block {pins : List (Addr × Obj)} {σ : St} {H₂ : Hp} {s₂ : Shared} {it : Addr} {fp : List Addr} {tnx : Nat → Heap → Prop} {J : It} {E : Value → Shared → Prop} {RR : Value → Addr → Result → Shared → Prop} {W : Nat → Nat → List V → Hp → Prop} {m0 : Nat}
    (hc : X.calm = true) (S : CompSc X scope tn cn js)
    (hg : ∀ C s₂ H₂ fp, PG (compX X scope (tn ++ cn) C s₂ H₂ fp) tg g) (ht : ∀ C s₂ H₂ fp, PTs (compX X scope (tn ++ cn) C s₂ H₂ fp) ifs tt) (he : ∀ C s₂ H₂ fp, PE (compX X scope (tn ++ cn) C s₂ H₂ fp) elt te)
    (I2 : Inv X pins σ H₂ s₂) (T : Turn X.prog X.w X.K tg J fp it tnx) (st2 : tnx 0 s₂.heap) (f2 : ∀ b ∈ fp, FpOk X pins H₂ b) (w0 : W 0 m0 [] H₂)
    (turn : ∀ i m ys H, W i m ys H → (J.stop i H ∧ ∀ C D s its n σ', s₂.heap.objs.size ≤ C → s₂.heap.objs.size ≤ D → D ≠ C → Vals ys its → ys.length ≤ sizeLine →
        Inv (compX X scope (tn ++ cn) C s₂ H₂ fp) [(D, { cls := .type "list", data := .seq its.toArray n })] σ' H s → RR (.ref D) C (.ok .next) s) ∨
      (J.go i H ∧ ∀ x H', J.yld i H x H' → g x (blk tn.length σ js) H' fun σ2 H2 => tt σ2 H2 fun b H3 =>
        if b = true then te σ2 H3 fun y H4 => ys.length < sizeLine ∧ ∃ m', m' < m ∧ W (i + 1) m' (ys ++ [y]) H4 else ∃ m', m' < m ∧ W (i + 1) m' ys H3)) :
    wpAny (model X.prog X.w) X.A (newList []) (fun acc s₃ => wpAny (model X.prog X.w) X.A (newFunctionEnv scope X.env.globals (closL X.env.cells scope.names []) [] X.env.qual none .none (some X.env)) (fun cenv s₄ =>
      codeAny (model X.prog X.w) X.A (.compStart (.ListComp elt [⟨tg, iter, ifs, 0⟩] scope pos) 0 (.ref it) acc { cenv with scope := relabel scope X.env }) (RR acc cenv.locals) s₄) E s₃) E s₂ := by
  refine wpAny_newObj_type (wpAny_newFunctionEnv S.nocell (by intro y hy; simp at hy) (fun h₁ hns₁ hsb₁ => ?_) S.kind)
  dsimp only at hns₁ hsb₁ ⊢
  generalize hH2 : s₂.heap.push { cls := .type "list", dict := none, data := .seq ([] : List Value).toArray } = HH at hns₁ hsb₁ ⊢
  have hCs : HH.objs.size = s₂.heap.objs.size + 1 := by rw [← hH2, Heap.size_push]
  have hDC : s₂.heap.objs.size ≠ HH.objs.size := by rw [hCs]; exact Nat.ne_of_lt (Nat.lt_succ_self _)
  have hC : s₂.heap.objs.size ≤ HH.objs.size := by rw [hCs]; exact Nat.le_succ _
  have hD : s₂.heap.objs.size ≤ s₂.heap.objs.size := Nat.le_refl _
  have old : ∀ b o, s₂.heap.get? b = some o → h₁.get? b = some o := fun b o e => hsb₁.extBut b o (by rw [hCs]; exact Nat.ne_of_lt (Nat.lt_succ_of_lt (Heap.lt_size e))) (Heap.get?_push_of_some _ (hH2 ▸ Heap.get?_push_of_some _ e))
  have hacc : h₁.get? s₂.heap.objs.size = some { cls := .type "list", dict := none, data := .seq ([] : List Value).toArray } := hsb₁.extBut _ _ hDC (Heap.get?_push_of_some _ (hH2 ▸ Heap.get?_push_size _ rfl))
  have hob := T.obj _ _ st2
  have I3 : Inv (compX X scope (tn ++ cn) HH.objs.size s₂ H₂ fp) [(s₂.heap.objs.size, { cls := .type "list", dict := none, data := .seq ([] : List Value).toArray })] (blk tn.length σ js) H₂ { s₂ with heap := h₁, toks := s₂.toks + ([] : List (Str × Value)).length } :=
    comp_start S I2 hC hD hDC f2 hob old hns₁ hacc (fun v z => by cases z)
  have st3 : tnx 0 h₁ := T.keep _ _ _ st2 fun b hb o e => old b o e
  generalize hX' : compX X scope (tn ++ cn) HH.objs.size s₂ H₂ fp = X' at I3
  generalize hs3 : ({ s₂ with heap := h₁, toks := s₂.toks + ([] : List (Str × Value)).length } : Shared) = s3 at I3 ⊢
  have st3' : tnx 0 s3.heap := by rw [← hs3]; exact st3
  -- what the block says of its iterator
  have stat : ∀ {pins' : List (Addr × Obj)} {H' : Hp}, (∀ b ∈ fp, H' b = none) → (∀ p ∈ pins', p.1 = s₂.heap.objs.size) → ∀ b ∈ fp, FpOk X' pins' H' b := fun {pins' H'} hn hp b hb => by
    subst hX'
    obtain ⟨o, e, _⟩ := hob b hb
    obtain ⟨f0, f1, f2', f3, f4, f5⟩ := f2 b hb
    refine ⟨hn b hb, Nat.ne_of_lt (Nat.lt_of_lt_of_le (Heap.lt_size e) hC), fun z => (List.mem_cons.mp (I2.stkSub b z)).elim f1 f2', .inl hb, fun x c h => f4 x c (closL_sub _ [] (S.clos I2.ok) (fun _ z => by cases z) h), fun p hpp => ?_⟩
    have : p ∈ pins' := by
      have q : p ∈ ([] : List (Addr × Obj)) ++ pins' := hpp
      simpa using q
    rw [hp p this]
    exact Nat.ne_of_gt (Heap.lt_size e)
  have loop : codeAny (model X.prog X.w) X.A (.compLoop (.ListComp elt [⟨tg, iter, ifs, 0⟩] scope pos) 0 (.ref it) (.ref s₂.heap.objs.size) X'.env) (RR (.ref s₂.heap.objs.size) HH.objs.size) s3 := by
    refine compLoop_any (fun k s' => ∃ i ys its n H', Inv X' [(s₂.heap.objs.size, { cls := .type "list", data := .seq its n })] (blk tn.length σ js) H' s' ∧ Vals ys its.toList ∧ ys.length ≤ sizeLine ∧ tnx i s'.heap ∧ (∀ b ∈ fp, H' b = none) ∧ W i k ys H') ?_ m0
      ⟨0, [], #[], 0, H₂, I3, .nil, Nat.zero_le _, st3', fun b hb => (f2 b hb).1, w0⟩
    rintro k s4 ⟨i, ys, its, n, H4, I4, hv4, hz4, st4, fr4, w4⟩
    have eP : X'.prog = X.prog := by rw [← hX']; rfl
    have eW : X'.w = X.w := by rw [← hX']; rfl
    have eK : X'.K = X.K := by rw [← hX']; rfl
    have eA : X'.A = X.A := by rw [← hX']; rfl
    have eC : X'.calm = true := by rw [← hX']; exact hc
    have eE : X'.xe = fun _ _ => False := by rw [← hX']; rfl
    rcases turn i k ys H4 w4 with ⟨stop, qn⟩ | ⟨go, step⟩
    · have z := T.done X' eP eW eK eC i _ s4 (blk tn.length σ js) H4 (fun _ _ => False) I4 (stat fr4 (fun p hp => by simp at hp; rw [hp])) st4 stop
      rw [eA] at z
      refine nofail (thn z fun r s5 ⟨hr, I5⟩ => ?_)
      subst hr
      subst hX'
      exact qn _ _ s5 its.toList n _ hC hD hDC hv4 hz4 (by simpa using I5)
    · have z := T.item X' eP eW eK eC i _ s4 (blk tn.length σ js) H4 (fun _ _ => False) I4 (stat fr4 (fun p hp => by simp at hp; rw [hp])) st4 go
      rw [eA] at z
      refine nofail (thn z fun r s5 ⟨u, hr, h5⟩ => ?_)
      subst hr
      refine nofail (thn h5 fun _ s6 ⟨x, H6, I6, r6, y6, st6, fr6⟩ => ?_)
      have I6' := I6.pinned (stat fr6 (fun p hp => by simp at hp; rw [hp])) (T.obj _ _ st6)
      have hg' : PG X' tg g := by rw [← hX']; exact hg _ _ _ _
      have ht' : PTs X' ifs tt := by rw [← hX']; exact ht _ _ _ _
      have he' : PE X' elt te := by rw [← hX']; exact he _ _ _ _
      have z7 := hg' _ s6 _ H6 x u _ I6' r6 (step x H6 y6)
      rw [eP, eW, eA, eE] at z7
      refine nofail (thn z7 fun _ s7 ⟨σ7, H7, I7, q7⟩ => ?_)
      have z8 := ht' _ s7 σ7 H7 _ I7 q7
      rw [eP, eW, eA, eE] at z8
      refine nofail (thn z8 fun ok s8 ⟨H8, I8, q8⟩ => ?_)
      have key : ∀ {σ9 : St} {H9 : Hp} {s9 : Shared} {its' : Array Value} {n' : Nat}, Inv X' ([(s₂.heap.objs.size, { cls := .type "list", data := .seq its' n' })] ++ pinsAt fp s6.heap) σ9 H9 s9 →
          Inv X' [(s₂.heap.objs.size, { cls := .type "list", data := .seq its' n' })] (blk tn.length σ js) H9 s9 ∧ tnx (i + 1) s9.heap ∧ ∀ b ∈ fp, H9 b = none := fun {σ9 H9 s9 its' n'} I9 => by
        refine ⟨?_, T.keep _ _ _ st6 fun b hb o e => (I9.pin (b, o) (List.mem_append_right _ (List.mem_append_right _ (mem_pinsAt hb e)))).1, fun b hb => ?_⟩
        · have I9' := I9.unpinned
          subst hX'
          exact comp_again S I2 f2 I9'
        · obtain ⟨o, e, d⟩ := T.obj _ _ st6 b hb
          exact (I9.pin (b, o) (List.mem_append_right _ (List.mem_append_right _ (mem_pinsAt hb e)))).2.1
      cases ok with
      | false =>
        rw [if_neg Bool.false_ne_true] at q8 ⊢
        obtain ⟨m', hm, w8⟩ := q8
        obtain ⟨I9, st9, fr9⟩ := key I8
        exact ⟨m', hm, i + 1, ys, its, n, H8, I9, hv4, hz4, st9, fr9, w8⟩
      | true =>
        rw [if_pos rfl] at q8 ⊢
        have z9 := he' _ s8 σ7 H8 _ I8 q8
        rw [eP, eW, eA, eE] at z9
        refine nofail (thn z9 fun v s9 ⟨y, H9, I9, r9, hl9, m', hm, w9⟩ => ?_)
        have pd := I9.pin (s₂.heap.objs.size, { cls := .type "list", data := .seq its n }) (List.mem_append_right _ (List.mem_append_left _ List.mem_cons_self))
        have hpl : s9.heap.PlainList s₂.heap.objs.size its := ⟨n, pd.1⟩
        have hlen : its.size = ys.length := by rw [hv4.length]; simp
        refine wpAny_list_append_plain (hsz := by omega) hpl fun h10 hl10 hs10 => ?_
        obtain ⟨n10, e10⟩ := hl10
        -- the list's pin goes, the list turns, its pin comes back
        have I10 : Inv X' (pinsAt fp s6.heap) σ7 H9 s9 := I9.pins_of fun p hp => I9.pin p (List.mem_append_right _ (List.mem_append_right _ hp))
        have nD : ∀ b ∈ fp, b ≠ s₂.heap.objs.size := fun b hb => by
          obtain ⟨o, e, _⟩ := hob b hb
          exact Nat.ne_of_lt (Heap.lt_size e)
        have I11 : Inv X' (pinsAt fp s6.heap) σ7 H9 { s9 with heap := h10 } := by
          refine I10.turned (t' := s9.toks) (it := s₂.heap.objs.size) (fun b o hb e => (hs10.2 b hb).trans e) pd.2.1 pd.2.2.1 ?_ ?_ ?_
          · subst hX'; exact .inr (Nat.le_refl _)
          · subst hX'
            intro x c h
            obtain ⟨v', o', q, _⟩ := I2.cell x c (closL_sub _ [] (S.clos I2.ok) (fun _ z => by cases z) h)
            exact Nat.ne_of_lt (Heap.lt_size q)
          · intro p hp
            have hp' : p ∈ pinsAt fp s6.heap := by
              subst hX'
              have q : p ∈ ([] : List (Addr × Obj)) ++ pinsAt fp s6.heap := hp
              simpa using q
            exact nD _ (of_pinsAt hp').1
        have I12 : Inv X' ([(s₂.heap.objs.size, { cls := .type "list", data := .seq (its.push v) n10 })] ++ pinsAt fp s6.heap) σ7 H9 { s9 with heap := h10 } := I11.pins_of fun p hp => by
          rcases List.mem_append.mp hp with q | q
          · have e : p = (s₂.heap.objs.size, { cls := .type "list", data := .seq (its.push v) n10 }) := by simpa using q
            subst e
            exact ⟨e10, pd.2.1, pd.2.2.1, pd.2.2.2.1, fun v z => by cases z⟩
          · exact I11.pin p (List.mem_append_right _ q)
        obtain ⟨J1, J2, J3⟩ := key I12
        refine ⟨m', hm, i + 1, ys ++ [y], its.push v, n10, H9, J1, ?_, ?_, J2, J3, w9⟩
        · have : (its.push v).toList = its.toList ++ [v] := by simp
          rw [this]
          exact hv4.append (.cons r9 .nil)
        · rw [List.length_append, List.length_singleton]
          omega
  have eEnv : ({ newEnv scope HH.objs.size X.env.globals (closL X.env.cells scope.names []) X.env.qual none .none (some X.env) builtinsNs with scope := relabel scope X.env } : Env) = X'.env := by rw [← hX']; rfl
  have loop2 := loop
  rw [← eEnv] at loop loop2
  exact codeAny_compStart_list loop (T.self X.A 0 s3 _ _ st3' loop2)

theorem pe_comp (hc : X.calm = true) (S : CompSc X scope tn cn js) (hi : PI X tg iter wi)
    (hg : ∀ C s₂ H₂ fp, PG (compX X scope (tn ++ cn) C s₂ H₂ fp) tg g) (ht : ∀ C s₂ H₂ fp, PTs (compX X scope (tn ++ cn) C s₂ H₂ fp) ifs tt) (he : ∀ C s₂ H₂ fp, PE (compX X scope (tn ++ cn) C s₂ H₂ fp) elt te)
    (hs : ∀ x, foldedSetIterable iter X.env x = pure x := by intro _; rfl) :
    PE X (.ListComp elt [⟨tg, iter, ifs, 0⟩] scope pos) (tComp wi g tt te tn.length js) := by
  intro pins s σ H Q I h
  rw [eval_ListComp]
  refine wpAny_comprehension_free (use := none) (cl := closL X.env.cells scope.names []) rfl hs (closureFor_eq (S.clos I.ok)) S.kind S.names (thn (hi pins s σ H _ I h) fun v s1 h1 => thn h1 fun itv s2 h2 => ?_)
  obtain ⟨it, fp, tnx, J, H2, e, I2, T, st2, f2, W, ⟨m0, w0⟩, turn⟩ := h2
  subst e
  refine comp_block (RR := fun acc C => compPost (model X.prog X.w) X.A X.xe none (EP X pins σ Q) acc C) (W := W) (m0 := m0) hc S hg ht he I2 T st2 f2 w0 fun i m ys H w => ?_
  rcases turn i m ys H w with ⟨stop, qn⟩ | r
  · refine .inl ⟨stop, fun C D s its n σ' hC hD hDC hv hz I' => ?_⟩
    obtain ⟨m', hn, _⟩ := id I'.loc
    refine ⟨m', hn, fun h' hs' => ?_⟩
    have pd := I'.pin (D, { cls := .type "list", data := .seq its.toArray n }) (List.mem_append_right _ List.mem_cons_self)
    exact ⟨.ref D, _, comp_end S I2 hC hD hDC f2 I' hv hz hs', rfl, qn D pd.2.1⟩
  · exact .inr r
end
end L2


namespace L2
open PySem PySem.Spec PyProof.Rows

abbrev S (cs : List Nat) : V := .str (tx cs)
theorem S_inj {a b : List Nat} : S a = S b ↔ a = b := by
  constructor
  · intro h
    exact tx_inj.mp (V.str.inj h)
  · rintro rfl; rfl
section
variable {X : Cx} {pos : Pos}

/-! ### texts walked -/
def Its (cs : List Nat) : It := ⟨fun i _ => i < cs.length, fun i H v H' => H' = H ∧ ∃ c, cs[i]? = some c ∧ v = S [c], fun i _ => cs.length ≤ i⟩
theorem iter_ty (x : Str) : strIterType x = "str_ascii_iterator" ∨ strIterType x = "str_iterator" := by
  unfold strIterType
  split
  · exact .inl rfl
  · exact .inr rfl
theorem turn_str {P : Program} {w : World} {K : PySem.W.Frag} {tg : Expr} (it : Addr) (cs : List Nat) (t : Tok) : Turn P w K tg (Its cs) [it] it (fun i h => h.IsStrIter it (strIterType (tx cs)) (tx cs) t i) where
  mem := by simp
  obj := fun i h st b hb => by
    have e : b = it := by simpa using hb
    subst e
    obtain ⟨o, e, c, d⟩ := st
    exact ⟨o, e, fun v z => by rw [d] at z; cases z⟩
  keep := fun i h h' st k => by
    obtain ⟨o, e, r⟩ := st
    exact ⟨o, k it (by simp) o e, r⟩
  item := by
    intro X hP hw hK hc i pins s σ H E I hf st hg
    subst hP hw hK
    obtain ⟨f0, f1, f2, f3, f4, f5⟩ := hf it (by simp)
    have hg : i < cs.length := hg
    have hx : (tx cs).cps[i]? = some cs[i] := by simp [tx, hg]
    have fin : ∀ (h' : Heap), h'.IsStrIter it (strIterType (tx cs)) (tx cs) t (i + 1) → Heap.SameBut it s.heap h' →
        ∃ u, some (Value.str ⟨#[cs[i]]⟩ s.toks) = some u ∧ wpAny (model X.prog X.w) X.A (letOwnedTupleGo tg (.ref it) u) (fun _ s2 => ∃ x H', Inv X pins σ H' s2 ∧ RelV x u ∧ (Its cs).yld i H x H' ∧ s2.heap.IsStrIter it (strIterType (tx cs)) (tx cs) t (i + 1) ∧ ∀ b ∈ [it], H' b = none) E { s with heap := h', toks := s.toks + 1 } := fun h' st' sb => by
      have I1 : Inv X pins σ H { s with heap := h', toks := s.toks + 1 } := I.turned (fun b o hb e => (sb.2 b hb).trans e) f0 f1 f3 f4 f5
      obtain ⟨o, e, hc', d⟩ := id st'
      refine ⟨_, rfl, go_of (s := { s with heap := h', toks := s.toks + 1 }) e hc' d ?_ ⟨S [cs[i]], H, I1, ⟨s.toks, rfl⟩, ⟨rfl, cs[i], by simp [hg], rfl⟩, st', fun b hb => (hf b hb).1⟩⟩
      rcases iter_ty (tx cs) with z | z <;> rw [z] <;> decide
    rcases iter_ty (tx cs) with z | z
    · rw [z] at st
      refine wpAny_pyNext_ascii_item st hx fun h' st' sb => fin h' (by rw [z]; exact st') sb
    · rw [z] at st
      refine wpAny_pyNext_wide_item st hx fun h' st' sb => fin h' (by rw [z]; exact st') sb
  done := by
    intro X hP hw hK hc i pins s σ H E I hf st hg
    subst hP hw hK
    obtain ⟨f0, f1, f2, f3, f4, f5⟩ := hf it (by simp)
    have hg : cs.length ≤ i := hg
    have hx : (tx cs).cps[i]? = none := by simp [tx]; omega
    rcases iter_ty (tx cs) with z | z
    · rw [z] at st
      exact wpAny_pyNext_ascii_end (I.ok.hd hc) st hx fun h' eb => ⟨rfl, I.turned (t' := s.toks) (fun b o hb e => eb b o hb e) f0 f1 f3 f4 f5⟩
    · rw [z] at st
      exact wpAny_pyNext_wide_end (I.ok.hd hc) st hx fun h' eb => ⟨rfl, I.turned (t' := s.toks) (fun b o hb e => eb b o hb e) f0 f1 f3 f4 f5⟩
  self := fun _ i _ _ _ st h => by
    rcases iter_ty (tx cs) with z | z
    · rw [z] at st
      exact wpAny_pyIter_striter_ascii st h
    · rw [z] at st
      exact wpAny_pyIter_striter_wide st h

variable {tg : Expr}
def iStr (tl : TE) : TI := fun σ H R => tl σ H fun v H1 => ∃ cs, v = S cs ∧ R (Its cs) H1
/-- a list, a tuple or a text -/
def iAny (K : PySem.W.Frag) (tl : TE) : TI := fun σ H R => tl σ H fun x H1 => (∃ a xs, x = .ref a ∧ SqL K H1 a xs ∧ R (Itl K a) H1) ∨ (∃ a xs, x = .ref a ∧ SqT K H1 a xs ∧ R (Itt K a) H1) ∨ ∃ cs, x = S cs ∧ R (Its cs) H1
theorem pi_any {l : Expr} {tl : TE} (hl : PE X l tl) : PI X tg l (iAny X.K tl) := by
  intro pins s σ H R I h
  refine thn (hl pins s σ H _ I h) fun v s1 ⟨x, H1, I1, r1, q1⟩ => ?_
  rcases q1 with ⟨a, xs, e, hq, q⟩ | ⟨a, xs, e, hq, q⟩ | ⟨cs, e, q⟩
  · subst e
    cases r1
    obtain ⟨its, rv, p, hz⟩ := I1.list hq
    refine wpAny_pyIter_list p.isList ?_
    refine ⟨s1.heap.objs.size, [s1.heap.objs.size], _, _, H1, rfl, I1.kept (t' := s1.toks) fun b o e => Heap.get?_push_of_some _ e, turn_list a _, ⟨_, Heap.get?_push_size _ rfl, rfl, rfl⟩, fun b hb => ?_, q⟩
    have e : b = s1.heap.objs.size := by simpa using hb
    subst e
    exact I1.fpOk (Nat.le_refl _) (I1.hok.fresh (Nat.le_refl _))
  · have hpi := pi_tup (X := X) (tg := tg) (l := l) (tl := fun _ H Q => Q (.ref a) H)
    subst e
    cases r1
    obtain ⟨its, rv, p, hz⟩ := I1.tuple hq
    refine wpAny_pyIter_tuple (show s1.heap.IsTuple a its.toArray from p) ?_
    refine ⟨s1.heap.objs.size, [s1.heap.objs.size], _, _, H1, rfl, I1.kept (t' := s1.toks) fun b o e => Heap.get?_push_of_some _ e, turn_tuple a _, ⟨_, Heap.get?_push_size _ rfl, rfl, rfl⟩, fun b hb => ?_, q⟩
    have e : b = s1.heap.objs.size := by simpa using hb
    subst e
    exact I1.fpOk (Nat.le_refl _) (I1.hok.fresh (Nat.le_refl _))
  · subst e
    obtain ⟨t, rfl⟩ := r1
    refine wpAny_pyIter_strU ?_
    refine ⟨s1.heap.objs.size, [s1.heap.objs.size], _, _, H1, rfl, I1.kept (t' := s1.toks) fun b o e => Heap.get?_push_of_some _ e, turn_str _ cs t, ⟨_, Heap.get?_push_size _ rfl, rfl, rfl⟩, fun b hb => ?_, q⟩
    have e : b = s1.heap.objs.size := by simpa using hb
    subst e
    exact I1.fpOk (Nat.le_refl _) (I1.hok.fresh (Nat.le_refl _))

/-! ### operations on texts -/
def rAddS : R2 := fun x y H Q => ∃ a b, x = S a ∧ y = S b ∧ a.length + b.length ≤ sizeLine ∧ Q (S (a ++ b)) H
theorem op_addS : OpR X (binaryOp .Add) rAddS := by
  intro pins s σ H x y v u Q I rx ry h
  obtain ⟨a, b, rfl, rfl, hz, q⟩ := h
  refine op_add_str pins s σ H _ _ v u Q I rx ry ⟨tx a, tx b, rfl, rfl, by rw [tx_len, tx_len]; exact hz, ?_⟩
  rw [tx_app]
  exact q
def rAddX : R2 := fun x y H Q => rI0 (fun i j => .int (i + j)) x y H Q ∨ rAddS x y H Q ∨ rCat x y H Q
theorem op_addX : OpR X (binaryOp .Add) rAddX := op_add.or (op_addS.or op_cat)
def rInS (neg : Bool) : R2 := fun x y H Q => ∃ c b, x = S [c] ∧ y = S b ∧ Q (.bl (neg != decide (c ∈ b))) H
def rInX (K : PySem.W.Frag) (neg : Bool) : R2 := fun x y H Q => rInS neg x y H Q ∨ rIn K neg x y H Q
/-- x is True, x is False -/
def rIxSt : R2 := fun x y H Q => ∃ a i c, x = S a ∧ y = .int i ∧ a.length ≤ sizeLine ∧ atI a i = some c ∧ Q (S [c]) H
theorem ix_S : IxR X rIxSt := by
  intro value slice pins s σ H x y v u Q I rx ry h hs
  obtain ⟨a, i, c, rfl, rfl, hz, he, q⟩ := h
  exact ix_str value slice pins s σ H _ _ v u Q I rx ry ⟨tx a, i, c, rfl, rfl, by rw [tx_len]; exact hz, by rw [tx_cps]; exact he, q⟩ hs
def rIxX (K : PySem.W.Frag) : R2 := fun x y H Q => rIxL K x y H Q ∨ rIxT K x y H Q ∨ rIxSt x y H Q
theorem ix_X : IxR X (rIxX X.K) := ix_list.or (ix_tup.or ix_S)
def rSlS : V → Option Int → Option Int → Hp → VK → Prop := fun x lo hi H Q => ∃ a, x = S a ∧ a.length ≤ sizeLine ∧ Q (S (cutL a lo hi)) H
def rSlX (K : PySem.W.Frag) : V → Option Int → Option Int → Hp → VK → Prop := fun x lo hi H Q => rSlS x lo hi H Q ∨ rSlL K x lo hi H Q ∨ rSlT K x lo hi H Q
/-! ### calls -/
def rLenX (K : PySem.W.Frag) : List V → Hp → VK → Prop := fun xs H Q => (∃ a, xs = [S a] ∧ a.length ≤ sizeLine ∧ Q (.int a.length) H) ∨ ∃ p ys, xs = [.ref p] ∧ (SqL K H p ys ∨ SqT K H p ys) ∧ Q (.int ys.length) H
theorem call_lenX : CallR X (.builtin "len") (rLenX X.K) := by
  intro pins s σ H xs us Q I rs q
  rcases q with ⟨a, rfl, hz, q⟩ | q
  · exact call_len_str pins s σ H _ us Q I rs ⟨tx a, rfl, by rw [tx_len]; exact hz, by rw [tx_len]; exact q⟩
  · exact call_len_seq pins s σ H xs us Q I rs q
def rStrI : List V → Hp → VK → Prop := fun xs H Q => ∃ n : Nat, xs = [.int n] ∧ n < 10 ^ 10 ∧ Q (S (figs n)) H
def rIntX : List V → Hp → VK → Prop := fun xs H Q => (∃ a, xs = [S a] ∧ a.length ≤ 640 ∧ a ≠ [] ∧ a.all figB = true ∧ Q (.int (valL a : Nat)) H) ∨ (∃ k, xs = [.bl k] ∧ Q (.int (if k then 1 else 0)) H)
/-- all, any of a list of bools -/
theorem all_run (bs : List Bool) : ∀ (its : List Value), Vals (bs.map V.bl) its → its = bs.map Value.bool := by
  induction bs with
  | nil => intro its r; cases r; rfl
  | cons b bs ih =>
    intro its r
    cases r with
    | cons r1 r2 =>
      rw [ih _ r2]
      cases r1
      rfl
theorem range_all (bs : List Bool) : ((List.range bs.length).all fun i => bs.getD i false) = bs.all id := by
  rw [Bool.eq_iff_iff, List.all_eq_true, List.all_eq_true]
  constructor
  · intro h b hb
    obtain ⟨i, hi⟩ := List.getElem?_of_mem hb
    have hl : i < bs.length := (List.getElem?_eq_some_iff.mp hi).1
    have := h i (List.mem_range.mpr hl)
    rw [List.getD_eq_getElem?_getD, hi] at this
    exact this
  · intro h i hi
    have hl := List.mem_range.mp hi
    have := h bs[i] (List.getElem_mem hl)
    rw [List.getD_eq_getElem?_getD, List.getElem?_eq_getElem hl]
    exact this
def rAllX (K : PySem.W.Frag) (f : List Bool → Bool) : List V → Hp → VK → Prop := fun xs H Q => ∃ p bs, xs = [.ref p] ∧ SqL K H p (bs.map V.bl) ∧ Q (.bl (f bs)) H
theorem bools_walk {pins : List (Addr × Obj)} {σ : St} {H : Hp} {s : Shared} {p : Addr} {bs : List Bool} {Q : Value → Shared → Prop} {E : Value → Shared → Prop} {f : (Nat → Bool) → Bool} (hc : X.calm = true) (I : Inv X pins σ H s) (hq : SqL X.K H p (bs.map V.bl))
    (q : ∀ h' tk, (∀ b o, s.heap.get? b = some o → h'.get? b = some o) → Q (.bool (f fun i => bs.getD i false)) { s with heap := h', toks := tk }) :
    wpAny (model X.prog X.w) X.A.in1 (pyIter (.ref p)) (fun it s₂ => ∃ I fp wr n P St tr, it = .ref I ∧ Walks X.prog X.w X.A.in1 I fp wr n P St ∧ St 0 s₂.heap ∧ TruthOf X.prog X.w X.A.in1 P tr ∧
      n = bs.length ∧ tr = (fun i => bs.getD i false) ∧ ∀ h' tk, (∀ b o, b ∉ wr → s₂.heap.get? b = some o → h'.get? b = some o) → Q (.bool (f tr)) { s₂ with heap := h', toks := tk }) E s := by
  obtain ⟨its, rv, pl, hz⟩ := I.list hq
  have e := all_run bs its rv
  subst e
  refine wpAny_pyIter_list pl.isList ?_
  have hlt : p < s.heap.objs.size := pl.lt
  have hh : X.A.in1.handled = none := I.ok.hd hc
  refine ⟨s.heap.objs.size, _, _, _, _, _, fun i => bs.getD i false, rfl, Walks.list hh _ p (Nat.ne_of_lt hlt) (bs.map Value.bool).toArray, ⟨⟨_, Heap.get?_push_size _ rfl, rfl, rfl⟩, (pl.keeps fun b o e => Heap.get?_push_of_some _ e).isList⟩, ?_, by simp, rfl, fun h' tk k => ?_⟩
  · intro i v s' Q' E' hv hq'
    have : v = Value.bool (bs.getD i false) := by
      have hv' : (bs.map Value.bool)[i]? = some v := by simpa using hv
      rw [List.getElem?_map] at hv'
      rw [List.getD_eq_getElem?_getD]
      cases e : bs[i]? with
      | none => rw [e] at hv'; cases hv'
      | some b => rw [e] at hv'; exact (Option.some.inj hv').symm
    subst this
    exact wpAny_truthy_bool hq'
  · refine q h' tk fun b o e => k b o (fun z => ?_) (Heap.get?_push_of_some _ e)
    have h1 := Heap.lt_size e
    have h2 : b = s.heap.objs.size := by simpa using z
    rw [h2] at h1
    exact Nat.lt_irrefl _ h1
theorem call_allX (hc : X.calm = true) : CallR X (.builtin "all") (rAllX X.K fun bs => bs.all id) := by
  intro pins s σ H xs us Q I rs h
  obtain ⟨p, bs, rfl, hq, q⟩ := h
  obtain ⟨u, rfl, rx⟩ := vals1 rs
  cases rx
  have z := bools_walk (f := fun tr => (List.range bs.length).all tr) (Q := EP X pins σ Q) (E := X.xe) hc I hq fun h' tk k => ⟨.bl _, H, I.kept k, rfl, by rw [range_all]; exact q⟩
  refine call_all_walk (wpAny_mono z (fun it s₂ z2 => ?_) fun _ _ z => z)
  obtain ⟨I', fp, wr, n, P, St, tr, e1, W, st, ht, en, et, hq'⟩ := z2
  exact ⟨I', fp, wr, n, P, St, tr, e1, W, st, ht, fun h' tk k => by rw [en]; exact hq' h' tk k⟩
/-- isinstance(x, c) -/
theorem call_isi : CallR X (.builtin "isinstance") (fun xs H Q => ∃ x c cv t b, xs = [x, c] ∧ (∀ v, RelV c v → v = cv) ∧ TyOf X.K H x t ∧ PySem.W.kitOne X.K t cv = some b ∧ Q (.bl b) H) := by
  intro pins s σ H xs us Q I rs h
  obtain ⟨x, c, cv, t, b, rfl, hc, ty, e, q⟩ := h
  obtain ⟨u, w', rfl, rx, rc⟩ := vals2 rs
  have ec := hc _ rc
  subst ec
  exact isinst_ok I rx ty e fun tk => ⟨.bl b, H, I.tok tk, rfl, q⟩

/-! ### methods of texts -/
end
/-! ### the forms one uses -/
/-! ### the same with the written part named -/
section
variable {X : Cx} {K : PySem.W.Frag} {pos : Pos} {tg : Expr}
theorem k_ix (hK : X.K = K := by rfl) : IxR X (rIxX K) := hK ▸ ix_X
theorem k_len (hK : X.K = K := by rfl) : CallR X (.builtin "len") (rLenX K) := hK ▸ call_lenX
theorem k_all (hc : X.calm = true := by rfl) (hK : X.K = K := by rfl) : CallR X (.builtin "all") (rAllX K fun bs => bs.all id) := hK ▸ call_allX hc
def rIsi (K : PySem.W.Frag) : List V → Hp → VK → Prop := fun xs H Q => ∃ x c cv t b, xs = [x, c] ∧ (∀ v, RelV c v → v = cv) ∧ TyOf K H x t ∧ PySem.W.kitOne K t cv = some b ∧ Q (.bl b) H
theorem k_pi {l : Expr} {tl : TE} (hl : PE X l tl) (hK : X.K = K := by rfl) : PI X tg l (iAny K tl) := hK ▸ pi_any hl
def rTupOf (K : PySem.W.Frag) : List V → Hp → VK → Prop := fun xs H Q => ∃ p ys, xs = [.ref p] ∧ ((SqL K H p ys ∧ ∀ l, H l = none → Q (.ref l) (upd H l (.tup ys))) ∨ (SqT K H p ys ∧ Q (.ref p) H))
def rLstOf (K : PySem.W.Frag) : List V → Hp → VK → Prop := fun xs H Q => ∃ p ys, xs = [.ref p] ∧ (SqL K H p ys ∨ SqT K H p ys) ∧ ∀ l, H l = none → Q (.ref l) (upd H l (.lst ys))
theorem k_bm {o e : Expr} {es : List Expr} {to : TE} {t : TA} {name : Str} {apos cpos : Pos} {T id : String} {r : V → List V → Hp → VK → Prop} (pa : PlainAttrs T) (slot : Slot T name id) (hty : typeOf (.builtin id) = pure (.type "method_descriptor")) (hm : MtR X id r) (ho : PE X o to) (ha : PA X (e :: es) t)
    (hbase : attributeBase o name X.env (eval o X.env) = eval o X.env := by rfl)
    (hfew : ((backTo cpos (starEach (e :: es) X.env)).all (fun x => !x.1) && (backToKw cpos (keywordEach [] X.env)).all (fun x => x.1.isSome)
      && decide ((e :: es).length + ([] : List Keyword).length + (if ([] : List Keyword).isEmpty then 0 else 1) < 30)) = true := by rfl)
    (hline : (apos.endLine == cpos.line) = true := by rfl) (hs : starEach (e :: es) X.env = (false, eval e X.env) :: starEach es X.env := by rfl) (hplain : (backTo cpos (starEach es X.env)).any (·.1) = false := by rfl) (hK : X.K = K := by rfl) :
    PE X (.Call (.Attribute o name apos) (e :: es) [] cpos) (tBM K T r to t) := hK ▸ pe_bm pa slot hty hm ho ha hbase hfew hline hs hplain
theorem k_tup {es : List Expr} {k : Nat} {t : TGs} {n : Nat} (h : PGs X es t) (hc : X.calm = true := by rfl)
    (hn : (assignEach es X.env).length = n := by rfl) (hst : (assignEach es X.env).findIdx? (·.1) = none := by rfl) (hK : X.K = K := by rfl) : PG X (.Tuple es k pos) (gTup K n t) := hK ▸ pg_tup hc h hn hst
end
end L2

namespace L2
open PySem PySem.Spec PyProof.Rows
/-! ### reading, statement by statement -/
theorem same_new {H : Hp} {q : Addr} {o : HO} (h : H q = none) : Same H (upd H q o) := fun b u e => by
  rw [upd_ne (ne_of_none e h)]
  exact e
/-! ### comprehensions whose parts change nothing -/
structure Walk (J : It) (xs : List V) (H : Hp) : Prop where
  go : ∀ i, i < xs.length → J.go i H
  yld : ∀ (i : Nat) v H', i < xs.length → J.yld i H v H' → H' = H ∧ xs[i]? = some v
  stop : ∀ i, xs.length ≤ i → J.stop i H
end L2

namespace L2
open PySem PySem.Spec PyProof.Rows
/-! ### range(lo, hi, step) -/
def Itrc (lo c : Int) (n : Nat) : It := ⟨fun i _ => i < n, fun i H x H' => H' = H ∧ x = .int (lo + i * c), fun i _ => n ≤ i⟩
section
variable {X : Cx} {tg : Expr}
def iRng3 (ta : TA) : TI := fun σ H R => ta σ H fun vs H1 => ∃ i j c : Int, vs = [.int i, .int j, .int c] ∧ (c ≠ 0 ∧ c.natAbs < 1073741824 ∧ Builtin.Range.small i j c = true) ∧ R (Itrc i c (Builtin.Range.rangeSize i j c).toNat) H1
end
end L2

namespace L2
open PySem PySem.Spec PyProof.Rows
/-! ### enumerate(text) -/
/-- the pairs of a number from n0 on and a sign -/
def Ites (n0 : Nat) (cs : List Nat) : It := ⟨fun i _ => i < cs.length, fun i H v H' => ∃ c p, cs[i]? = some c ∧ H p = none ∧ v = .ref p ∧ H' = upd H p (.tup [.int ((n0 + i : Nat) : Int), S [c]]), fun i _ => cs.length ≤ i⟩
section
variable {X : Cx} {elts : List Expr} {x1 : Nat} {tpos : Pos}
def iEnum (ta : TA) : TI := fun σ H R => ta σ H fun vs H1 => ∃ cs, vs = [S cs] ∧ R (Ites 0 cs) H1
end
end L2

namespace DL
open PySem PySem.Spec L2

/-- a datum: a value with all that it holds -/
inductive D where
  | non
  | bl (b : Bool)
  | int (i : Int)
  | str (cs : List Nat)
  | lst (xs : List D)
  | tup (xs : List D)
  | obj (c : String) (ks : List String) (xs : List D)
/-- a list of the module's own -/
def KL (K : PySem.W.Frag) (a : Addr) (vs : List V) : Prop := ∃ (o : Obj) (its : Array Value) (n : Nat), K.lookup a = some o ∧ o.cls = .type "list" ∧ o.dict = none ∧ o.data = .seq its n ∧ its.size ≤ sizeLine ∧ Vals vs its.toList
/-- the classes' addresses; what the module has written -/
structure Kn where
  c : String → Addr
  K : PySem.W.Frag
def scalar : D → Bool
  | .non => true
  | .bl _ => true
  | .int _ => true
  | .str _ => true
  | _ => false

mutual
/-- the value v holds the datum in the heap H; none of its objects is one of av -/
def Rep (cA : Kn) (av : Addr → Prop) (H : Hp) : D → V → Prop
  | .non, v => v = .non
  | .bl b, v => v = .bl b
  | .int i, v => v = .int i
  | .str cs, v => v = S cs
  | .lst xs, v => ∃ a vs, v = .ref a ∧ (av a → KL cA.K a vs) ∧ SqL cA.K H a vs ∧ RepL cA av H xs vs
  | .tup xs, v => ∃ a vs, v = .ref a ∧ ¬ av a ∧ H a = some (.tup vs) ∧ RepL cA av H xs vs
  | .obj c ks xs, v => ∃ a dx vs, v = .ref a ∧ ¬ av a ∧ H a = some (.ins (cA.c c) dx ((ks.map Str.ofString).zip vs)) ∧ ks.length = xs.length ∧ RepL cA av H xs vs
def RepL (cA : Kn) (av : Addr → Prop) (H : Hp) : List D → List V → Prop
  | [], vs => vs = []
  | x :: xs, vs => ∃ v r, vs = v :: r ∧ Rep cA av H x v ∧ RepL cA av H xs r
end

section
variable {cA : Kn} {G : Cn} {av av' : Addr → Prop} {H H' : Hp}
theorem Rd.ext {a : Addr} {u : HO} (h : Rd H a u) (k : ∀ o, H a = some o → H' a = some o) : Rd H' a u := by
  rcases h with h | ⟨o, h⟩
  · exact .inl (k _ h)
  · exact .inr ⟨o, k _ h⟩
theorem Rd.there {a : Addr} {u : HO} (h : Rd H a u) : H a ≠ none := by
  rcases h with h | ⟨o, h⟩ <;> rw [h] <;> exact fun z => by cases z
theorem sq_ext {K : PySem.W.Frag} {a : Addr} {vs : List V} (n : av a → KL K a vs) (r : SqL K H a vs) (k : ∀ b o, ¬ av b → H b = some o → H' b = some o) : SqL K H' a vs := by
  by_cases h : av a
  · exact .inr (n h)
  · rcases r with r | r
    · exact .inl (Rd.ext r fun o => k a o h)
    · exact .inr r
theorem sq_av {K : PySem.W.Frag} {a : Addr} {vs : List V} (n : av a → KL K a vs) (r : SqL K H a vs) (k : ∀ b, av' b → av b ∨ H b = none) : av' a → KL K a vs := fun z => by
  rcases k a z with z | z
  · exact n z
  · rcases r with r | r
    · exact absurd z (Rd.there r)
    · exact r
mutual
theorem Rep.ext : ∀ {d : D} {v : V}, (∀ b o, ¬ av b → H b = some o → H' b = some o) → Rep cA av H d v → Rep cA av H' d v
  | .non, _, _, h => h
  | .bl _, _, _, h => h
  | .int _, _, _, h => h
  | .str _, _, _, h => h
  | .lst xs, v, k, h => by
    unfold Rep at h ⊢
    obtain ⟨a, vs, e, n, r, l⟩ := h
    exact ⟨a, vs, e, n, sq_ext n r k, RepL.ext k l⟩
  | .tup xs, v, k, h => by
    unfold Rep at h ⊢
    obtain ⟨a, vs, e, n, r, l⟩ := h
    exact ⟨a, vs, e, n, k a _ n r, RepL.ext k l⟩
  | .obj c ks xs, v, k, h => by
    unfold Rep at h ⊢
    obtain ⟨a, dx, vs, e, n, r, z, l⟩ := h
    exact ⟨a, dx, vs, e, n, k a _ n r, z, RepL.ext k l⟩
theorem RepL.ext : ∀ {xs : List D} {vs : List V}, (∀ b o, ¬ av b → H b = some o → H' b = some o) → RepL cA av H xs vs → RepL cA av H' xs vs
  | [], _, _, h => h
  | x :: xs, vs, k, h => by
    unfold RepL at h ⊢
    obtain ⟨v, r, e, h1, h2⟩ := h
    exact ⟨v, r, e, Rep.ext k h1, RepL.ext k h2⟩
end
mutual
theorem Rep.av : ∀ {d : D} {v : V}, (∀ b, av' b → av b ∨ H b = none) → Rep cA av H d v → Rep cA av' H d v
  | .non, _, _, h => h
  | .bl _, _, _, h => h
  | .int _, _, _, h => h
  | .str _, _, _, h => h
  | .lst xs, v, k, h => by
    unfold Rep at h ⊢
    obtain ⟨a, vs, e, n, r, l⟩ := h
    exact ⟨a, vs, e, sq_av n r k, r, RepL.av k l⟩
  | .tup xs, v, k, h => by
    unfold Rep at h ⊢
    obtain ⟨a, vs, e, n, r, l⟩ := h
    exact ⟨a, vs, e, fun z => (k a z).elim n (by rw [r]; exact fun z => by cases z), r, RepL.av k l⟩
  | .obj c ks xs, v, k, h => by
    unfold Rep at h ⊢
    obtain ⟨a, dx, vs, e, n, r, z, l⟩ := h
    exact ⟨a, dx, vs, e, fun y => (k a y).elim n (by rw [r]; exact fun z => by cases z), r, z, RepL.av k l⟩
theorem RepL.av : ∀ {xs : List D} {vs : List V}, (∀ b, av' b → av b ∨ H b = none) → RepL cA av H xs vs → RepL cA av' H xs vs
  | [], _, _, h => h
  | x :: xs, vs, k, h => by
    unfold RepL at h ⊢
    obtain ⟨v, r, e, h1, h2⟩ := h
    exact ⟨v, r, e, Rep.av k h1, RepL.av k h2⟩
end
theorem Rep.scal {d : D} {v : V} (hs : scalar d = true) (h : Rep cA av H d v) : Rep cA av' H' d v := by
  cases d <;> first | exact h | cases hs
theorem Rep.same {d : D} {v : V} (k : Same H H') (h : Rep cA av H d v) : Rep cA av H' d v := h.ext fun b o _ => k b o
theorem RepL.same {xs : List D} {vs : List V} (k : Same H H') (h : RepL cA av H xs vs) : RepL cA av H' xs vs := h.ext fun b o _ => k b o
theorem RepL.nil : RepL cA av H [] [] := by unfold RepL; rfl
theorem RepL.cons {d : D} {v : V} {xs : List D} {vs : List V} (h : Rep cA av H d v) (t : RepL cA av H xs vs) : RepL cA av H (d :: xs) (v :: vs) := by
  unfold RepL
  exact ⟨v, vs, rfl, h, t⟩
theorem RepL.uncons {d : D} {xs : List D} {vs : List V} (h : RepL cA av H (d :: xs) vs) : ∃ v r, vs = v :: r ∧ Rep cA av H d v ∧ RepL cA av H xs r := by
  unfold RepL at h
  exact h
theorem RepL.nil_of {vs : List V} (h : RepL cA av H [] vs) : vs = [] := by
  unfold RepL at h
  exact h
theorem RepL.length : ∀ {xs : List D} {vs : List V}, RepL cA av H xs vs → xs.length = vs.length
  | [], vs, h => by rw [h.nil_of]; rfl
  | x :: xs, vs, h => by
    obtain ⟨v, r, rfl, _, t⟩ := h.uncons
    rw [List.length_cons, List.length_cons, RepL.length t]
theorem RepL.get : ∀ {xs : List D} {vs : List V} {i : Nat} {x : D}, RepL cA av H xs vs → xs[i]? = some x → ∃ v, vs[i]? = some v ∧ Rep cA av H x v
  | [], _, _, _, _, e => by simp at e
  | y :: xs, vs, 0, x, h, e => by
    obtain ⟨v, r, rfl, h1, _⟩ := h.uncons
    simp at e; subst e
    exact ⟨v, rfl, h1⟩
  | y :: xs, vs, i + 1, x, h, e => by
    obtain ⟨v, r, rfl, _, t⟩ := h.uncons
    obtain ⟨u, h1, h2⟩ := RepL.get (i := i) t (by simpa using e)
    exact ⟨u, by simpa using h1, h2⟩
theorem RepL.append : ∀ {xs ys : List D} {vs ws : List V}, RepL cA av H xs vs → RepL cA av H ys ws → RepL cA av H (xs ++ ys) (vs ++ ws)
  | [], _, vs, _, h, t => by rw [h.nil_of]; exact t
  | x :: xs, ys, vs, ws, h, t => by
    obtain ⟨v, r, rfl, h1, h2⟩ := h.uncons
    exact .cons h1 (RepL.append h2 t)
theorem RepL.drop : ∀ {xs : List D} {vs : List V} (n : Nat), RepL cA av H xs vs → RepL cA av H (xs.drop n) (vs.drop n)
  | _, _, 0, h => h
  | [], vs, n + 1, h => by rw [h.nil_of]; exact .nil
  | x :: xs, vs, n + 1, h => by
    obtain ⟨v, r, rfl, _, h2⟩ := h.uncons
    exact RepL.drop n h2
theorem RepL.take : ∀ {xs : List D} {vs : List V} (n : Nat), RepL cA av H xs vs → RepL cA av H (xs.take n) (vs.take n)
  | _, _, 0, h => by simp; exact .nil
  | [], vs, n + 1, h => by rw [h.nil_of]; exact .nil
  | x :: xs, vs, n + 1, h => by
    obtain ⟨v, r, rfl, h1, h2⟩ := h.uncons
    exact .cons h1 (RepL.take n h2)
theorem RepL.set {d : D} {v : V} (hd : Rep cA av H d v) : ∀ {xs : List D} {vs : List V} (i : Nat), RepL cA av H xs vs → RepL cA av H (xs.set i d) (vs.set i v)
  | [], vs, _, h => by rw [h.nil_of]; exact .nil
  | x :: xs, vs, 0, h => by
    obtain ⟨v', r, rfl, h1, h2⟩ := h.uncons
    exact .cons hd h2
  | x :: xs, vs, i + 1, h => by
    obtain ⟨v', r, rfl, h1, h2⟩ := h.uncons
    exact .cons h1 (RepL.set hd i h2)
/-- lists of scalars -/
def val : D → V
  | .bl b => .bl b
  | .int i => .int i
  | .str cs => S cs
  | _ => .non
theorem Rep.val {d : D} {v : V} (hs : scalar d = true) (h : Rep cA av H d v) : v = DL.val d := by
  cases d <;> first | exact h | cases hs
theorem Rep.of_val {d : D} (hs : scalar d = true) : Rep cA av H d (DL.val d) := by
  cases d <;> first | rfl | cases hs
theorem RepL.vals : ∀ {xs : List D} {vs : List V}, xs.all scalar = true → RepL cA av H xs vs → vs = xs.map DL.val
  | [], vs, _, h => h.nil_of
  | x :: xs, vs, hs, h => by
    rw [List.all_cons, Bool.and_eq_true] at hs
    obtain ⟨v, r, rfl, h1, h2⟩ := h.uncons
    rw [List.map_cons, h1.val hs.1, RepL.vals hs.2 h2]
theorem RepL.of_vals : ∀ {xs : List D}, xs.all scalar = true → RepL cA av H xs (xs.map DL.val)
  | [], _ => .nil
  | x :: xs, hs => by
    rw [List.all_cons, Bool.and_eq_true] at hs
    exact .cons (.of_val hs.1) (RepL.of_vals hs.2)

/-- the top object avoids t, what it holds i -/
def RepT (cA : Kn) (t i : Addr → Prop) (H : Hp) : D → V → Prop
  | .lst xs, v => ∃ a vs, v = .ref a ∧ (t a → KL cA.K a vs) ∧ SqL cA.K H a vs ∧ RepL cA i H xs vs
  | .tup xs, v => ∃ a vs, v = .ref a ∧ ¬ t a ∧ H a = some (.tup vs) ∧ RepL cA i H xs vs
  | .obj c ks xs, v => ∃ a dx vs, v = .ref a ∧ ¬ t a ∧ H a = some (.ins (cA.c c) dx ((ks.map Str.ofString).zip vs)) ∧ ks.length = xs.length ∧ RepL cA i H xs vs
  | d, v => v = DL.val d
theorem Rep.t {d : D} {v : V} (h : Rep cA av H d v) : RepT cA av av H d v := by
  cases d <;> first | exact h | (unfold Rep at h; exact h)
theorem RepT.r {d : D} {v : V} (h : RepT cA av av H d v) : Rep cA av H d v := by
  cases d <;> first | exact h | (unfold Rep; exact h)
theorem RepT.weak {t t' i i' : Addr → Prop} {d : D} {v : V} (ht : ∀ a, t' a → t a) (hi : ∀ a, i' a → i a) (h : RepT cA t i H d v) : RepT cA t' i' H d v := by
  cases d with
  | lst xs => obtain ⟨a, vs, e, n, r, l⟩ := h; exact ⟨a, vs, e, fun z => n (ht a z), r, l.av fun b z => .inl (hi b z)⟩
  | tup xs => obtain ⟨a, vs, e, n, r, l⟩ := h; exact ⟨a, vs, e, fun z => n (ht a z), r, l.av fun b z => .inl (hi b z)⟩
  | obj c ks xs => obtain ⟨a, dx, vs, e, n, r, z, l⟩ := h; exact ⟨a, dx, vs, e, fun z => n (ht a z), r, z, l.av fun b z => .inl (hi b z)⟩
  | _ => exact h
theorem RepT.same {t i : Addr → Prop} {d : D} {v : V} (k : Same H H') (h : RepT cA t i H d v) : RepT cA t i H' d v := by
  cases d with
  | lst xs => obtain ⟨a, vs, e, n, r, l⟩ := h; exact ⟨a, vs, e, n, k.seq r, l.same k⟩
  | tup xs => obtain ⟨a, vs, e, n, r, l⟩ := h; exact ⟨a, vs, e, n, k a _ r, l.same k⟩
  | obj c ks xs => obtain ⟨a, dx, vs, e, n, r, z, l⟩ := h; exact ⟨a, dx, vs, e, n, k a _ r, z, l.same k⟩
  | _ => exact h
end

abbrev Env := List (Option D)
/-- the classes' addresses; the names that keep their object -/
structure Cn where
  cA : Kn
  pin : Nat → Option (Addr ⊕ V)
/-- av, and what the def's own names hold alone -/
def AV (av : Addr → Prop) (A : Nat → Option Addr) (a : Addr) : Prop := av a ∨ ∃ i, A i = some a
/-- an object that is the name's alone -/
def Own (cA : Kn) (av : Addr → Prop) (H : Hp) : D → Addr → Prop
  | .lst xs, a => ∃ vs, H a = some (.lst vs) ∧ RepL cA av H xs vs
  | .obj c ks xs, a => ∃ dx vs, H a = some (.ins (cA.c c) dx ((ks.map Str.ofString).zip vs)) ∧ ks.length = xs.length ∧ RepL cA av H xs vs
  | _, _ => False
/-- the names' values hold the data; ow: the names that hold an object of their own -/
structure ER (G : Cn) (ow : List Nat) (H0 : Hp) (av : Addr → Prop) (A : Nat → Option Addr) (σ : St) (H : Hp) (δ : Env) : Prop where
  same : Same H0 H
  avd : ∀ a, av a → H0 a ≠ none
  fr : ∀ i a, A i = some a → H0 a = none
  inj : ∀ i j a, A i = some a → A j = some a → i = j
  live : ∀ i a, A i = some a → H a ≠ none
  dom : ∀ i, A i ≠ none → i ∈ ow
  dom' : ∀ i ∈ ow, A i ≠ none
  len : σ.length = δ.length
  pin : ∀ i a, G.2 i = some (.inl a) → A i = some a
  kept : ∀ i v, G.2 i = some (.inr v) → σ[i]? = some (some v)
  var : ∀ (i : Nat) (d : D), δ[i]? = some (some d) → ∃ v, σ[i]? = some (some v) ∧ (A i = none → Rep G.1 (AV av A) H d v) ∧ (∀ a, A i = some a → v = .ref a ∧ Own G.1 (AV av A) H d a)

/-- how much is known of a value: it avoids all that is owned (cl), its parts do (tp), nothing more (dt) -/
inductive Ql where
  | cl | tp | dt
def RepQ (cA : Kn) (av : Addr → Prop) (A : Nat → Option Addr) (H : Hp) : Ql → D → V → Prop
  | .cl, d, v => RepT cA (AV av A) (AV av A) H d v
  | .tp, d, v => RepT cA av (AV av A) H d v
  | .dt, d, v => RepT cA av av H d v
/-- of a part of it -/
def Ql.it : Ql → Ql
  | .dt => .dt
  | _ => .cl
section
variable {cA : Kn} {G : Cn} {ow : List Nat} {H0 H H' : Hp} {av : Addr → Prop} {A : Nat → Option Addr} {σ : St} {δ : Env}
theorem AV.l {a : Addr} (h : av a) : AV av A a := .inl h
def Ql.iv (q : Ql) (av : Addr → Prop) (A : Nat → Option Addr) : Addr → Prop := match q with
  | .dt => av
  | _ => AV av A
theorem RepQ.tp {q : Ql} {d : D} {v : V} (h : RepQ cA av A H q d v) : RepT cA av (q.iv av A) H d v := by
  cases q with
  | cl => exact h.weak (fun a => .inl) fun a z => z
  | tp => exact h
  | dt => exact h
theorem RepQ.any {q : Ql} {d : D} {v : V} (h : RepQ cA av A H q d v) : Rep cA av H d v := by
  cases q with
  | cl => exact (h.weak (fun a => .inl) fun a => .inl).r
  | tp => exact (h.weak (fun a z => z) fun a => .inl).r
  | dt => exact h.r
theorem RepQ.same {q : Ql} {d : D} {v : V} (k : Same H H') (h : RepQ cA av A H q d v) : RepQ cA av A H' q d v := by
  cases q <;> exact RepT.same k h
theorem ER.mono (E : ER G ow H0 av A σ H δ) (k : Same H H') : ER G ow H0 av A σ H' δ := by
  refine ⟨E.same.trans k, E.avd, E.fr, E.inj, fun i a e => ?_, E.dom, E.dom', E.len, E.pin, E.kept, fun i d e => ?_⟩
  · have := E.live i a e
    cases q : H a with
    | none => exact absurd q this
    | some o => rw [k a o q]; exact fun z => by cases z
  · obtain ⟨v, h1, h2, h3⟩ := E.var i d e
    refine ⟨v, h1, fun z => (h2 z).same k, fun a z => ⟨(h3 a z).1, ?_⟩⟩
    have := (h3 a z).2
    cases d with
    | lst xs => obtain ⟨vs, q1, q2⟩ := this; exact ⟨vs, k _ _ q1, q2.same k⟩
    | obj c ks xs => obtain ⟨dx, vs, q1, q0, q2⟩ := this; exact ⟨dx, vs, k _ _ q1, q0, q2.same k⟩
    | _ => exact this
theorem ER.avl (E : ER G ow H0 av A σ H δ) : ∀ a, AV av A a → H a ≠ none := fun a h => by
  rcases h with h | ⟨i, h⟩
  · have := E.avd a h
    cases q : H0 a with
    | none => exact absurd q this
    | some o => rw [E.same a o q]; exact fun z => by cases z
  · exact E.live i a h
theorem ER.avH (E : ER G ow H0 av A σ H δ) : ∀ a, av a → H a ≠ none := fun a h => E.avl a (.inl h)
end

/-! ### what a reading tells of data -/
def VE (G : Cn) (ow : List Nat) (te : TE) (q : Ql) (ε : Env → Option D) : Prop :=
  ∀ H0 av A σ H δ, ER G ow H0 av A σ H δ → ∀ d, ε δ = some d → ∀ Q : VK, (∀ v H', Same H H' → RepQ G.1 av A H' q d v → Q v H') → te σ H Q
/-- a new list -/
def VF (G : Cn) (ow : List Nat) (te : TE) (ε : Env → Option D) : Prop :=
  ∀ H0 av A σ H δ, ER G ow H0 av A σ H δ → ∀ d, ε δ = some d → ∀ Q : VK, (∀ p vs xs H1, Same H H1 → H1 p = none → RepL G.1 (AV av A) H1 xs vs → d = .lst xs → Q (.ref p) (upd H1 p (.lst vs))) → te σ H Q
def VT (G : Cn) (ow : List Nat) (tt : TT) (τ : Env → Option Bool) : Prop :=
  ∀ H0 av A σ H δ, ER G ow H0 av A σ H δ → ∀ b, τ δ = some b → ∀ Q : Bool → Hp → Prop, (∀ H', Same H H' → Q b H') → tt σ H Q
def RepQL (cA : Kn) (av : Addr → Prop) (A : Nat → Option Addr) (H : Hp) (q : Ql) : List D → List V → Prop
  | [], vs => vs = []
  | x :: xs, vs => ∃ v r, vs = v :: r ∧ RepQ cA av A H q x v ∧ RepQL cA av A H q xs r
def VA (G : Cn) (ow : List Nat) (ta : TA) (q : Ql) (α : Env → Option (List D)) : Prop :=
  ∀ H0 av A σ H δ, ER G ow H0 av A σ H δ → ∀ ds, α δ = some ds → ∀ Q : List V → Hp → Prop, (∀ vs H', Same H H' → RepQL G.1 av A H' q ds vs → Q vs H') → ta σ H Q
section
variable {cA : Kn} {G : Cn} {ow : List Nat}
theorem RepQL.cl {av : Addr → Prop} {A : Nat → Option Addr} {H : Hp} : ∀ {xs : List D} {vs : List V}, RepQL cA av A H .cl xs vs → RepL cA (AV av A) H xs vs
  | [], _, h => by unfold RepL; exact h
  | x :: xs, vs, h => by
    obtain ⟨v, r, e, h1, h2⟩ := h
    subst e
    exact .cons (RepT.r h1) (RepQL.cl h2)
theorem RepQL.any {av : Addr → Prop} {A : Nat → Option Addr} {H : Hp} {q : Ql} : ∀ {xs : List D} {vs : List V}, RepQL cA av A H q xs vs → RepL cA av H xs vs
  | [], _, h => by unfold RepL; exact h
  | x :: xs, vs, h => by
    obtain ⟨v, r, e, h1, h2⟩ := h
    subst e
    exact .cons h1.any (RepQL.any h2)
theorem VE.dt {te : TE} {q : Ql} {ε : Env → Option D} (h : VE G ow te q ε) : VE G ow te .dt ε := fun H0 av A σ H δ E d e Q k =>
  h H0 av A σ H δ E d e Q fun v H' s r => k v H' s r.any.t
theorem same_upd {H : Hp} {p : Addr} {o : HO} (h : H p = none) : Same H (upd H p o) := same_new h
theorem VF.cl {te : TE} {ε : Env → Option D} (h : VF G ow te ε) : VE G ow te .cl ε := fun H0 av A σ H δ E d e Q k =>
  h H0 av A σ H δ E d e Q fun p vs xs H1 s hp l hd => by
    subst hd
    refine k _ _ (s.trans (same_upd hp)) ⟨p, vs, rfl, fun z => ((E.mono s).avl p z hp).elim, SqL.of upd_same, l.same (same_upd hp)⟩
/-- where what comes is a scalar -/
def eScal (ε : Env → Option D) (δ : Env) : Option D := match ε δ with
  | some d => if scalar d then some d else none
  | none => none
theorem VE.scal {te : TE} {q : Ql} {ε : Env → Option D} (h : VE G ow te q ε) : VE G ow te .cl (eScal ε) := fun H0 av A σ H δ E d e Q k => by
  unfold eScal at e
  cases he : ε δ with
  | none => rw [he] at e; cases e
  | some d' =>
    rw [he] at e
    by_cases hs : scalar d' = true
    · have e' : d' = d := by simpa [hs] using e
      subst e'
      exact h H0 av A σ H δ E d' he Q fun v H' s r => k v H' s (Rep.scal hs r.any).t
    · simp [hs] at e

/-! ### names, constants -/
def eVar (i : Nat) (δ : Env) : Option D := match δ[i]? with
  | some (some d) => some d
  | _ => none
theorem eVar_some {i : Nat} {δ : Env} {d : D} (h : eVar i δ = some d) : δ[i]? = some (some d) := by
  unfold eVar at h
  cases e : δ[i]? with
  | none => rw [e] at h; cases h
  | some o =>
    rw [e] at h
    cases o with
    | none => cases h
    | some x => exact congrArg (some ∘ some) (Option.some.inj h)
theorem ve_var (i : Nat) (hi : (ow.contains i) = false) : VE G ow (tVar i) .cl (eVar i) := fun H0 av A σ H δ E d e Q k => by
  obtain ⟨v, h1, h2, _⟩ := E.var i d (eVar_some e)
  have hn : A i = none := by
    cases q : A i with
    | none => rfl
    | some a =>
      have := E.dom i (by rw [q]; exact fun z => by cases z)
      simp at hi
      exact absurd this hi
  exact ⟨v, h1, k v H (Same.refl H) (h2 hn).t⟩
theorem ve_own (i : Nat) (hi : (ow.contains i) = true) : VE G ow (tVar i) .tp (eVar i) := fun H0 av A σ H δ E d e Q k => by
  obtain ⟨v, h1, _, h3⟩ := E.var i d (eVar_some e)
  have hi' : i ∈ ow := by simpa using hi
  cases q : A i with
  | none => exact absurd q (E.dom' i hi')
  | some a =>
    obtain ⟨rfl, o⟩ := h3 a q
    have na : ¬ av a := fun z => E.avd a z (E.fr i a q)
    refine ⟨_, h1, k _ H (Same.refl H) ?_⟩
    cases d with
    | lst xs => obtain ⟨vs, q1, q2⟩ := o; exact ⟨a, vs, rfl, fun z => (na z).elim, SqL.of q1, q2⟩
    | obj c ks xs => obtain ⟨dx, vs, q1, q0, q2⟩ := o; exact ⟨a, dx, vs, rfl, na, q1, q0, q2⟩
    | _ => exact False.elim o
def eC (d : D) (_ : Env) : Option D := some d
theorem ve_c {v : V} {d : D} (hs : scalar d = true) (hv : v = val d) : VE G ow (tC v) .cl (eC d) := fun H0 av A σ H δ E d' e Q k => by
  have e' : d = d' := Option.some.inj e
  subst e' hv
  exact k _ H (Same.refl H) (Rep.of_val hs).t

/-! ### two in a row -/
def OpOk (cA : Kn) (r : R2) (f : D → D → Option D) : Prop :=
  ∀ (t t' i : Addr → Prop) (H : Hp) (x y : D) (vx vy : V) (d : D), (∀ a, i a → H a ≠ none) → RepT cA t i H x vx → RepT cA t' i H y vy → f x y = some d → ∀ Q : VK, (∀ v H', Same H H' → Rep cA i H' d v → Q v H') → r vx vy H Q
def eOp (f : D → D → Option D) (a b : Env → Option D) (δ : Env) : Option D := match a δ with
  | some x => match b δ with
    | some y => f x y
    | none => none
  | none => none
theorem eOp_some {f : D → D → Option D} {a b : Env → Option D} {δ : Env} {d : D} (h : eOp f a b δ = some d) : ∃ x y, a δ = some x ∧ b δ = some y ∧ f x y = some d := by
  unfold eOp at h
  cases ea : a δ with
  | none => rw [ea] at h; cases h
  | some x =>
    rw [ea] at h
    cases eb : b δ with
    | none => rw [eb] at h; cases h
    | some y => rw [eb] at h; exact ⟨x, y, rfl, rfl, h⟩
def Ql.jn : Ql → Ql → Ql
  | .dt, _ => .dt
  | _, .dt => .dt
  | _, _ => .cl
theorem ve_op {r : R2} {f : D → D → Option D} {ta tb : TE} {qa qb : Ql} {a b : Env → Option D} (hr : OpOk G.1 r f) (ha : VE G ow ta qa a) (hb : VE G ow tb qb b) : VE G ow (tOp r ta tb) (qa.jn qb) (eOp f a b) := fun H0 av A σ H δ E d e Q k => by
  obtain ⟨x, y, ex, ey, ed⟩ := eOp_some e
  refine ha H0 av A σ H δ E x ex _ fun vx H1 s1 r1 => hb H0 av A σ H1 δ (E.mono s1) y ey _ fun vy H2 s2 r2 => ?_
  have E2 := (E.mono s1).mono s2
  have r1' := (r1.same s2).tp
  have r2' := r2.tp
  have key : ∀ i : Addr → Prop, (∀ a, i a → H2 a ≠ none) → RepT G.1 av i H2 x vx → RepT G.1 av i H2 y vy → (∀ v H', Same H2 H' → Rep G.1 i H' d v → Q v H') → r vx vy H2 Q := fun i hi h1 h2 h3 => hr av av i H2 x y vx vy d hi h1 h2 ed Q h3
  have toav : ∀ {dd : D} {v : V}, RepT G.1 av (AV av A) H2 dd v → RepT G.1 av av H2 dd v := fun h => h.weak (fun a z => z) fun a => .inl
  cases qa with
  | dt =>
    refine key av E2.avH r1' ?_ fun v H' s3 r3 => k v H' ((s1.trans s2).trans s3) r3.t
    cases qb with
    | dt => exact r2'
    | cl => exact toav r2'
    | tp => exact toav r2'
  | cl =>
    cases qb with
    | dt => exact key av E2.avH (toav r1') r2' fun v H' s3 r3 => k v H' ((s1.trans s2).trans s3) r3.t
    | cl => exact key _ E2.avl r1' r2' fun v H' s3 r3 => k v H' ((s1.trans s2).trans s3) r3.t
    | tp => exact key _ E2.avl r1' r2' fun v H' s3 r3 => k v H' ((s1.trans s2).trans s3) r3.t
  | tp =>
    cases qb with
    | dt => exact key av E2.avH (toav r1') r2' fun v H' s3 r3 => k v H' ((s1.trans s2).trans s3) r3.t
    | cl => exact key _ E2.avl r1' r2' fun v H' s3 r3 => k v H' ((s1.trans s2).trans s3) r3.t
    | tp => exact key _ E2.avl r1' r2' fun v H' s3 r3 => k v H' ((s1.trans s2).trans s3) r3.t
end
end DL

namespace DL
open PySem PySem.Spec L2
/-! ### == -/
mutual
def toP : D → PyData
  | .non => .none
  | .bl b => .bool b
  | .int i => .int i
  | .str cs => .str (tx cs)
  | .lst xs => .list (toPs xs)
  | .tup xs => .tuple (toPs xs)
  | .obj _ _ _ => .dict []
def toPs : List D → List PyData
  | [] => []
  | x :: xs => toP x :: toPs xs
end
section
variable {X : Cx} {cA : Kn}
mutual
theorem reads_of {pins : List (Addr × Obj)} {σ : L2.St} {H : Hp} {s : Shared} {av : Addr → Prop} (hK : cA.K = X.K) (I : Inv X pins σ H s) : ∀ (d : D) (v : V) (u : Value), PyData.canLay0 (toP d) = true → Rep cA av H d v → RelV v u → ∃ as, Reads s.heap u (toP d) as
  | .non, v, u, _, h, r => by
    cases (show v = .non from h); cases r
    exact ⟨_, .none⟩
  | .bl b, v, u, _, h, r => by
    cases (show v = .bl b from h); cases r
    exact ⟨_, .bool b⟩
  | .int i, v, u, _, h, r => by
    cases (show v = .int i from h)
    obtain ⟨t, rfl⟩ := r
    exact ⟨_, .int i t⟩
  | .str cs, v, u, _, h, r => by
    cases (show v = S cs from h)
    obtain ⟨t, rfl⟩ := r
    exact ⟨_, .str _ t⟩
  | .lst xs, v, u, c, h, r => by
    unfold Rep at h
    obtain ⟨a, vs, rfl, _, rd, l⟩ := h
    cases r
    obtain ⟨its, rv, ⟨ob, n, e, hc, hd, hs⟩, z⟩ := I.list (show SqL X.K H a vs from hK ▸ rd)
    obtain ⟨as, ra⟩ := readsL_of hK I xs vs its (by unfold toP PyData.canLay0 at c; exact c) l rv
    unfold toP
    exact ⟨_, .list e hc hs (by simpa using ra)⟩
  | .tup xs, v, u, c, h, r => by
    unfold Rep at h
    obtain ⟨a, vs, rfl, _, rd, l⟩ := h
    cases r
    obtain ⟨z, its, rv, ob, e, hc, n, hd⟩ := (show ObjOk X.prog X.w H s.heap a (.tup vs) from I.hok a _ rd)
    obtain ⟨as, ra⟩ := readsL_of hK I xs vs its (by unfold toP PyData.canLay0 at c; exact c) l rv
    unfold toP
    exact ⟨_, .tuple e hc hd (by simpa using ra)⟩
  | .obj c' ks xs, v, u, c, h, r => by
    unfold toP PyData.canLay0 at c
    cases c
theorem readsL_of {pins : List (Addr × Obj)} {σ : L2.St} {H : Hp} {s : Shared} {av : Addr → Prop} (hK : cA.K = X.K) (I : Inv X pins σ H s) : ∀ (xs : List D) (vs : List V) (us : List Value), PyData.canLayAll0 (toPs xs) = true → RepL cA av H xs vs → Vals vs us → ∃ as, ReadsAll s.heap us (toPs xs) as
  | [], vs, us, _, h, r => by
    rw [h.nil_of] at r
    cases r
    exact ⟨_, .nil⟩
  | x :: xs, vs, us, c, h, r => by
    obtain ⟨v, rr, rfl, h1, h2⟩ := h.uncons
    cases r with
    | cons r1 r2 =>
      unfold toPs PyData.canLayAll0 at c
      rw [Bool.and_eq_true] at c
      obtain ⟨a1, q1⟩ := reads_of hK I x v _ c.1 h1 r1
      obtain ⟨a2, q2⟩ := readsL_of hK I xs rr _ c.2 h2 r2
      unfold toPs
      exact ⟨_, .cons q1 q2⟩
end
end
/-- == as data: scalars, lists and tuples -/
def eqD (x y : D) : Option D :=
  if scalar x && scalar y && scal (val x) (val y) then some (.bl (decide (val x = val y)))
  else if SeqAt.shaped (toP x) && SeqAt.shaped (toP y) then some (.bl (PyData.eqv (toP x) (toP y))) else none
def neD (x y : D) : Option D := match eqD x y with
  | some (.bl b) => some (.bl (!b))
  | _ => none
def rEqD (cA : Kn) (neg : Bool) : R2 := fun x y H Q => ∃ av av' dx dy b, Rep cA av H dx x ∧ Rep cA av' H dy y ∧ eqD dx dy = some (.bl b) ∧ Q (.bl (neg != b)) H
section
variable {X : Cx} {cA : Kn}
theorem op_eqD (hu : X.A.units + 64 < cLine) (hK : cA.K = X.K := by rfl) : OpR X (compareOp .Eq) (rEqD cA false) := by
  intro pins s σ H x y v u Q I rx ry h
  obtain ⟨av, av', dx, dy, b, hx, hy, e, q⟩ := h
  unfold eqD at e
  by_cases h1 : (scalar dx && scalar dy && scal (val dx) (val dy)) = true
  · rw [if_pos h1] at e
    simp only [Bool.and_eq_true] at h1
    obtain ⟨⟨s1, s2⟩, s3⟩ := h1
    have e1 := hx.val s1
    have e2 := hy.val s2
    subst e1 e2
    have e' : decide (val dx = val dy) = b := by simpa using e
    exact op_eq pins s σ H _ _ v u Q I rx ry ⟨s3, by rw [e']; simpa using q⟩
  · rw [if_neg h1] at e
    by_cases h2 : (SeqAt.shaped (toP dx) && SeqAt.shaped (toP dy)) = true
    · rw [if_pos h2] at e
      rw [Bool.and_eq_true] at h2
      obtain ⟨as, ra⟩ := reads_of hK I dx x v (SeqAt.canLay_of_shaped h2.1) hx rx
      obtain ⟨bs, rb⟩ := reads_of hK I dy y u (SeqAt.canLay_of_shaped h2.2) hy ry
      have e' : PyData.eqv (toP dx) (toP dy) = b := by simpa using e
      exact PyProof.Rows.eq_dataH ra rb h2.1 h2.2 hu (by rw [e']; exact ⟨.bl b, H, I, rfl, by simpa using q⟩)
    · rw [if_neg h2] at e
      cases e
theorem op_neD (hu : X.A.units + 64 < cLine) (hK : cA.K = X.K := by rfl) : OpR X (compareOp .NotEq) (rEqD cA true) := by
  intro pins s σ H x y v u Q I rx ry h
  obtain ⟨av, av', dx, dy, b, hx, hy, e, q⟩ := h
  unfold eqD at e
  by_cases h1 : (scalar dx && scalar dy && scal (val dx) (val dy)) = true
  · rw [if_pos h1] at e
    simp only [Bool.and_eq_true] at h1
    obtain ⟨⟨s1, s2⟩, s3⟩ := h1
    have e1 := hx.val s1
    have e2 := hy.val s2
    subst e1 e2
    have e' : decide (val dx = val dy) = b := by simpa using e
    exact op_ne pins s σ H _ _ v u Q I rx ry ⟨s3, by rw [e']; simpa using q⟩
  · rw [if_neg h1] at e
    by_cases h2 : (SeqAt.shaped (toP dx) && SeqAt.shaped (toP dy)) = true
    · rw [if_pos h2] at e
      rw [Bool.and_eq_true] at h2
      obtain ⟨as, ra⟩ := reads_of hK I dx x v (SeqAt.canLay_of_shaped h2.1) hx rx
      obtain ⟨bs, rb⟩ := reads_of hK I dy y u (SeqAt.canLay_of_shaped h2.2) hy ry
      have e' : PyData.eqv (toP dx) (toP dy) = b := by simpa using e
      exact PyProof.Rows.ne_dataH ra rb h2.1 h2.2 hu (by rw [e']; exact ⟨.bl (!b), H, I, rfl, by simpa using q⟩)
    · rw [if_neg h2] at e
      cases e
theorem RepT.av0 {t i : Addr → Prop} {H : Hp} {d : D} {v : V} (h : RepT cA t i H d v) : Rep cA (fun _ => False) H d v := (h.weak (fun _ z => z.elim) fun _ z => z.elim).r
theorem eqD_bl {x y d : D} (h : eqD x y = some d) : ∃ b, d = .bl b := by
  unfold eqD at h
  split at h
  · exact ⟨_, (Option.some.inj h).symm⟩
  · split at h
    · exact ⟨_, (Option.some.inj h).symm⟩
    · cases h
theorem ok_eq : OpOk cA (rEqD cA false) eqD := fun t t' i H x y vx vy d _ hx hy e Q k => by
  obtain ⟨b, rfl⟩ := eqD_bl e
  exact ⟨_, _, x, y, b, hx.av0, hy.av0, e, k _ H (Same.refl H) (by cases b <;> rfl)⟩
theorem ok_ne : OpOk cA (rEqD cA true) neD := fun t t' i H x y vx vy d _ hx hy e Q k => by
  unfold neD at e
  cases he : eqD x y with
  | none => rw [he] at e; cases e
  | some z =>
    obtain ⟨b, rfl⟩ := eqD_bl he
    rw [he] at e
    have e' : D.bl (!b) = d := Option.some.inj e
    subst e'
    exact ⟨_, _, x, y, b, hx.av0, hy.av0, he, k _ H (Same.refl H) (by cases b <;> rfl)⟩

/-! ### arithmetic -/
/-- x * n -/
def mulL (x : List Nat) (n : Int) : List Nat := (List.replicate n.toNat x).flatten
def rMulS : R2 := fun x y H Q => ∃ a n, x = S a ∧ y = .int n ∧ (n < 2 ^ 63 ∧ -(2 ^ 63) ≤ n ∧ a.length * n.toNat ≤ sizeLine) ∧ Q (S (mulL a n)) H
def rMulX : R2 := fun x y H Q => rI CMul (fun i j => .int (i * j)) x y H Q ∨ rMulS x y H Q
instance (i j : Int) : Decidable (CMul i j) := by unfold CMul; infer_instance
instance (i j : Int) : Decidable (CDiv i j) := by unfold CDiv; infer_instance
def addD : D → D → Option D
  | .int i, .int j => some (.int (i + j))
  | .str a, .str b => if a.length + b.length ≤ sizeLine then some (.str (a ++ b)) else none
  | _, _ => none
def subD : D → D → Option D
  | .int i, .int j => some (.int (i - j))
  | _, _ => none
def mulD : D → D → Option D
  | .int i, .int j => if CMul i j then some (.int (i * j)) else none
  | .str a, .int n => if n < 2 ^ 63 ∧ -(2 ^ 63) ≤ n ∧ a.length * n.toNat ≤ sizeLine then some (.str (mulL a n)) else none
  | _, _ => none
def fdivD : D → D → Option D
  | .int i, .int j => if CDiv i j then some (.int (i / j)) else none
  | _, _ => none
def modD : D → D → Option D
  | .int i, .int j => if 0 < j then some (.int (i % j)) else none
  | _, _ => none
def cmpD (p : Int → Int → Bool) : D → D → Option D
  | .int i, .int j => some (.bl (p i j))
  | _, _ => none
theorem ok_add : OpOk cA rAddX addD := fun t t' i H x y vx vy d _ hx hy e Q k => by
  cases x <;> cases y <;> first | (cases e; done) | skip
  · cases (show vx = _ from hx); cases (show vy = _ from hy)
    cases e
    exact .inl ⟨_, _, rfl, rfl, k _ H (Same.refl H) rfl⟩
  · cases (show vx = _ from hx); cases (show vy = _ from hy)
    rename_i a b
    dsimp only [addD] at e
    by_cases hz : a.length + b.length ≤ sizeLine
    · rw [if_pos hz] at e
      cases e
      exact .inr (.inl ⟨_, _, rfl, rfl, hz, k _ H (Same.refl H) rfl⟩)
    · rw [if_neg hz] at e; cases e
theorem ok_sub : OpOk cA (rI0 fun i j => .int (i - j)) subD := fun t t' i H x y vx vy d _ hx hy e Q k => by
  cases x <;> cases y <;> first | (cases e; done) | skip
  cases (show vx = _ from hx); cases (show vy = _ from hy)
  cases e
  exact ⟨_, _, rfl, rfl, k _ H (Same.refl H) rfl⟩
theorem ok_cmp {p : Int → Int → Bool} : OpOk cA (rI0 fun i j => .bl (p i j)) (cmpD p) := fun t t' i H x y vx vy d _ hx hy e Q k => by
  cases x <;> cases y <;> first | (cases e; done) | skip
  cases (show vx = _ from hx); cases (show vy = _ from hy)
  cases e
  exact ⟨_, _, rfl, rfl, k _ H (Same.refl H) rfl⟩
/-! ### in -/
def inD (neg : Bool) : D → D → Option D
  | .str [c], .str b => some (.bl (neg != decide (c ∈ b)))
  | x, .lst ys => if scalar x && ys.all scalar then some (.bl (if neg then !(inV (val x) (ys.map val)) else inV (val x) (ys.map val))) else none
  | x, .tup ys => if scalar x && ys.all scalar then some (.bl (if neg then !(inV (val x) (ys.map val)) else inV (val x) (ys.map val))) else none
  | _, _ => none
/-! ### x[i] -/
def ixD : D → D → Option D
  | .lst xs, .int i => atI xs i
  | .tup xs, .int i => atI xs i
  | .str cs, .int i => if cs.length ≤ sizeLine then (atI cs i).map fun c => .str [c] else none
  | _, _ => none
theorem atI_rep {av : Addr → Prop} {H : Hp} {xs : List D} {vs : List V} {i : Int} {d : D} (l : RepL cA av H xs vs) (h : atI xs i = some d) : ∃ v, atI vs i = some v ∧ Rep cA av H d v := by
  unfold atI at h ⊢
  rw [l.length] at h
  cases e : ixN vs.length i with
  | none => rw [e] at h; cases h
  | some j =>
    rw [e] at h
    exact l.get h
theorem ok_ix : OpOk cA (rIxX cA.K) ixD := fun t t' i H x y vx vy d _ hx hy e Q k => by
  cases y <;> first | (cases x <;> cases e; done) | skip
  rename_i j
  cases (show vy = _ from hy)
  cases x <;> first | (cases e; done) | skip
  · cases (show vx = _ from hx)
    rename_i cs
    dsimp only [ixD] at e
    by_cases hz : cs.length ≤ sizeLine
    · rw [if_pos hz] at e
      cases ea : atI cs j with
      | none => rw [ea] at e; cases e
      | some c =>
        rw [ea] at e
        cases e
        exact .inr (.inr ⟨cs, j, c, rfl, rfl, hz, ea, k _ H (Same.refl H) rfl⟩)
    · rw [if_neg hz] at e; cases e
  · obtain ⟨a, vs, rfl, _, rd, l⟩ := hx
    obtain ⟨v, h1, h2⟩ := atI_rep l e
    exact .inl ⟨a, vs, j, v, rfl, rfl, rd, h1, k v H (Same.refl H) h2⟩
  · obtain ⟨a, vs, rfl, _, rd, l⟩ := hx
    obtain ⟨v, h1, h2⟩ := atI_rep l e
    exact .inr (.inl ⟨a, vs, j, v, rfl, rfl, SqT.of rd, h1, k v H (Same.refl H) h2⟩)
end
end DL

namespace DL
open PySem PySem.Spec L2
section
variable {cA : Kn} {G : Cn} {ow : List Nat}
/-! ### tests -/
def bD : Option D → Option Bool
  | some (.bl b) => some b
  | _ => none
theorem bD_some {o : Option D} {b : Bool} (h : bD o = some b) : o = some (.bl b) := by
  cases o with
  | none => cases h
  | some d => cases d <;> first | (cases h; rfl) | cases h
def xB (ε : Env → Option D) (δ : Env) : Option Bool := bD (ε δ)
theorem vt_b {te : TE} {q : Ql} {ε : Env → Option D} (h : VE G ow te q ε) : VT G ow (tB te) (xB ε) := fun H0 av A σ H δ E b e Q k =>
  h H0 av A σ H δ E _ (bD_some e) _ fun v H' s r => ⟨b, by cases q <;> exact r, k H' s⟩
theorem vt_t {te : TE} {q : Ql} {ε : Env → Option D} (h : VE G ow te q ε) : VT G ow (tTest te) (xB ε) := fun H0 av A σ H δ E b e Q k =>
  h H0 av A σ H δ E _ (bD_some e) _ fun v H' s r => ⟨b, by cases q <;> exact r, k H' s⟩
def xNot (τ : Env → Option Bool) (δ : Env) : Option Bool := match τ δ with
  | some b => some (!b)
  | none => none
theorem vt_not {t : TT} {τ : Env → Option Bool} (h : VT G ow t τ) : VT G ow (tNot t) (xNot τ) := fun H0 av A σ H δ E b e Q k => by
  unfold xNot at e
  cases he : τ δ with
  | none => rw [he] at e; cases e
  | some c =>
    rw [he] at e
    cases e
    exact h H0 av A σ H δ E c he _ fun H' s => k H' s
def xAnd (τ υ : Env → Option Bool) (δ : Env) : Option Bool := match τ δ with
  | some true => υ δ
  | some false => some false
  | none => none
def xOr (τ υ : Env → Option Bool) (δ : Env) : Option Bool := match τ δ with
  | some true => some true
  | some false => υ δ
  | none => none
theorem vt_or {t u : TT} {τ υ : Env → Option Bool} (h : VT G ow t τ) (h' : VT G ow u υ) : VT G ow (tOr t u) (xOr τ υ) := fun H0 av A σ H δ E b e Q k => by
  unfold xOr at e
  cases he : τ δ with
  | none => rw [he] at e; cases e
  | some c =>
    rw [he] at e
    refine h H0 av A σ H δ E c he _ fun H' s => ?_
    cases c with
    | true => cases e; exact iteT (k H' s)
    | false => exact iteF (h' H0 av A σ H' δ (E.mono s) b e _ fun H2 s2 => k H2 (s.trans s2))
theorem vt_yes : VT G ow tYes (fun _ => some true) := fun H0 av A σ H δ E b e Q k => by
  cases e
  exact k H (Same.refl H)
/-! ### bools as values -/
theorem blq {av : Addr → Prop} {A : Nat → Option Addr} {H : Hp} {q : Ql} {b : Bool} : RepQ cA av A H q (.bl b) (.bl b) := by cases q <;> exact rfl
theorem qbl {av : Addr → Prop} {A : Nat → Option Addr} {H : Hp} {q : Ql} {b : Bool} {v : V} (h : RepQ cA av A H q (.bl b) v) : v = .bl b := by cases q <;> exact h
def eAnd (a b : Env → Option D) (δ : Env) : Option D := match a δ with
  | some (.bl true) => b δ
  | some (.bl false) => some (.bl false)
  | _ => none
def eOr (a b : Env → Option D) (δ : Env) : Option D := match a δ with
  | some (.bl true) => some (.bl true)
  | some (.bl false) => b δ
  | _ => none
def eNot (a : Env → Option D) (δ : Env) : Option D := match a δ with
  | some (.bl b) => some (.bl (!b))
  | _ => none
theorem ve_and {ta tb : TE} {qa qb : Ql} {a b : Env → Option D} (ha : VE G ow ta qa a) (hb : VE G ow tb qb b) : VE G ow (tAndV ta tb) qb (eAnd a b) := fun H0 av A σ H δ E d e Q k => by
  unfold eAnd at e
  cases he : a δ with
  | none => rw [he] at e; cases e
  | some x =>
    rw [he] at e
    cases x <;> first | (cases e; done) | skip
    rename_i c
    refine ha H0 av A σ H δ E _ he _ fun v H' s r => ⟨c, qbl r, ?_⟩
    cases c with
    | true => exact iteT (hb H0 av A σ H' δ (E.mono s) d e _ fun v2 H2 s2 r2 => k v2 H2 (s.trans s2) r2)
    | false => cases e; exact iteF (k _ H' s blq)
theorem ve_not {ta : TE} {qa : Ql} {a : Env → Option D} (ha : VE G ow ta qa a) : VE G ow (tNotV ta) .cl (eNot a) := fun H0 av A σ H δ E d e Q k => by
  unfold eNot at e
  cases he : a δ with
  | none => rw [he] at e; cases e
  | some x =>
    rw [he] at e
    cases x <;> first | (cases e; done) | skip
    cases e
    exact ha H0 av A σ H δ E _ he _ fun v H' s r => ⟨_, qbl r, k _ H' s blq⟩
def eIf (τ : Env → Option Bool) (a b : Env → Option D) (δ : Env) : Option D := match τ δ with
  | some true => a δ
  | some false => b δ
  | none => none
def isNon : D → Bool
  | .non => true
  | _ => false
def eIsN (a : Env → Option D) (δ : Env) : Option D := match a δ with
  | some d => some (.bl (isNon d))
  | none => none
def eNotN (a : Env → Option D) (δ : Env) : Option D := match a δ with
  | some d => some (.bl (!isNon d))
  | none => none
/-- a op b op' c -/
def eChain (f g : D → D → Option D) (a b c : Env → Option D) (δ : Env) : Option D := match eOp f a b δ with
  | some (.bl true) => eOp g b c δ
  | some (.bl false) => some (.bl false)
  | _ => none
def negD : D → Option D
  | .int i => some (.int (-i))
  | _ => none
def eUn (f : D → Option D) (a : Env → Option D) (δ : Env) : Option D := match a δ with
  | some x => f x
  | none => none
theorem ve_neg {ta : TE} {qa : Ql} {a : Env → Option D} (ha : VE G ow ta qa a) : VE G ow (tUn (rU fun i => .int (-i)) ta) .cl (eUn negD a) := fun H0 av A σ H δ E d e Q k => by
  unfold eUn at e
  cases he : a δ with
  | none => rw [he] at e; cases e
  | some x =>
    rw [he] at e
    cases x <;> first | (cases e; done) | skip
    cases e
    refine ha H0 av A σ H δ E _ he _ fun v H' s r => ?_
    have e1 := r.any
    exact ⟨_, e1, k _ H' s rfl⟩
/-! ### argument lists, displays -/
def eNil (_ : Env) : Option (List D) := some []
def eCons (a : Env → Option D) (r : Env → Option (List D)) (δ : Env) : Option (List D) := match a δ with
  | some x => match r δ with
    | some xs => some (x :: xs)
    | none => none
  | none => none
theorem va_nil {q : Ql} : VA G ow tNil q eNil := fun H0 av A σ H δ E ds e Q k => by
  cases e
  exact k [] H (Same.refl H) rfl
theorem va_cons {te : TE} {ta : TA} {q : Ql} {a : Env → Option D} {r : Env → Option (List D)} (ha : VE G ow te q a) (hr : VA G ow ta q r) : VA G ow (tCons te ta) q (eCons a r) := fun H0 av A σ H δ E ds e Q k => by
  unfold eCons at e
  cases he : a δ with
  | none => rw [he] at e; cases e
  | some x =>
    rw [he] at e
    cases hr' : r δ with
    | none => rw [hr'] at e; cases e
    | some xs =>
      rw [hr'] at e
      cases e
      exact ha H0 av A σ H δ E x he _ fun v H1 s1 r1 => hr H0 av A σ H1 δ (E.mono s1) xs hr' _ fun vs H2 s2 r2 => k _ H2 (s1.trans s2) ⟨v, vs, rfl, r1.same s2, r2⟩
theorem RepQL.length {av : Addr → Prop} {A : Nat → Option Addr} {H : Hp} {q : Ql} {xs : List D} {vs : List V} (h : RepQL cA av A H q xs vs) : xs.length = vs.length := h.any.length
def eLst (α : Env → Option (List D)) (δ : Env) : Option D := match α δ with
  | some xs => if xs.length ≤ sizeLine then some (.lst xs) else none
  | none => none
theorem vf_lst {t : TA} {α : Env → Option (List D)} (h : VA G ow t .cl α) : VF G ow (tLst t) (eLst α) := fun H0 av A σ H δ E d e Q k => by
  unfold eLst at e
  cases he : α δ with
  | none => rw [he] at e; cases e
  | some xs =>
    rw [he] at e
    by_cases hz : xs.length ≤ sizeLine
    · have e' : D.lst xs = d := by simpa [hz] using e
      exact h H0 av A σ H δ E xs he _ fun vs H1 s1 r1 => ⟨by rw [← r1.length]; exact hz, fun p hp => k p vs xs H1 s1 hp r1.cl e'.symm⟩
    · simp [hz] at e
def eTup (α : Env → Option (List D)) (δ : Env) : Option D := match α δ with
  | some xs => if xs.length ≤ sizeLine then some (.tup xs) else none
  | none => none
/-! ### calls of built-ins -/
def RepIL (cA : Kn) (i : Addr → Prop) (H : Hp) : List D → List V → Prop
  | [], vs => vs = []
  | x :: xs, vs => ∃ v r, vs = v :: r ∧ (∃ t, RepT cA t i H x v) ∧ RepIL cA i H xs r
theorem RepQL.il {av : Addr → Prop} {A : Nat → Option Addr} {H : Hp} {q : Ql} : ∀ {xs : List D} {vs : List V}, RepQL cA av A H q xs vs → RepIL cA (q.iv av A) H xs vs
  | [], _, h => h
  | x :: xs, vs, h => by
    obtain ⟨v, r, e, h1, h2⟩ := h
    exact ⟨v, r, e, ⟨_, h1.tp⟩, RepQL.il h2⟩
def CbOk (cA : Kn) (r : List V → Hp → VK → Prop) (f : List D → Option D) : Prop :=
  ∀ (i : Addr → Prop) (H : Hp) (ds : List D) (vs : List V) (d : D), (∀ a, i a → H a ≠ none) → RepIL cA i H ds vs → f ds = some d → ∀ Q : VK, (∀ v H', Same H H' → Rep cA i H' d v → Q v H') → r vs H Q
def eCB (f : List D → Option D) (α : Env → Option (List D)) (δ : Env) : Option D := match α δ with
  | some ds => f ds
  | none => none
theorem ve_cb {r : List V → Hp → VK → Prop} {f : List D → Option D} {t : TA} {q : Ql} {α : Env → Option (List D)} (hr : CbOk G.1 r f) (h : VA G ow t q α) : VE G ow (tCB r t) q.it (eCB f α) := fun H0 av A σ H δ E d e Q k => by
  unfold eCB at e
  cases he : α δ with
  | none => rw [he] at e; cases e
  | some ds =>
    rw [he] at e
    refine h H0 av A σ H δ E ds he _ fun vs H1 s1 r1 => ?_
    have E1 := E.mono s1
    cases q with
    | cl => exact hr _ H1 ds vs d E1.avl r1.il e _ fun v H' s r => k v H' (s1.trans s) r.t
    | tp => exact hr _ H1 ds vs d E1.avl r1.il e _ fun v H' s r => k v H' (s1.trans s) r.t
    | dt => exact hr _ H1 ds vs d E1.avH r1.il e _ fun v H' s r => k v H' (s1.trans s) r.t
theorem il1 {i : Addr → Prop} {H : Hp} {x : D} {vs : List V} (h : RepIL cA i H [x] vs) : ∃ v t, vs = [v] ∧ RepT cA t i H x v := by
  obtain ⟨v, r, rfl, ⟨t, h1⟩, h2⟩ := h
  cases (show r = [] from h2)
  exact ⟨v, t, rfl, h1⟩
theorem il2 {i : Addr → Prop} {H : Hp} {x y : D} {vs : List V} (h : RepIL cA i H [x, y] vs) : ∃ v u t t', vs = [v, u] ∧ RepT cA t i H x v ∧ RepT cA t' i H y u := by
  obtain ⟨v, r, rfl, ⟨t, h1⟩, u, r', rfl, ⟨t', h2⟩, h3⟩ := h
  cases (show r' = [] from h3)
  exact ⟨v, u, t, t', rfl, h1, h2⟩
def lenD : List D → Option D
  | [.str a] => if a.length ≤ sizeLine then some (.int a.length) else none
  | [.lst xs] => some (.int xs.length)
  | [.tup xs] => some (.int xs.length)
  | _ => none
theorem cb_len : CbOk cA (rLenX cA.K) lenD := fun i H ds vs d _ h e Q k => by
  cases ds with
  | nil => cases e
  | cons x r =>
    cases r with
    | cons _ _ => cases x <;> cases e
    | nil =>
      obtain ⟨v, t, rfl, hx⟩ := il1 h
      cases x <;> first | (cases e; done) | skip
      · rename_i a
        dsimp only [lenD] at e
        by_cases hz : a.length ≤ sizeLine
        · rw [if_pos hz] at e
          cases e
          exact .inl ⟨a, by rw [show v = S a from hx], hz, k _ H (Same.refl H) rfl⟩
        · rw [if_neg hz] at e; cases e
      · obtain ⟨a, ws, rfl, _, rd, l⟩ := hx
        cases e
        exact .inr ⟨a, ws, rfl, .inl rd, k _ H (Same.refl H) (by rw [l.length]; rfl)⟩
      · obtain ⟨a, ws, rfl, _, rd, l⟩ := hx
        cases e
        exact .inr ⟨a, ws, rfl, .inr (SqT.of rd), k _ H (Same.refl H) (by rw [l.length]; rfl)⟩
def minD : List D → Option D
  | [.int i, .int j] => some (.int (if j < i then j else i))
  | _ => none
def maxD : List D → Option D
  | [.int i, .int j] => some (.int (if j > i then j else i))
  | _ => none
theorem minD_of {ds : List D} {d : D} (e : minD ds = some d) : ∃ i j, ds = [.int i, .int j] ∧ d = .int (if j < i then j else i) := by
  unfold minD at e
  split at e
  · exact ⟨_, _, rfl, (Option.some.inj e).symm⟩
  · cases e
theorem cb_min : CbOk cA (fun xs H Q => ∃ i j, xs = [.int i, .int j] ∧ Q (.int (if j < i then j else i)) H) minD := fun i H ds vs d _ h e Q k => by
  obtain ⟨a, b, rfl, rfl⟩ := minD_of e
  obtain ⟨v, u, t, t', rfl, h1, h2⟩ := il2 h
  cases (show v = _ from h1); cases (show u = _ from h2)
  exact ⟨a, b, rfl, k _ H (Same.refl H) rfl⟩
/-- all, any of a list of bools -/
def bools : List D → Option (List Bool)
  | [] => some []
  | .bl b :: r => match bools r with
    | some bs => some (b :: bs)
    | none => none
  | _ => none
theorem bools_of : ∀ {xs : List D} {bs : List Bool}, bools xs = some bs → xs = bs.map D.bl
  | [], bs, h => by cases h; rfl
  | x :: xs, bs, h => by
    cases x <;> first | (cases h; done) | skip
    rename_i b
    unfold bools at h
    cases hr : bools xs with
    | none => rw [hr] at h; cases h
    | some cs =>
      rw [hr] at h
      cases h
      rw [List.map_cons, bools_of hr]
theorem bools_map (bs : List Bool) : bools (bs.map D.bl) = some bs := by
  induction bs with
  | nil => rfl
  | cons b bs ih => rw [List.map_cons, bools, ih]
def allD (f : List Bool → Bool) : List D → Option D
  | [.lst xs] => match bools xs with
    | some bs => some (.bl (f bs))
    | none => none
  | _ => none
theorem cb_all {f : List Bool → Bool} : CbOk cA (rAllX cA.K f) (allD f) := fun i H ds vs d _ h e Q k => by
  unfold allD at e
  split at e
  · rename_i xs
    cases hb : bools xs with
    | none => rw [hb] at e; cases e
    | some bs =>
      rw [hb] at e
      cases e
      obtain ⟨v, t, rfl, a, ws, rfl, _, rd, l⟩ := il1 h
      have ex := bools_of hb
      subst ex
      have ev := l.vals (by rw [List.all_map]; exact List.all_eq_true.mpr fun _ _ => rfl)
      rw [List.map_map] at ev
      subst ev
      exact ⟨a, bs, rfl, rd, k _ H (Same.refl H) rfl⟩
  · cases e
def intD : List D → Option D
  | [.str a] => if a.length ≤ 640 ∧ a ≠ [] ∧ a.all figB = true then some (.int (valL a : Nat)) else none
  | [.bl b] => some (.int (if b then 1 else 0))
  | _ => none
def strD : List D → Option D
  | [.int n] => if 0 ≤ n ∧ n < 10 ^ 10 then some (.str (figs n.toNat)) else none
  | _ => none
def tupleD : List D → Option D
  | [.lst xs] => some (.tup xs)
  | [.tup xs] => some (.tup xs)
  | _ => none
/-- list(x): a new list -/
def listD : List D → Option D
  | [.lst xs] => some (.lst xs)
  | [.tup xs] => some (.lst xs)
  | _ => none
/-- tuple(xs) of a list of the name's own -/
def tupleLD : List D → Option D
  | [.lst xs] => some (.tup xs)
  | _ => none
end
end DL

namespace DL
open PySem PySem.Spec L2
/-! ### statements -/
inductive Out where
  | nx (δ : Env)
  | rt (d : D)
  | bk (δ : Env)
  | ct (δ : Env)
def Wants (G : Cn) (owN owB owC : List Nat) (H0 : Hp) (av : Addr → Prop) (De : Ends) : Out → Prop
  | .nx δ' => ∀ A' σ' H', ER G owN H0 av A' σ' H' δ' → De.nx σ' H'
  | .rt d => ∀ v H', Same H0 H' → Rep G.1 av H' d v → De.rt v H'
  | .bk δ' => ∀ A' σ' H', ER G owB H0 av A' σ' H' δ' → De.bk σ' H'
  | .ct δ' => ∀ A' σ' H', ER G owC H0 av A' σ' H' δ' → De.ct σ' H'
def VS (G : Cn) (ow owN owB owC : List Nat) (ts : TS) (φ : Env → Option Out) : Prop :=
  ∀ H0 av A σ H δ, ER G ow H0 av A σ H δ → ∀ o, φ δ = some o → ∀ De : Ends, Wants G owN owB owC H0 av De o → ts De σ H
/-- assigning what is clean -/
def VG (G : Cn) (ow ow' : List Nat) (g : TG) (γ : D → Env → Option Env) : Prop :=
  ∀ H0 av A σ H δ, ER G ow H0 av A σ H δ → ∀ d v, Rep G.1 (AV av A) H d v → ∀ δ', γ d δ = some δ' → ∀ Q : L2.St → Hp → Prop, (∀ A' σ' H', Same H H' → ER G ow' H0 av A' σ' H' δ' → Q σ' H') → g v σ H Q
def sub (a b : List Nat) : Bool := a.all fun x => b.contains x
theorem sub_mem {a b : List Nat} (h : sub a b = true) : ∀ x ∈ a, x ∈ b := fun x hx => by
  have := List.all_eq_true.mp h x hx
  simpa using this
section
variable {cA : Kn} {G : Cn} {ow owN owB owC ow1 ow2 : List Nat} {H0 H H' : Hp} {av : Addr → Prop} {A : Nat → Option Addr} {σ : L2.St} {δ : Env}
/-! ### the names' values turn -/
theorem get_set {α : Type} {l : List (Option α)} {i j : Nat} {x y : α} (h : (l.set i (some x))[j]? = some (some y)) : (j = i ∧ y = x ∧ i < l.length) ∨ (j ≠ i ∧ l[j]? = some (some y)) := by
  by_cases e : j = i
  · subst e
    by_cases hl : j < l.length
    · rw [List.getElem?_set_self hl] at h
      exact .inl ⟨rfl, (Option.some.inj (Option.some.inj h)).symm, hl⟩
    · rw [List.getElem?_eq_none (by simpa using hl)] at h
      cases h
  · rw [List.getElem?_set_ne (Ne.symm e)] at h
    exact .inr ⟨e, h⟩
theorem ER.set {i : Nat} {d : D} {v : V} (E : ER G ow H0 av A σ H δ) (h : Rep G.1 (AV av A) H d v) (hw : ∀ j, j ∈ ow1 ↔ j ∈ ow ∧ j ≠ i) (hn : G.2 i = none) :
    ER G ow1 H0 av (fun j => if j = i then none else A j) (σ.set i (some v)) H (δ.set i (some d)) := by
  have less : ∀ b, AV av (fun j => if j = i then none else A j) b → AV av A b := fun b z => by
    rcases z with z | ⟨j, z⟩
    · exact .inl z
    · by_cases e : j = i
      · simp [e] at z
      · simp [e] at z; exact .inr ⟨j, z⟩
  refine ⟨E.same, E.avd, fun j a e => ?_, fun j k a e1 e2 => ?_, fun j a e => ?_, fun j e => ?_, fun j hj => ?_, by simp [E.len], fun j a e => (by
      have q : j ≠ i := fun z => by rw [z, hn] at e; cases e
      simp only [q, if_false]; exact E.pin j a e), (fun j v' e => by
      have q : j ≠ i := fun z => by rw [z, hn] at e; cases e
      rw [List.getElem?_set_ne (Ne.symm q)]; exact E.kept j v' e), fun j d' e => ?_⟩
  · by_cases q : j = i
    · simp [q] at e
    · simp [q] at e; exact E.fr j a e
  · by_cases q : j = i
    · simp [q] at e1
    · by_cases q2 : k = i
      · simp [q2] at e2
      · simp [q] at e1; simp [q2] at e2; exact E.inj j k a e1 e2
  · by_cases q : j = i
    · simp [q] at e
    · simp [q] at e; exact E.live j a e
  · by_cases q : j = i
    · simp [q] at e
    · simp [q] at e; exact (hw j).mpr ⟨E.dom j e, q⟩
  · obtain ⟨h1, h2⟩ := (hw j).mp hj
    simp [h2]
    exact E.dom' j h1
  · rcases get_set e with ⟨rfl, rfl, hl⟩ | ⟨q, e'⟩
    · refine ⟨v, ?_, fun _ => h.av fun b z => .inl (less b z), fun a z => by simp at z⟩
      rw [List.getElem?_set_self (by rw [E.len]; exact hl)]
    · obtain ⟨v', h1, h2, h3⟩ := E.var j d' e'
      refine ⟨v', by rw [List.getElem?_set_ne (Ne.symm q)]; exact h1, fun z => ?_, fun a z => ?_⟩
      · simp [q] at z
        exact (h2 z).av fun b z => .inl (less b z)
      · simp [q] at z
        obtain ⟨r1, r2⟩ := h3 a z
        refine ⟨r1, ?_⟩
        cases d' with
        | lst xs => obtain ⟨vs, q1, q2⟩ := r2; exact ⟨vs, q1, q2.av fun b z => .inl (less b z)⟩
        | obj c ks xs => obtain ⟨dx, vs, q1, q0, q2⟩ := r2; exact ⟨dx, vs, q1, q0, q2.av fun b z => .inl (less b z)⟩
        | _ => exact r2
theorem ER.own {i : Nat} {xs : List D} {vs : List V} {p : Addr} (E : ER G ow H0 av A σ H δ) (hp : H p = none) (l : RepL G.1 (AV av A) H xs vs) (hw : ∀ j, j ∈ ow1 ↔ j ∈ ow ∨ j = i) (hn : G.2 i = none) :
    ER G ow1 H0 av (fun j => if j = i then some p else A j) (σ.set i (some (.ref p))) (upd H p (.lst vs)) (δ.set i (some (.lst xs))) := by
  have hs : Same H (upd H p (.lst vs)) := same_upd hp
  have less : ∀ b, AV av (fun j => if j = i then some p else A j) b → AV av A b ∨ H b = none := fun b z => by
    rcases z with z | ⟨j, z⟩
    · exact .inl (.inl z)
    · by_cases e : j = i
      · simp [e] at z; subst z; exact .inr hp
      · simp [e] at z; exact .inl (.inr ⟨j, z⟩)
  have np : ∀ j a, A j = some a → a ≠ p := fun j a e z => by subst z; exact E.live j a e hp
  have h0 : H0 p = none := by
    cases q : H0 p with
    | none => rfl
    | some o => rw [E.same p o q] at hp; cases hp
  refine ⟨E.same.trans hs, E.avd, fun j a e => ?_, fun j k a e1 e2 => ?_, fun j a e => ?_, fun j e => ?_, fun j hj => ?_, by simp [E.len], fun j a e => (by
      have q : j ≠ i := fun z => by rw [z, hn] at e; cases e
      simp only [q, if_false]; exact E.pin j a e), (fun j v' e => by
      have q : j ≠ i := fun z => by rw [z, hn] at e; cases e
      rw [List.getElem?_set_ne (Ne.symm q)]; exact E.kept j v' e), fun j d' e => ?_⟩
  · by_cases q : j = i
    · simp [q] at e; subst e; exact h0
    · simp [q] at e; exact E.fr j a e
  · by_cases q : j = i
    · by_cases q2 : k = i
      · rw [q, q2]
      · simp [q] at e1; simp [q2] at e2
        exact absurd e1.symm (np k a e2)
    · by_cases q2 : k = i
      · simp [q] at e1; simp [q2] at e2
        exact absurd e2.symm (np j a e1)
      · simp [q] at e1; simp [q2] at e2; exact E.inj j k a e1 e2
  · by_cases q : j = i
    · simp [q] at e; subst e; rw [upd_same]; exact fun z => by cases z
    · simp [q] at e
      rw [upd_ne (np j a e)]
      exact E.live j a e
  · by_cases q : j = i
    · exact (hw j).mpr (.inr q)
    · simp [q] at e; exact (hw j).mpr (.inl (E.dom j e))
  · by_cases q : j = i
    · simp [q]
    · simp [q]
      exact E.dom' j (((hw j).mp hj).resolve_right q)
  · rcases get_set e with ⟨rfl, rfl, hl⟩ | ⟨q, e'⟩
    · refine ⟨.ref p, ?_, fun z => by simp at z, fun a z => ?_⟩
      · rw [List.getElem?_set_self (by rw [E.len]; exact hl)]
      · simp at z
        subst z
        exact ⟨rfl, vs, upd_same, (l.av less).same hs⟩
    · obtain ⟨v', h1, h2, h3⟩ := E.var j d' e'
      refine ⟨v', by rw [List.getElem?_set_ne (Ne.symm q)]; exact h1, fun z => ?_, fun a z => ?_⟩
      · simp [q] at z
        exact ((h2 z).av less).same hs
      · simp [q] at z
        obtain ⟨r1, r2⟩ := h3 a z
        refine ⟨r1, ?_⟩
        cases d' with
        | lst xs => obtain ⟨vs', q1, q2⟩ := r2; exact ⟨vs', hs _ _ q1, (q2.av less).same hs⟩
        | obj c ks xs => obtain ⟨dx, vs', q1, q0, q2⟩ := r2; exact ⟨dx, vs', hs _ _ q1, q0, (q2.av less).same hs⟩
        | _ => exact r2
/-- the object of a name's own turns -/
theorem ER.put {i : Nat} {a : Addr} {d d' : D} (E : ER G ow H0 av A σ H δ) (hi : A i = some a) (hd : δ[i]? = some (some d)) (hk : ∀ b o, b ≠ a → H b = some o → H' b = some o) (hl : H' a ≠ none) (ho : Own G.1 (AV av A) H' d' a) :
    ER G ow H0 av A σ H' (δ.set i (some d')) := by
  have kk : ∀ b o, ¬ AV av A b → H b = some o → H' b = some o := fun b o n e => hk b o (fun z => n (.inr ⟨i, by rw [z]; exact hi⟩)) e
  refine ⟨fun b o e => hk b o (fun z => ?_) (E.same b o e), E.avd, E.fr, E.inj, fun j b e => ?_, E.dom, E.dom', by simp [E.len], E.pin, E.kept, fun j d'' e => ?_⟩
  · rw [z, E.fr i a hi] at e; cases e
  · by_cases q : b = a
    · subst q; exact hl
    · have := E.live j b e
      cases e' : H b with
      | none => exact absurd e' this
      | some o => rw [hk b o q e']; exact fun z => by cases z
  · rcases get_set e with ⟨rfl, rfl, hl'⟩ | ⟨q, e'⟩
    · obtain ⟨v, h1, _, h3⟩ := E.var j d hd
      obtain ⟨r1, _⟩ := h3 a hi
      exact ⟨v, h1, fun z => (by rw [hi] at z; cases z), fun b z => by
        rw [hi] at z; cases z
        exact ⟨r1, ho⟩⟩
    · obtain ⟨v', h1, h2, h3⟩ := E.var j d'' e'
      refine ⟨v', h1, fun z => (h2 z).ext kk, fun b z => ?_⟩
      obtain ⟨r1, r2⟩ := h3 b z
      have nb : b ≠ a := fun w => q (E.inj j i a (by rw [← w]; exact z) hi)
      refine ⟨r1, ?_⟩
      cases d'' with
      | lst xs => obtain ⟨vs, q1, q2⟩ := r2; exact ⟨vs, hk _ _ nb q1, q2.ext kk⟩
      | obj c ks xs => obtain ⟨dx, vs, q1, q0, q2⟩ := r2; exact ⟨dx, vs, hk _ _ nb q1, q0, q2.ext kk⟩
      | _ => exact r2
/-- what was a name's own is so no longer -/
theorem ER.freeze (i : Nat) (E : ER G ow H0 av A σ H δ) (hw : ∀ j, j ∈ ow1 ↔ j ∈ ow ∧ j ≠ i) (hn : G.2 i = none) : ER G ow1 H0 av (fun j => if j = i then none else A j) σ H δ := by
  have less : ∀ b, AV av (fun j => if j = i then none else A j) b → AV av A b := fun b z => by
    rcases z with z | ⟨j, z⟩
    · exact .inl z
    · by_cases e : j = i
      · simp [e] at z
      · simp [e] at z; exact .inr ⟨j, z⟩
  refine ⟨E.same, E.avd, fun j a e => ?_, fun j k a e1 e2 => ?_, fun j a e => ?_, fun j e => ?_, fun j hj => ?_, E.len, fun j a e => (by
      have q : j ≠ i := fun z => by rw [z, hn] at e; cases e
      simp only [q, if_false]; exact E.pin j a e), E.kept, fun j d' e => ?_⟩
  · by_cases q : j = i
    · simp [q] at e
    · simp [q] at e; exact E.fr j a e
  · by_cases q : j = i
    · simp [q] at e1
    · by_cases q2 : k = i
      · simp [q2] at e2
      · simp [q] at e1; simp [q2] at e2; exact E.inj j k a e1 e2
  · by_cases q : j = i
    · simp [q] at e
    · simp [q] at e; exact E.live j a e
  · by_cases q : j = i
    · simp [q] at e
    · simp [q] at e; exact (hw j).mpr ⟨E.dom j e, q⟩
  · obtain ⟨h1, h2⟩ := (hw j).mp hj
    simp [h2]
    exact E.dom' j h1
  · obtain ⟨v', h1, h2, h3⟩ := E.var j d' e
    refine ⟨v', h1, fun z => ?_, fun a z => ?_⟩
    · by_cases q : j = i
      · subst q
        cases hA : A j with
        | none => exact (h2 hA).av fun b z => .inl (less b z)
        | some a =>
          obtain ⟨rfl, r2⟩ := h3 a hA
          have na : ¬ AV av (fun k => if k = j then none else A k) a := fun z => by
            rcases z with z | ⟨k, z⟩
            · exact E.avd a z (E.fr j a hA)
            · by_cases qk : k = j
              · simp [qk] at z
              · simp [qk] at z; exact qk (E.inj k j a z hA)
          cases d' with
          | lst xs => obtain ⟨vs, q1, q2⟩ := r2; unfold Rep; exact ⟨a, vs, rfl, fun z => (na z).elim, SqL.of q1, q2.av fun b z => .inl (less b z)⟩
          | obj c ks xs => obtain ⟨dx, vs, q1, q0, q2⟩ := r2; unfold Rep; exact ⟨a, dx, vs, rfl, na, q1, q0, q2.av fun b z => .inl (less b z)⟩
          | _ => exact False.elim r2
      · simp [q] at z
        exact (h2 z).av fun b z => .inl (less b z)
    · by_cases q : j = i
      · simp [q] at z
      · simp [q] at z
        obtain ⟨r1, r2⟩ := h3 a z
        refine ⟨r1, ?_⟩
        cases d' with
        | lst xs => obtain ⟨vs, q1, q2⟩ := r2; exact ⟨vs, q1, q2.av fun b z => .inl (less b z)⟩
        | obj c ks xs => obtain ⟨dx, vs, q1, q0, q2⟩ := r2; exact ⟨dx, vs, q1, q0, q2.av fun b z => .inl (less b z)⟩
        | _ => exact r2
/-! the heap without what is owned -/
open Classical in
noncomputable def cut (A : Nat → Option Addr) (H : Hp) : Hp := fun b => if ∃ i, A i = some b then none else H b
theorem cut_some {b : Addr} {o : HO} (h : cut A H b = some o) : H b = some o ∧ ¬ ∃ i, A i = some b := by
  unfold cut at h
  by_cases e : ∃ i, A i = some b
  · rw [if_pos e] at h; cases h
  · rw [if_neg e] at h; exact ⟨h, e⟩
theorem cut_of {b : Addr} (e : ¬ ∃ i, A i = some b) : cut A H b = H b := by
  unfold cut
  rw [if_neg e]
theorem ER.cut (E : ER G ow H0 av A σ H δ) : ER G ow (DL.cut A H) av A σ H δ := by
  refine ⟨fun b o e => (cut_some e).1, fun a z => ?_, fun i a e => ?_, E.inj, E.live, E.dom, E.dom', E.len, E.pin, E.kept, E.var⟩
  · rw [cut_of fun ⟨i, e⟩ => E.avd a z (E.fr i a e)]
    exact E.avH a z
  · unfold DL.cut
    rw [if_pos ⟨i, e⟩]
theorem ER.sub0 (E : ER G ow H0 av A σ H δ) : Same H0 (DL.cut A H) := fun b o e => by
  rw [cut_of fun ⟨i, z⟩ => by rw [E.fr i b z] at e; cases e]
  exact E.same b o e
theorem ER.uncut {A' : Nat → Option Addr} {σ' : L2.St} {δ' : Env} (E : ER G ow H0 av A σ H δ) (E' : ER G ow1 (DL.cut A H) av A' σ' H' δ') : ER G ow1 H0 av A' σ' H' δ' :=
  ⟨E.sub0.trans E'.same, E.avd, fun i a e => E.sub0.free (E'.fr i a e), E'.inj, E'.live, E'.dom, E'.dom', E'.len, E'.pin, E'.kept, E'.var⟩
/-! ### rules -/
def sNext (δ : Env) : Option Out := some (.nx δ)
theorem vs_next : VS G ow ow owB owC tNext sNext := fun H0 av A σ H δ E o e De k => by
  cases e
  exact k A σ H E
def sSeq (φ ψ : Env → Option Out) (δ : Env) : Option Out := match φ δ with
  | some (.nx δ') => ψ δ'
  | r => r
theorem vs_seq {t u : TS} {φ ψ : Env → Option Out} (h1 : VS G ow ow1 owB owC t φ) (h2 : VS G ow1 owN owB owC u ψ) : VS G ow owN owB owC (tSeq t u) (sSeq φ ψ) := fun H0 av A σ H δ E o e De k => by
  unfold sSeq at e
  cases he : φ δ with
  | none => rw [he] at e; cases e
  | some o1 =>
    rw [he] at e
    refine h1 H0 av A σ H δ E o1 he _ ?_
    cases o1 with
    | nx δ' => exact fun A' σ' H' E' => h2 H0 av A' σ' H' δ' E' o e De k
    | rt d => cases e; exact k
    | bk δ' => cases e; exact k
    | ct δ' => cases e; exact k
def sIf (τ : Env → Option Bool) (φ ψ : Env → Option Out) (δ : Env) : Option Out := match τ δ with
  | some true => φ δ
  | some false => ψ δ
  | none => none
theorem vs_if {c : TT} {t u : TS} {τ : Env → Option Bool} {φ ψ : Env → Option Out} (hc : VT G ow c τ) (h1 : VS G ow owN owB owC t φ) (h2 : VS G ow owN owB owC u ψ) : VS G ow owN owB owC (tIfS c t u) (sIf τ φ ψ) := fun H0 av A σ H δ E o e De k => by
  unfold sIf at e
  cases he : τ δ with
  | none => rw [he] at e; cases e
  | some b =>
    rw [he] at e
    refine hc H0 av A σ H δ E b he _ fun H' s => ?_
    cases b with
    | true => exact iteT (h1 H0 av A σ H' δ (E.mono s) o e De k)
    | false => exact iteF (h2 H0 av A σ H' δ (E.mono s) o e De k)
def sRet (ε : Env → Option D) (δ : Env) : Option Out := match ε δ with
  | some d => some (.rt d)
  | none => none
theorem vs_ret {te : TE} {q : Ql} {ε : Env → Option D} (h : VE G ow te q ε) : VS G ow owN owB owC (tRet te) (sRet ε) := fun H0 av A σ H δ E o e De k => by
  unfold sRet at e
  cases he : ε δ with
  | none => rw [he] at e; cases e
  | some d =>
    rw [he] at e
    cases e
    exact h H0 av A σ H δ E d he _ fun v H' s r => k v H' (E.same.trans s) r.any
def sRetN (_ : Env) : Option Out := some (.rt .non)
def sNever (_ : Env) : Option Out := none
def sBreak (δ : Env) : Option Out := some (.bk δ)
def sCont (δ : Env) : Option Out := some (.ct δ)
def sAsg (i : Nat) (ε : Env → Option D) (δ : Env) : Option Out := match ε δ with
  | some d => some (.nx (δ.set i (some d)))
  | none => none
theorem mem_minus {i : Nat} (h1 : sub ow1 ow = true) (h2 : ow1.contains i = false) (h3 : sub ow (i :: ow1) = true) : ∀ j, j ∈ ow1 ↔ j ∈ ow ∧ j ≠ i := fun j => by
  constructor
  · intro h
    refine ⟨sub_mem h1 j h, fun e => ?_⟩
    subst e
    have : j ∉ ow1 := by simpa using h2
    exact this h
  · rintro ⟨h, n⟩
    rcases List.mem_cons.mp (sub_mem h3 j h) with e | e
    · exact absurd e n
    · exact e
theorem mem_plus {i : Nat} (h1 : sub ow1 (i :: ow) = true) (h2 : ow1.contains i = true) (h3 : sub ow ow1 = true) : ∀ j, j ∈ ow1 ↔ j ∈ ow ∨ j = i := fun j => by
  constructor
  · intro h
    rcases List.mem_cons.mp (sub_mem h1 j h) with e | e
    · exact .inr e
    · exact .inl e
  · rintro (h | rfl)
    · exact sub_mem h3 j h
    · simpa using h2
theorem vs_asg {te : TE} {ε : Env → Option D} (i : Nat) (h : VE G ow te .cl ε) (hn : G.2 i = none) (h1 : sub owN ow = true) (h2 : owN.contains i = false) (h3 : sub ow (i :: owN) = true) : VS G ow owN owB owC (tAsg te (gName i)) (sAsg i ε) := fun H0 av A σ H δ E o e De k => by
  unfold sAsg at e
  cases he : ε δ with
  | none => rw [he] at e; cases e
  | some d =>
    rw [he] at e
    cases e
    exact h H0 av A σ H δ E d he _ fun v H' s r => k _ _ H' ((E.mono s).set (RepT.r r) (mem_minus h1 h2 h3) hn)
theorem vs_asgO {te : TE} {ε : Env → Option D} (i : Nat) (h : VF G ow te ε) (hn : G.2 i = none) (h1 : sub owN (i :: ow) = true) (h2 : owN.contains i = true) (h3 : sub ow owN = true) : VS G ow owN owB owC (tAsg te (gName i)) (sAsg i ε) := fun H0 av A σ H δ E o e De k => by
  unfold sAsg at e
  cases he : ε δ with
  | none => rw [he] at e; cases e
  | some d =>
    rw [he] at e
    cases e
    refine h H0 av A σ H δ E d he _ fun p vs xs H1 s hp l hd => ?_
    subst hd
    exact k _ _ _ ((E.mono s).own hp l (mem_plus h1 h2 h3) hn)
def sExpr (ε : Env → Option D) (δ : Env) : Option Out := match ε δ with
  | some _ => some (.nx δ)
  | none => none
/-- xs.append(e) -/
def sApp (i : Nat) (ε : Env → Option D) (δ : Env) : Option Out := match eVar i δ with
  | some (.lst xs) => match ε δ with
    | some d => if xs.length < sizeLine then some (.nx (δ.set i (some (.lst (xs ++ [d]))))) else none
    | none => none
  | _ => none
theorem vs_app {K : PySem.W.Frag} {te : TE} {ε : Env → Option D} (i : Nat) (hi : ow.contains i = true) (h : VE G ow te .cl ε) : VS G ow ow owB owC (tDrop (tBM K "list" rAppend (tVar i) (tCons te tNil))) (sApp i ε) := fun H0 av A σ H δ E o e De k => by
  unfold sApp at e
  cases hv : eVar i δ with
  | none => rw [hv] at e; cases e
  | some x =>
    rw [hv] at e
    cases x <;> first | (cases e; done) | skip
    rename_i xs
    dsimp only at e
    cases he : ε δ with
    | none => rw [he] at e; cases e
    | some d =>
      rw [he] at e
      dsimp only at e
      by_cases hz : xs.length < sizeLine
      · rw [if_pos hz] at e
        cases e
        have hi' : i ∈ ow := by simpa using hi
        cases hA : A i with
        | none => exact absurd hA (E.dom' i hi')
        | some a =>
          obtain ⟨v, h1, _, h3⟩ := E.var i _ (eVar_some hv)
          obtain ⟨rfl, vs, q1, q2⟩ := h3 a hA
          refine ⟨_, h1, .inl ⟨rfl, vs, SqL.of q1⟩, h H0 av A σ H δ E d he _ fun v H' s r => ?_⟩
          have E' := E.mono s
          have q1' := s _ _ q1
          refine ⟨a, vs, v, rfl, rfl, q1', by rw [← q2.length]; exact hz, k A σ _ (E'.put hA (eVar_some hv) (fun b o hb e => by rw [upd_ne hb]; exact e) (by rw [upd_same]; exact fun z => by cases z) ⟨_, upd_same, ?_⟩)⟩
          have ex : ∀ b o, ¬ AV av A b → H' b = some o → upd H' a (.lst (vs ++ [v])) b = some o := fun b o n e => by
            rw [upd_ne fun z => n (.inr ⟨i, by rw [z]; exact hA⟩)]
            exact e
          exact ((q2.same s).append (.cons (RepT.r r) .nil)).ext ex
      · rw [if_neg hz] at e; cases e
/-- a name's own is so no longer, ahead of a block; behind it -/
theorem VS.frz {t : TS} {φ : Env → Option Out} (i : Nat) (h : VS G ow1 owN owB owC t φ) (hn : G.2 i = none) (h1 : sub ow1 ow = true) (h2 : ow1.contains i = false) (h3 : sub ow (i :: ow1) = true) : VS G ow owN owB owC t φ := fun H0 av A σ H δ E o e De k =>
  h H0 av _ σ H δ (E.freeze i (mem_minus h1 h2 h3) hn) o e De k
/-! ### targets -/
def gSet (i : Nat) (d : D) (δ : Env) : Option Env := some (δ.set i (some d))
theorem vg_name (i : Nat) (hi : ow.contains i = false) (hn : G.2 i = none) : VG G ow ow (gName i) (gSet i) := fun H0 av A σ H δ E d v r δ' e Q k => by
  cases e
  exact k _ _ H (Same.refl H) (E.set r (fun j => by
    have : i ∉ ow := by simpa using hi
    exact ⟨fun h => ⟨h, fun z => this (z ▸ h)⟩, fun h => h.1⟩) hn)
def VGs (G : Cn) (ow ow' : List Nat) (g : TGs) (γ : List D → Env → Option Env) : Prop :=
  ∀ H0 av A σ H δ, ER G ow H0 av A σ H δ → ∀ ds vs, RepL G.1 (AV av A) H ds vs → ∀ δ', γ ds δ = some δ' → ∀ Q : L2.St → Hp → Prop, (∀ A' σ' H', Same H H' → (∀ b, AV av A' b → AV av A b) → ER G ow' H0 av A' σ' H' δ' → Q σ' H') → g vs σ H Q
def gsNil (ds : List D) (δ : Env) : Option Env := match ds with
  | [] => some δ
  | _ => none
theorem vgs_nil : VGs G ow ow gNil gsNil := fun H0 av A σ H δ E ds vs r δ' e Q k => by
  cases ds with
  | nil => cases e; exact ⟨r.nil_of, k A σ H (Same.refl H) (fun _ z => z) E⟩
  | cons _ _ => cases e
def gsCons (i : Nat) (γs : List D → Env → Option Env) (ds : List D) (δ : Env) : Option Env := match ds with
  | d :: r => γs r (δ.set i (some d))
  | [] => none
theorem vgs_cons {gs : TGs} {γs : List D → Env → Option Env} (i : Nat) (hi : ow.contains i = false) (hn : G.2 i = none) (h : VGs G ow ow gs γs) : VGs G ow ow (gCons (gName i) gs) (gsCons i γs) := fun H0 av A σ H δ E ds vs r δ' e Q k => by
  cases ds with
  | nil => cases e
  | cons d ds =>
    obtain ⟨v, vr, rfl, r1, r2⟩ := r.uncons
    refine ⟨v, vr, rfl, ?_⟩
    have less : ∀ b, AV av (fun j => if j = i then none else A j) b → AV av A b := fun b z => by
      rcases z with z | ⟨j, z⟩
      · exact .inl z
      · by_cases e : j = i
        · simp [e] at z
        · simp [e] at z; exact .inr ⟨j, z⟩
    have E1 : ER G ow H0 av (fun j => if j = i then none else A j) (σ.set i (some v)) H (δ.set i (some d)) := E.set r1 (fun j => by
      have : i ∉ ow := by simpa using hi
      exact ⟨fun h => ⟨h, fun z => this (z ▸ h)⟩, fun h => h.1⟩) hn
    exact h H0 av _ _ H _ E1 ds vr (r2.av fun b z => .inl (less b z)) δ' e Q fun A' σ' H' s l E' => k A' σ' H' s (fun b z => less b (l b z)) E'
def gTupD (n : Nat) (γs : List D → Env → Option Env) (d : D) (δ : Env) : Option Env := match d with
  | .tup ds => if ds.length = n then γs ds δ else none
  | _ => none
theorem vg_tup {K : PySem.W.Frag} {n : Nat} {gs : TGs} {γs : List D → Env → Option Env} (h : VGs G ow ow gs γs) : VG G ow ow (gTup K n gs) (gTupD n γs) := fun H0 av A σ H δ E d v r δ' e Q k => by
  cases d <;> first | (cases e; done) | skip
  rename_i ds
  dsimp only [gTupD] at e
  by_cases hz : ds.length = n
  · rw [if_pos hz] at e
    unfold Rep at r
    obtain ⟨a, vs, rfl, _, rd, l⟩ := r
    exact ⟨a, vs, rfl, SqT.of rd, by rw [← l.length]; exact hz, h H0 av A σ H δ E ds vs l δ' e Q fun A' σ' H' s _ E' => k A' σ' H' s E'⟩
  · rw [if_neg hz] at e; cases e
/-! ### what is walked -/
def WalkD (cA : Kn) (iv : Addr → Prop) (J : It) (xs : List D) (H0 : Hp) : Prop := ∀ H, Same H0 H →
  (∀ i, i < xs.length → J.go i H) ∧
  (∀ (i : Nat) x v H', xs[i]? = some x → J.yld i H v H' → Same H H' ∧ ∀ av' : Addr → Prop, (∀ b, av' b → H b ≠ none) → (∀ b, av' b → iv b ∨ H0 b = none) → Rep cA av' H' x v) ∧
  (∀ i, xs.length ≤ i → J.stop i H)
def VI (G : Cn) (ow : List Nat) (wi : TI) (ι : Env → Option (List D)) : Prop :=
  ∀ H0 av A σ H δ, ER G ow H0 av A σ H δ → ∀ xs, ι δ = some xs → ∀ R : It → Hp → Prop, (∀ J H1, Same H H1 → WalkD G.1 (AV av A) J xs (DL.cut A H1) → R J H1) → wi σ H R
def forD (γ : D → Env → Option Env) (φ : Env → Option Out) : List D → Env → Option Out
  | [], δ => some (.nx δ)
  | x :: r, δ => match γ x δ with
    | none => none
    | some δ1 => match φ δ1 with
      | none => none
      | some (.nx δ2) => forD γ φ r δ2
      | some (.ct δ2) => forD γ φ r δ2
      | some (.bk δ2) => some (.nx δ2)
      | some (.rt d) => some (.rt d)
def sFor (ι : Env → Option (List D)) (γ : D → Env → Option Env) (φ : Env → Option Out) (δ : Env) : Option Out := match ι δ with
  | some xs => forD γ φ xs δ
  | none => none
theorem vs_for {wi : TI} {g : TG} {tb : TS} {ι : Env → Option (List D)} {γ : D → Env → Option Env} {φ : Env → Option Out} (hi : VI G ow wi ι) (hg : VG G ow ow g γ) (hb : VS G ow ow ow ow tb φ) : VS G ow ow owB owC (tFor wi g tb) (sFor ι γ φ) := fun H0 av A σ H δ E o e De k => by
  unfold sFor at e
  cases he : ι δ with
  | none => rw [he] at e; cases e
  | some xs =>
    rw [he] at e
    have e : forD γ φ xs δ = some o := e
    refine hi H0 av A σ H δ E xs he _ fun J H1 s1 W => ?_
    have E1 := E.mono s1
    refine ⟨fun i m σ' H' => m = xs.length - i ∧ i ≤ xs.length ∧ ∃ A' δ', ER G ow (DL.cut A H1) av A' σ' H' δ' ∧ forD γ φ (xs.drop i) δ' = some o, ⟨xs.length, by simp, Nat.zero_le _, A, δ, E1.cut, e⟩, ?_⟩
    rintro i m σ' H' ⟨rfl, hle, A', δ', E', e'⟩
    obtain ⟨w1, w2, w3⟩ := W H' E'.same
    by_cases hlt : i < xs.length
    · refine .inr ⟨w1 i hlt, fun σ2 H2 => ∃ A2 δ2, ER G ow (DL.cut A H1) av A2 σ2 H2 δ2 ∧ forD γ φ (xs.drop (i + 1)) δ2 = some o, fun σ2 H2 ⟨A2, δ2, E2, e2⟩ => ⟨xs.length - (i + 1), by omega, rfl, hlt, A2, δ2, E2, e2⟩, fun v H2 y => ?_⟩
      have hx : xs[i]? = some xs[i] := List.getElem?_eq_getElem hlt
      obtain ⟨s2, rep⟩ := w2 i _ v H2 hx y
      have E2 := E'.mono s2
      have rep' : Rep G.1 (AV av A') H2 xs[i] v := rep _ E'.avl fun b z => by
        rcases z with z | ⟨j, z⟩
        · exact .inl (.inl z)
        · exact .inr (E'.fr j b z)
      rw [List.drop_eq_getElem_cons hlt] at e'
      unfold forD at e'
      cases hγ : γ xs[i] δ' with
      | none => rw [hγ] at e'; cases e'
      | some δ1 =>
        rw [hγ] at e'
        dsimp only at e'
        refine hg _ av A' σ' H2 δ' E2 _ v rep' δ1 hγ _ fun A3 σ3 H3 s3 E3 => ?_
        cases hφ : φ δ1 with
        | none => rw [hφ] at e'; cases e'
        | some o1 =>
          rw [hφ] at e'
          refine hb _ av A3 σ3 H3 δ1 E3 o1 hφ _ ?_
          cases o1 with
          | nx δ2 => exact fun A4 σ4 H4 E4 => ⟨A4, δ2, E4, e'⟩
          | ct δ2 => exact fun A4 σ4 H4 E4 => ⟨A4, δ2, E4, e'⟩
          | bk δ2 => cases e'; exact fun A4 σ4 H4 E4 => k A4 σ4 H4 (E1.uncut E4)
          | rt d => cases e'; exact fun v H4 s4 r4 => k v H4 (E1.sub0.trans s4) r4
    · have ei : i = xs.length := by omega
      subst ei
      rw [List.drop_length] at e'
      cases e'
      exact .inl ⟨w3 _ (Nat.le_refl _), k A' σ' H' (E1.uncut E')⟩
/-! ### while -/
def whileD (τ : Env → Option Bool) (φ : Env → Option Out) : Nat → Env → Option Out
  | 0, _ => none
  | n + 1, δ => match τ δ with
    | none => none
    | some false => some (.nx δ)
    | some true => match φ δ with
      | none => none
      | some (.nx δ2) => whileD τ φ n δ2
      | some (.ct δ2) => whileD τ φ n δ2
      | some (.bk δ2) => some (.nx δ2)
      | some (.rt d) => some (.rt d)
theorem while_more {τ : Env → Option Bool} {φ : Env → Option Out} : ∀ (n k : Nat) (δ : Env) (o : Out), whileD τ φ n δ = some o → whileD τ φ (n + k) δ = some o
  | 0, _, _, _, h => by cases h
  | n + 1, k, δ, o, h => by
    rw [Nat.add_right_comm]
    unfold whileD at h ⊢
    cases ht : τ δ with
    | none => rw [ht] at h; cases h
    | some b =>
      rw [ht] at h
      cases b with
      | false => exact h
      | true =>
        dsimp only at h ⊢
        cases hp : φ δ with
        | none => rw [hp] at h; cases h
        | some o1 =>
          rw [hp] at h
          cases o1 with
          | nx δ2 => exact while_more n k δ2 o h
          | ct δ2 => exact while_more n k δ2 o h
          | bk δ2 => exact h
          | rt d => exact h
open Classical in
noncomputable def sWhile (τ : Env → Option Bool) (φ : Env → Option Out) (δ : Env) : Option Out := if h : ∃ n o, whileD τ φ n δ = some o then whileD τ φ (Classical.choose h) δ else none
theorem sWhile_of {τ : Env → Option Bool} {φ : Env → Option Out} {δ : Env} {n : Nat} {o : Out} (h : whileD τ φ n δ = some o) : sWhile τ φ δ = some o := by
  have hx : ∃ n o, whileD τ φ n δ = some o := ⟨n, o, h⟩
  unfold sWhile
  rw [dif_pos hx]
  obtain ⟨o', ho'⟩ := Classical.choose_spec hx
  have h1 := while_more _ n δ o' ho'
  have h2 := while_more _ (Classical.choose hx) δ o h
  rw [Nat.add_comm, h2] at h1
  rw [ho', h1]
theorem sWhile_some {τ : Env → Option Bool} {φ : Env → Option Out} {δ : Env} {o : Out} (h : sWhile τ φ δ = some o) : ∃ n, whileD τ φ n δ = some o := by
  unfold sWhile at h
  split at h
  · exact ⟨_, h⟩
  · cases h
end
end DL

namespace DL
open PySem PySem.Spec L2
section
variable {cA : Kn} {G : Cn} {ow owN owB owC : List Nat}
/-! ### what a for walks -/
def iotaA (ε : Env → Option D) (δ : Env) : Option (List D) := match ε δ with
  | some (.lst xs) => some xs
  | some (.tup xs) => some xs
  | some (.str cs) => some (cs.map fun c => .str [c])
  | _ => none
theorem RepL.cut {av : Addr → Prop} {A : Nat → Option Addr} {H : Hp} {d : List D} {v : List V} (h : RepL cA (AV av A) H d v) : RepL cA (AV av A) (DL.cut A H) d v := h.ext fun b o n e => by
  rw [cut_of fun ⟨i, z⟩ => n (.inr ⟨i, z⟩)]
  exact e
theorem walkD_list {iv : Addr → Prop} {H0 : Hp} {a : Addr} {vs : List V} {xs : List D} (rd : SqL cA.K H0 a vs) (l : RepL cA iv H0 xs vs) : WalkD cA iv (Itl cA.K a) xs H0 := fun H s => by
  have rd' : SqL cA.K H a vs := s.seq rd
  refine ⟨fun i hi => ?_, fun i x v H' hx y => ?_, fun i hi => ⟨vs, rd', by rw [← l.length]; exact hi⟩⟩
  · obtain ⟨v, hv, _⟩ := l.get (List.getElem?_eq_getElem hi)
    exact ⟨vs, v, rd', hv⟩
  · obtain ⟨rfl, hy⟩ := y
    obtain ⟨v', hv, r⟩ := l.get hx
    rw [hy vs rd'] at hv
    cases hv
    exact ⟨Same.refl _, fun av' _ h2 => (r.av h2).same s⟩
theorem walkD_tup {K : PySem.W.Frag} {iv : Addr → Prop} {H0 : Hp} {a : Addr} {vs : List V} {xs : List D} (rd : H0 a = some (.tup vs)) (l : RepL cA iv H0 xs vs) : WalkD cA iv (Itt K a) xs H0 := fun H s => by
  have rd' : SqT K H a vs := SqT.of (s _ _ rd)
  refine ⟨fun i hi => ?_, fun i x v H' hx y => ?_, fun i hi => ⟨vs, rd', by rw [← l.length]; exact hi⟩⟩
  · obtain ⟨v, hv, _⟩ := l.get (List.getElem?_eq_getElem hi)
    exact ⟨vs, v, rd', hv⟩
  · obtain ⟨rfl, hy⟩ := y
    obtain ⟨v', hv, r⟩ := l.get hx
    rw [hy vs rd'] at hv
    cases hv
    exact ⟨Same.refl _, fun av' _ h2 => (r.av h2).same s⟩
theorem walkD_str {iv : Addr → Prop} {H0 : Hp} {cs : List Nat} : WalkD cA iv (Its cs) (cs.map fun c => .str [c]) H0 := fun H s => by
  refine ⟨fun i hi => (show i < cs.length by simpa using hi), fun i x v H' hx y => ?_, fun i hi => (show cs.length ≤ i by simpa using hi)⟩
  obtain ⟨rfl, c, hc, rfl⟩ := y
  rw [List.getElem?_map, hc] at hx
  cases hx
  exact ⟨Same.refl _, fun _ _ _ => rfl⟩
theorem vi_any {tl : TE} {ε : Env → Option D} (h : VE G ow tl .cl ε) : VI G ow (iAny G.1.K tl) (iotaA ε) := fun H0 av A σ H δ E xs e R k => by
  unfold iotaA at e
  cases he : ε δ with
  | none => rw [he] at e; cases e
  | some d =>
    rw [he] at e
    refine h H0 av A σ H δ E d he _ fun v H1 s r => ?_
    cases d <;> first | (cases e; done) | skip
    · cases e
      exact .inr (.inr ⟨_, r, k _ H1 s walkD_str⟩)
    · cases e
      obtain ⟨a, vs, rfl, na, rd, l⟩ := r
      exact .inl ⟨a, vs, rfl, rd, k _ H1 s (walkD_list (sq_ext na rd fun b o n e => by rw [cut_of fun ⟨i, z⟩ => n (.inr ⟨i, z⟩)]; exact e) l.cut)⟩
    · cases e
      obtain ⟨a, vs, rfl, na, rd, l⟩ := r
      exact .inr (.inl ⟨a, vs, rfl, SqT.of rd, k _ H1 s (walkD_tup (by rw [cut_of fun ⟨i, z⟩ => na (.inr ⟨i, z⟩)]; exact rd) l.cut)⟩)
/-- the rngI lo, lo + c, .. -/
def rngI (lo c : Int) (n : Nat) : List D := (List.range n).map fun k => .int (lo + (k : Nat) * c)
theorem walkD_rng {iv : Addr → Prop} {H0 : Hp} {lo : Int} {n : Nat} : WalkD cA iv (Itr lo n) (rngI lo 1 n) H0 := fun H s => by
  refine ⟨fun i hi => (show i < n by simpa [rngI] using hi), fun i x v H' hx y => ?_, fun i hi => (show n ≤ i by simpa [rngI] using hi)⟩
  obtain ⟨rfl, rfl⟩ := y
  have hi : i < n := by have := (List.getElem?_eq_some_iff.mp hx).1; simpa [rngI] using this
  have : x = .int (lo + i) := by
    unfold rngI at hx
    rw [List.getElem?_map, List.getElem?_range hi] at hx
    have := Option.some.inj hx
    rw [← this]
    show D.int (lo + (i : Int) * 1) = _
    rw [Int.mul_one]
  subst this
  exact ⟨Same.refl _, fun _ _ _ => rfl⟩
def iotaR (α : Env → Option (List D)) (δ : Env) : Option (List D) := match α δ with
  | some [.int j] => if -(2 ^ 62) ≤ j ∧ j < 2 ^ 62 then some (rngI 0 1 j.toNat) else none
  | some [.int i, .int j] => if -(2 ^ 62) ≤ i ∧ i < 2 ^ 62 ∧ -(2 ^ 62) ≤ j ∧ j < 2 ^ 62 then some (rngI i 1 (j - i).toNat) else none
  | some [.int i, .int j, .int c] => if c ≠ 0 ∧ c.natAbs < 1073741824 ∧ Builtin.Range.small i j c = true then some (rngI i c (Builtin.Range.rangeSize i j c).toNat) else none
  | _ => none
theorem ql1 {av : Addr → Prop} {A : Nat → Option Addr} {H : Hp} {q : Ql} {x : Int} {vs : List V} (h : RepQL cA av A H q [.int x] vs) : vs = [.int x] := by
  obtain ⟨v, r, rfl, h1, h2⟩ := h
  have := h1.any
  cases (show v = _ from this); cases (show r = [] from h2); rfl
theorem vi_rng1 {ta : TA} {q : Ql} {a : Env → Option (List D)} (h : VA G ow ta q a) (hl : ∀ δ ds, a δ = some ds → ds.length = 1) : VI G ow (iRng1 ta) (iotaR a) := fun H0 av A σ H δ E xs e R k => by
  unfold iotaR at e
  cases he : a δ with
  | none => rw [he] at e; cases e
  | some ds =>
    rw [he] at e
    refine h H0 av A σ H δ E ds he _ fun vs H1 s r => ?_
    have hln := hl δ ds he
    split at e
    · rename_i j he2
      cases he2
      by_cases hz : -(2 ^ 62) ≤ j ∧ j < 2 ^ 62
      · rw [if_pos hz] at e
        cases e
        exact ⟨j, ql1 r, hz.1, hz.2, k _ H1 s walkD_rng⟩
      · rw [if_neg hz] at e; cases e
    · rename_i he2; cases he2; simp at hln
    · rename_i he2; cases he2; simp at hln
    · cases e
theorem len_nil {δ : Env} {ds : List D} (h : eNil δ = some ds) : ds.length = 0 := by cases h; rfl
theorem len_cons {a : Env → Option D} {r : Env → Option (List D)} {n : Nat} (hr : ∀ δ ds, r δ = some ds → ds.length = n) : ∀ δ ds, eCons a r δ = some ds → ds.length = n + 1 := fun δ ds h => by
  unfold eCons at h
  cases ha : a δ with
  | none => rw [ha] at h; cases h
  | some x =>
    rw [ha] at h
    cases hr' : r δ with
    | none => rw [hr'] at h; cases h
    | some xs => rw [hr'] at h; cases h; rw [List.length_cons, hr δ xs hr']
theorem len1 {a : Env → Option D} : ∀ δ ds, eCons a eNil δ = some ds → ds.length = 1 := len_cons fun _ _ => len_nil
/-! ### list comprehensions -/
def blkD (n : Nat) (δ : Env) (js : List Nat) : Env := List.replicate n none ++ js.map fun j => (δ[j]?).getD none
def compD (γ : D → Env → Option Env) (τ : Env → Option Bool) (ε : Env → Option D) (δ0 : Env) : List D → Option (List D)
  | [] => some []
  | x :: r => match γ x δ0 with
    | none => none
    | some δ1 => match τ δ1 with
      | none => none
      | some false => compD γ τ ε δ0 r
      | some true => match ε δ1 with
        | none => none
        | some y => match compD γ τ ε δ0 r with
          | none => none
          | some ys => some (y :: ys)
def eComp (ι : Env → Option (List D)) (γ : D → Env → Option Env) (τ : Env → Option Bool) (ε : Env → Option D) (n : Nat) (js : List Nat) (δ : Env) : Option D := match ι δ with
  | none => none
  | some xs => match compD γ τ ε (blkD n δ js) xs with
    | none => none
    | some ys => if ys.length ≤ sizeLine then some (.lst ys) else none
theorem ER.blk {H0 H : Hp} {av : Addr → Prop} {A : Nat → Option Addr} {σ : L2.St} {δ : Env} (n : Nat) (js : List Nat) (hjs : js.all (fun j => !ow.contains j) = true) (E : ER G ow H0 av A σ H δ) :
    ER ⟨G.1, fun _ => none⟩ [] H (AV av A) (fun _ => none) (L2.blk n σ js) H (blkD n δ js) := by
  refine ⟨Same.refl H, E.avl, fun _ _ z => (by cases z), fun _ _ _ z => (by cases z), fun _ _ z => (by cases z), fun _ z => absurd rfl z, fun _ z => (by cases z), ?_, fun _ _ z => (by cases z), fun _ _ z => (by cases z), fun i d e => ?_⟩
  · unfold L2.blk blkD pick
    rw [List.length_append, List.length_append, List.length_replicate, List.length_replicate, List.length_map, List.length_map]
  · unfold blkD at e
    by_cases hi : i < n
    · rw [List.getElem?_append_left (by simpa using hi), List.getElem?_replicate, if_pos hi] at e
      cases e
    · rw [List.getElem?_append_right (by simpa using hi), List.length_replicate, List.getElem?_map] at e
      cases hj : js[i - n]? with
      | none => rw [hj] at e; cases e
      | some j =>
        rw [hj] at e
        have e' : (δ[j]?).getD none = some d := Option.some.inj e
        have e2 : δ[j]? = some (some d) := by
          cases q : δ[j]? with
          | none => rw [q] at e'; cases e'
          | some z => rw [q] at e'; exact congrArg some e'
        obtain ⟨v, h1, h2, _⟩ := E.var j d e2
        have hjo : A j = none := by
          cases q : A j with
          | none => rfl
          | some a =>
            have h3 := E.dom j (by rw [q]; exact fun z => by cases z)
            have h4 := List.all_eq_true.mp hjs j (List.mem_of_getElem? hj)
            simp at h4
            exact absurd h3 h4
        refine ⟨v, ?_, fun _ => (h2 hjo).av fun b z => ?_, fun _ z => (by cases z)⟩
        · unfold L2.blk pick
          rw [List.getElem?_append_right (by simpa using hi), List.length_replicate, List.getElem?_map, hj]
          show some ((σ[j]?).getD none) = _
          rw [h1]; rfl
        · rcases z with z | ⟨_, z⟩
          · exact .inl z
          · cases z
theorem vf_comp {wi : TI} {g : TG} {tt : TT} {te : TE} {n : Nat} {js : List Nat} {ι : Env → Option (List D)} {γ : D → Env → Option Env} {τ : Env → Option Bool} {ε : Env → Option D}
    (hjs : js.all (fun j => !ow.contains j) = true) (hi : VI G ow wi ι) (hg : VG ⟨G.1, fun _ => none⟩ [] [] g γ) (ht : VT ⟨G.1, fun _ => none⟩ [] tt τ) (he : VE ⟨G.1, fun _ => none⟩ [] te .cl ε) : VF G ow (tComp wi g tt te n js) (eComp ι γ τ ε n js) := fun H0 av A σ H δ E d e Q k => by
  unfold eComp at e
  cases hι : ι δ with
  | none => rw [hι] at e; cases e
  | some xs =>
    rw [hι] at e
    dsimp only at e
    cases hc : compD γ τ ε (blkD n δ js) xs with
    | none => rw [hc] at e; cases e
    | some full =>
      rw [hc] at e
      dsimp only at e
      by_cases hz : full.length ≤ sizeLine
      · rw [if_pos hz] at e
        have ed : D.lst full = d := Option.some.inj e
        refine hi H0 av A σ H δ E xs hι _ fun J H1 s1 W => ?_
        have E1 := E.mono s1
        refine ⟨fun i m ys H' => m = xs.length - i ∧ i ≤ xs.length ∧ Same H1 H' ∧ ∃ done rest, RepL G.1 (AV av A) H' done ys ∧ compD γ τ ε (blkD n δ js) (xs.drop i) = some rest ∧ done ++ rest = full,
          ⟨xs.length, by simp, Nat.zero_le _, Same.refl _, [], full, .nil, hc, rfl⟩, ?_⟩
        rintro i m ys H' ⟨rfl, hle, s', done, rest, rl, hr, hf⟩
        have E' := E1.mono s'
        have sc : Same (DL.cut A H1) H' := fun b o z => s' b o (cut_some z).1
        obtain ⟨w1, w2, w3⟩ := W H' sc
        by_cases hlt : i < xs.length
        · refine .inr ⟨w1 i hlt, fun v H2 y => ?_⟩
          have hx : xs[i]? = some xs[i] := List.getElem?_eq_getElem hlt
          obtain ⟨s2, rep⟩ := w2 i _ v H2 hx y
          have rep' : Rep G.1 (AV av A) H2 xs[i] v := rep _ E'.avl fun b z => .inl z
          have E2 := E'.mono s2
          have EB : ER ⟨G.1, fun _ => none⟩ [] H2 (AV av A) (fun _ => none) (L2.blk n σ js) H2 (blkD n δ js) := E2.blk n js hjs
          have triv : ∀ (A' : Nat → Option Addr) {σ' : L2.St} {H3 : Hp} {δ' : Env}, ER ⟨G.1, fun _ => none⟩ [] H2 (AV av A) A' σ' H3 δ' → ∀ b, AV (AV av A) A' b ↔ AV av A b := fun A' {σ' H3 δ'} E3 b => by
            constructor
            · rintro (z | ⟨j, z⟩)
              · exact z
              · have := E3.dom j (by rw [z]; exact fun z => by cases z)
                cases this
            · exact fun z => .inl z
          rw [List.drop_eq_getElem_cons hlt] at hr
          unfold compD at hr
          cases hγ : γ xs[i] (blkD n δ js) with
          | none => rw [hγ] at hr; cases hr
          | some δ1 =>
            rw [hγ] at hr
            dsimp only at hr
            refine hg _ _ _ _ H2 _ EB _ v (rep'.av fun b z => .inl ((triv _ EB b).mp z)) δ1 hγ _ fun A3 σ3 H3 s3 E3 => ?_
            cases hτ : τ δ1 with
            | none => rw [hτ] at hr; cases hr
            | some c =>
              rw [hτ] at hr
              refine ht _ _ A3 σ3 H3 δ1 E3 c hτ _ fun H4 s4 => ?_
              have E4 := E3.mono s4
              cases c with
              | false =>
                exact iteF ⟨xs.length - (i + 1), by omega, rfl, hlt, (s'.trans s2).trans (s3.trans s4), done, rest, rl.same ((s2.trans s3).trans s4), hr, hf⟩
              | true =>
                dsimp only at hr
                cases hε : ε δ1 with
                | none => rw [hε] at hr; cases hr
                | some yd =>
                  rw [hε] at hr
                  dsimp only at hr
                  cases hr' : compD γ τ ε (blkD n δ js) (xs.drop (i + 1)) with
                  | none => rw [hr'] at hr; cases hr
                  | some rest' =>
                    rw [hr'] at hr
                    have hrr : yd :: rest' = rest := Option.some.inj hr
                    subst hrr
                    refine iteT (he _ _ A3 σ3 H4 δ1 E4 yd hε _ fun vy H5 s5 r5 => ?_)
                    have sall : Same H' H5 := ((s2.trans s3).trans s4).trans s5
                    refine ⟨?_, xs.length - (i + 1), by omega, rfl, hlt, s'.trans sall, done ++ [yd], rest', (rl.same sall).append (.cons ((RepT.r r5).av fun b z => .inl ((triv _ E4 b).mpr z)) .nil), hr', by rw [← hf]; simp⟩
                    have := congrArg List.length hf
                    rw [List.length_append, List.length_cons] at this
                    have := rl.length
                    omega
        · have ei : i = xs.length := by omega
          subst ei
          rw [List.drop_length] at hr
          cases hr
          refine .inl ⟨w3 _ (Nat.le_refl _), fun p hp => k p ys full H' (s1.trans s') hp (by rw [← hf, List.append_nil]; exact rl) ed.symm⟩
      · rw [if_neg hz] at e; cases e
/-! ### calls of the text's defs -/
/-- a def's promise: what its function m tells -/
def spD (cA : Kn) (n : Nat) (m : List D → Option D) : Sp := fun vs H Q _ => ∃ av ds d, (∀ a, av a → H a ≠ none) ∧ RepL cA av H ds vs ∧ ds.length = n ∧ m ds = some d ∧ ∀ v H', Same H H' → Rep cA av H' d v → Q v H'
def eCall (n : Nat) (m : List D → Option D) (dds : List D) (α : Env → Option (List D)) (δ : Env) : Option D := match α δ with
  | some ds => if (ds ++ dds).length = n then m (ds ++ dds) else none
  | none => none
def Ql.cq : Ql → Ql
  | .cl => .cl
  | _ => .dt
theorem ve_call {n : Nat} {m : List D → Option D} {t : TA} {q : Ql} {α : Env → Option (List D)} {E0 : XK} (dds : List D) (hd : dds.all scalar = true) (h : VA G ow t q α) : VE G ow (tCall (spD G.1 n m) (dds.map val) E0 t) q.cq (eCall n m dds α) := fun H0 av A σ H δ E d e Q k => by
  unfold eCall at e
  cases he : α δ with
  | none => rw [he] at e; cases e
  | some ds =>
    rw [he] at e
    dsimp only at e
    by_cases hz : (ds ++ dds).length = n
    · rw [if_pos hz] at e
      refine h H0 av A σ H δ E ds he _ fun vs H1 s1 r1 => ?_
      have E1 := E.mono s1
      cases q with
      | cl => exact ⟨AV av A, ds ++ dds, d, E1.avl, r1.cl.append (.of_vals hd), hz, e, fun v H' s r => k v H' (s1.trans s) r.t⟩
      | tp => exact ⟨av, ds ++ dds, d, E1.avH, r1.any.append (.of_vals hd), hz, e, fun v H' s r => k v H' (s1.trans s) r.t⟩
      | dt => exact ⟨av, ds ++ dds, d, E1.avH, r1.any.append (.of_vals hd), hz, e, fun v H' s r => k v H' (s1.trans s) r.t⟩
    · rw [if_neg hz] at e; cases e
def run (N : Nat) (φ : Env → Option Out) (ds : List D) : Option D := match φ (ds.map some ++ List.replicate (N - ds.length) none) with
  | some (.rt d) => some d
  | some (.nx _) => some .non
  | _ => none
theorem start_get {N : List Str} {ds : List D} {vs : List V} {av : Addr → Prop} {H : Hp} (r : RepL cA av H ds vs) {i : Nat} {d : D} (h : (ds.map some ++ List.replicate (N.length - ds.length) none)[i]? = some (some d)) :
    ∃ v, (L2.start N vs)[i]? = some (some v) ∧ Rep cA av H d v := by
  by_cases hi : i < ds.length
  · rw [List.getElem?_append_left (by simpa using hi), List.getElem?_map] at h
    cases hd : ds[i]? with
    | none => rw [hd] at h; cases h
    | some x =>
      rw [hd] at h
      cases h
      obtain ⟨v, hv, rv⟩ := r.get hd
      refine ⟨v, ?_, rv⟩
      unfold L2.start
      have : i < vs.length := by rw [← r.length]; exact hi
      rw [List.getElem?_append_left (by simpa using this), List.getElem?_map, hv]
      rfl
  · rw [List.getElem?_append_right (by simpa using hi), List.getElem?_replicate] at h
    split at h <;> cases h
theorem er_start {N : List Str} {ds : List D} {vs : List V} {av : Addr → Prop} {H : Hp} (ha : ∀ a, av a → H a ≠ none) (r : RepL cA av H ds vs) :
    ER ⟨cA, fun _ => none⟩ [] H av (fun _ => none) (L2.start N vs) H (ds.map some ++ List.replicate (N.length - ds.length) none) := by
  refine ⟨Same.refl H, ha, fun _ _ z => (by cases z), fun _ _ _ z => (by cases z), fun _ _ z => (by cases z), fun _ z => absurd rfl z, fun _ z => (by cases z), ?_, fun _ _ z => (by cases z), fun _ _ z => (by cases z), fun i d e => ?_⟩
  · unfold L2.start
    rw [List.length_append, List.length_append, List.length_map, List.length_map, List.length_replicate, List.length_replicate, r.length]
  · obtain ⟨v, h1, h2⟩ := start_get r e
    refine ⟨v, h1, fun _ => h2.av fun b z => ?_, fun _ z => (by cases z)⟩
    rcases z with z | ⟨_, z⟩
    · exact .inl z
    · cases z
section
variable {P : Program} {w : World} {K : PySem.W.Frag} {mg : Str → Option Value} {base : Heap}
end
/-! ### slices -/
def xNoP (_ : Env) : Option (Option Int) := some none
def xP (ε : Env → Option D) (δ : Env) : Option (Option Int) := match ε δ with
  | some (.int i) => some (some i)
  | _ => none
def VO (G : Cn) (ow : List Nat) (to : TO) (ω : Env → Option (Option Int)) : Prop :=
  ∀ H0 av A σ H δ, ER G ow H0 av A σ H δ → ∀ x, ω δ = some x → ∀ Q : Option Int → Hp → Prop, (∀ H', Same H H' → Q x H') → to σ H Q
def slD : D → Option Int → Option Int → Option D
  | .str a, lo, hi => if a.length ≤ sizeLine then some (.str (L2.cutL a lo hi)) else none
  | .lst xs, lo, hi => some (.lst (L2.cutL xs lo hi))
  | .tup xs, lo, hi => if sIx' xs.length 0 lo = 0 ∧ sIx' xs.length xs.length hi = xs.length then none else some (.tup (L2.cutL xs lo hi))
  | _, _, _ => none
def eSl (a : Env → Option D) (lo hi : Env → Option (Option Int)) (δ : Env) : Option D := match a δ with
  | some x => match lo δ with
    | some l => match hi δ with
      | some u => slD x l u
      | none => none
    | none => none
  | none => none
/-! ### isinstance -/
def rIsiX (K : PySem.W.Frag) : List V → Hp → VK → Prop := fun xs H Q => rIsi K xs H Q ∨ ∃ p vs c cv b, xs = [.ref p, c] ∧ (∀ v, RelV c v → v = cv) ∧ KL K p vs ∧ PySem.W.kitOne K (.type "list") cv = some b ∧ Q (.bl b) H
theorem k_isiX {X : Cx} {K : PySem.W.Frag} (hK : X.K = K := by rfl) : CallR X (.builtin "isinstance") (rIsiX K) := by
  subst hK
  intro pins s σ H xs us Q I rs h
  rcases h with h | ⟨p, vs, c, cv, b, rfl, hc, ⟨o, its, n, hk, h1, _⟩, e, q⟩
  · exact call_isi pins s σ H xs us Q I rs h
  · obtain ⟨u, w', rfl, rx, rc⟩ := vals2 rs
    have ec := hc _ rc
    subst ec
    cases (show u = Value.ref p from rx)
    exact PySem.W.kia_one PySem.W.kitx_list I.kIn ⟨o, I.kIn p o hk, h1⟩ e (fun z => nomatch z) fun tk => ⟨.bl b, H, I.tok tk, rfl, q⟩
def kind : D → String
  | .non => "NoneType"
  | .bl _ => "bool"
  | .int _ => "int"
  | .str _ => "str"
  | .lst _ => "list"
  | .tup _ => "tuple"
  | .obj c _ _ => c
def plainKinds : List String := ["NoneType", "bool", "int", "str", "list", "tuple"]
def isiD (tab : List (String × Bool)) : D → Option Bool
  | .obj c _ _ => if plainKinds.contains c then none else tab.lookup c
  | d => tab.lookup (kind d)
def eIsi (tab : List (String × Bool)) (a : Env → Option D) (δ : Env) : Option D := match a δ with
  | some d => match isiD tab d with
    | some b => some (.bl b)
    | none => none
  | none => none
structure ClsI (K : PySem.W.Frag) (C : Addr) : Prop where
  cl : Cls K C
  ha : PySem.W.findIn K (.ref C) "__class__" = some (some (.builtin "object.__class__"))
  hn : PySem.W.specialIn K (.builtin "object.__class__") "__get__" = some (some (.builtin "getset_descriptor.__get__"))
  htk : PySem.W.takesIn K (.builtin "object.__class__") = some true
  hm : PySem.W.mroIn K C (.type "object") = some true
/-- what isinstance tells of the kinds -/
structure IsiOk (K : PySem.W.Frag) (cA : Kn) (cv : Value) (tab : List (String × Bool)) : Prop where
  plain : ∀ k ∈ plainKinds, ∀ b, tab.lookup k = some b → PySem.W.kitOne K (.type k) cv = some b
  own : ∀ (c : String) b, plainKinds.contains c = false → tab.lookup c = some b → PySem.W.kitOne K (.ref (cA.c c)) cv = some b ∧ ClsI K (cA.c c)
theorem look_mem {β : Type} {c : String} {b : β} : ∀ {tab : List (String × β)}, tab.lookup c = some b → (c, b) ∈ tab
  | [], h => by simp at h
  | (c', b') :: r, h => by
    rw [List.lookup_cons] at h
    cases hc : c == c' with
    | true =>
      rw [hc] at h
      cases h
      rw [eq_of_beq hc]
      exact List.mem_cons_self
    | false =>
      rw [hc] at h
      exact List.mem_cons_of_mem _ (look_mem h)
theorem isi_tab {K : PySem.W.Frag} {cA : Kn} {cv : Value} {tab : List (String × Bool)} (h : ∀ p ∈ tab, if plainKinds.contains p.1 = true then PySem.W.kitOne K (.type p.1) cv = some p.2 else PySem.W.kitOne K (.ref (cA.c p.1)) cv = some p.2 ∧ ClsI K (cA.c p.1)) : IsiOk K cA cv tab where
  plain := fun k hk b hl => by
    have := h _ (look_mem hl)
    rwa [if_pos (by simpa using hk)] at this
  own := fun c b hc hl => by
    have := h _ (look_mem hl)
    rwa [if_neg (by simpa using hc)] at this
theorem ve_isi {ta : TE} {q : Ql} {a : Env → Option D} {c : V} {cv : Value} {tab : List (String × Bool)} (hc : ∀ v, RelV c v → v = cv) (I : IsiOk G.1.K G.1 cv tab) (ha : VE G ow ta q a) :
    VE G ow (tCB (rIsiX G.1.K) (tCons ta (tCons (tC c) tNil))) .cl (eIsi tab a) := fun H0 av A σ H δ E d e Q k => by
  unfold eIsi at e
  cases he : a δ with
  | none => rw [he] at e; cases e
  | some x =>
    rw [he] at e
    dsimp only at e
    cases ht : isiD tab x with
    | none => rw [ht] at e; cases e
    | some b =>
      rw [ht] at e
      cases e
      refine ha H0 av A σ H δ E x he _ fun v H1 s r => ?_
      have r' := r.any
      have fin : ∀ t, TyOf G.1.K H1 v t → PySem.W.kitOne G.1.K t cv = some b → rIsiX G.1.K [v, c] H1 Q := fun t ty e => .inl ⟨v, c, cv, t, b, rfl, hc, ty, e, k _ H1 s rfl⟩
      cases x with
      | non => cases (show v = _ from r'); exact fin _ .non (I.plain _ (by decide) b (by exact ht))
      | bl y => cases (show v = _ from r'); exact fin _ (.bl y) (I.plain _ (by decide) b (by exact ht))
      | int y => cases (show v = _ from r'); exact fin _ (.int y) (I.plain _ (by decide) b (by exact ht))
      | str y => cases (show v = _ from r'); exact fin _ (.str _) (I.plain _ (by decide) b (by exact ht))
      | lst y =>
        unfold Rep at r'
        obtain ⟨p, vs, rfl, _, rd, _⟩ := r'
        rcases rd with (rd | ⟨o, rd⟩) | rd
        · exact fin _ (.lst rd) (I.plain _ (by decide) b (by exact ht))
        · exact fin _ (.frz rd) (I.plain _ (by decide) b (by exact ht))
        · exact .inr ⟨p, vs, c, cv, b, rfl, hc, rd, I.plain _ (by decide) b (by exact ht), k _ H1 s rfl⟩
      | tup y =>
        unfold Rep at r'
        obtain ⟨p, vs, rfl, _, rd, _⟩ := r'
        exact fin _ (.tup rd) (I.plain _ (by decide) b (by exact ht))
      | obj c' ks y =>
        unfold Rep at r'
        obtain ⟨p, dx, vs, rfl, _, rd, _⟩ := r'
        dsimp only [isiD] at ht
        cases hp : plainKinds.contains c' with
        | true => rw [hp, if_pos rfl] at ht; cases ht
        | false =>
        rw [hp, if_neg Bool.false_ne_true] at ht
        obtain ⟨h1, h2⟩ := I.own c' b hp ht
        exact fin _ (.ins rd h2.cl h2.ha h2.hn h2.htk h2.hm) h1
end
end DL

namespace L2
open PySem PySem.Spec
section
variable {X : Cx}
end
end L2
namespace DL
open PySem PySem.Spec L2
section
variable {cA : Kn} {G : Cn} {ow : List Nat}
/-! ### methods of texts -/
def BmOk (cA : Kn) (r : V → List V → Hp → VK → Prop) (f : List Nat → List D → Option D) : Prop :=
  ∀ (i : Addr → Prop) (H : Hp) (a : List Nat) (ds : List D) (vs : List V) (d : D), (∀ a, i a → H a ≠ none) → RepIL cA i H ds vs → f a ds = some d → ∀ Q : VK, (∀ v H', Same H H' → Rep cA i H' d v → Q v H') → r (S a) vs H Q
def eBM (f : List Nat → List D → Option D) (a : Env → Option D) (α : Env → Option (List D)) (δ : Env) : Option D := match a δ with
  | some (.str cs) => match α δ with
    | some ds => f cs ds
    | none => none
  | _ => none
def startsD (a : List Nat) : List D → Option D
  | [.str b] => some (.bl (b.isPrefixOf a))
  | _ => none
def endsD (a : List Nat) : List D → Option D
  | [.str b] => some (.bl (b.isSuffixOf a))
  | _ => none
def rfindD (a : List Nat) : List D → Option D
  | [.str [c]] => some (.int (rfindL c a))
  | _ => none
def findD (a : List Nat) : List D → Option D
  | [.str [c]] => some (.int (findL c a))
  | _ => none
def countD (a : List Nat) : List D → Option D
  | [.str [c]] => some (.int (a.count c : Nat))
  | _ => none
def indexD (a : List Nat) : List D → Option D
  | [.str [c]] => if 0 ≤ findL c a then some (.int (findL c a)) else none
  | _ => none
/-- the texts of a list -/
def strs? : List D → Option (List (List Nat))
  | [] => some []
  | .str a :: r => match strs? r with
    | some l => some (a :: l)
    | none => none
  | _ => none
def joinD (sep : List Nat) : List D → Option D
  | [.lst xs] => match strs? xs with
    | some l => if (l.map List.length).sum + l.length * sep.length ≤ sizeLine then some (.str (joinL sep l)) else none
    | none => none
  | _ => none
end
end DL

namespace L2
open PySem PySem.Spec
/-! ### a def with defaults -/
structure FunX (K : PySem.W.Frag) (x qual : Str) (st : Stmt) (f : Addr) (fd : FuncData) : Prop where
  ex : ∃ (oc : Value) (od : Option Addr) (dV kV doc pm : Value) (an : Option Addr) (cdv ct : Value) (osl : Array (Option Value)),
    fd = PySem.W.fnOf x qual (defArgs st) (defBody st) (defScope st) dV kV doc pm an cdv ct ∧ K.lookup f = some ⟨oc, od, .func fd, osl⟩ ∧ PySem.W.codeIn K cdv qual = true
theorem Fun.x {K : PySem.W.Frag} {x qual : Str} {st : Stmt} {f : Addr} {fd : FuncData} (F : Fun K x qual st f fd) : FunX K x qual st f fd := by
  obtain ⟨oc, od, kV, doc, pm, an, cdv, ct, osl, h⟩ := F.ex
  exact ⟨oc, od, .none, kV, doc, pm, an, cdv, ct, osl, h⟩
section
variable {P : Program} {w : World} {K : PySem.W.Frag} {mg : Str → Option Value} {base : Heap}
theorem FunX.ok {x qual : Str} {st : Stmt} {f : Addr} {fd : FuncData} {N ps : List Str} {k : Nat} {sp : Sp} (F : FunX K x qual st f fd) (S : FnScope N ps (defScope st)) (len : ∀ vs H Q E, sp vs H Q E → vs.length = ps.length)
    (hbody : ∀ (cdv : Value) (A : Around) (outer : List Env) (s : Shared) (H : Hp) (vs : List V) (Q : VK) (E : XK), Room k (A.deeper (PyProof.Rows.envOfC qual (defScope st) s.heap.objs.size f cdv)) → sp vs H Q E →
      ∃ t, PSs (cxOf CX0 P w K mg base N qual (defScope st) f cdv A outer s H E).nox (defBody st) t ∧ t { nx := fun _ H' => Q .non H', rt := Q } (start N vs) H) : FnOk P w K mg base CX0 (k + 1) f fd ps sp := by
  obtain ⟨oc, od, dV, kV, doc, pm, an, cdv, ct, osl, rfl, lk, hcd⟩ := F.ex
  refine fn_of lk hcd S len fun A outer s H vs Q E hr hsp => ?_
  obtain ⟨t, h, q⟩ := hbody cdv A outer s H vs Q E hr hsp
  exact ⟨t, h.nox, q⟩
end
/-! ### is True, is False -/
section
variable {X : Cx}
end
/-! ### C.f(e, ..), f a def of the class C -/
structure CMeth (K : PySem.W.Frag) (C : Addr) (m : Str) (f : Addr) : Prop where
  ga : PySem.W.specialIn K (.ref C) "__getattribute__" = some (some (.builtin "type.__getattribute__"))
  rd : PySem.W.readsIn K C (.type "type") = true
  fc : PySem.W.findCls K (.ref C) (.type "type") m = some (.val (.ref f))
  kp : PySem.W.keepIn K (.ref f) = true
section
variable {X : Cx} {CX : CXT} {k : Nat} {f C : Addr} {fd : FuncData} {ps : List Str} {sp : Sp} {dvs : List V} {ds : List Value} {E : XK} {x m : Str} {p pos apos : Pos} {e o : Expr} {es : List Expr} {ta : TE} {t : TA}
end
end L2
namespace DL
open PySem PySem.Spec L2
/-! ### names of fields -/
section
variable {cA : Kn} {G : Cn} {ow owN owB owC : List Nat}
/-! ### e.f -/
def FldOk (K : PySem.W.Frag) (cA : Kn) (cls : List String) (f : String) : Prop := ∀ c ∈ cls, Cls K (cA.c c) ∧ NoAttr K (cA.c c) (Str.ofString f)
def eFld (cls : List String) (f : String) (a : Env → Option D) (δ : Env) : Option D := match a δ with
  | some (.obj c ks xs) => if cls.contains c then (ks.zip xs).lookup f else none
  | _ => none
/-- self.f = e, a new field -/
def sFldD (i : Nat) (cls : List String) (f : String) (ε : Env → Option D) (δ : Env) : Option Out := match ε δ with
  | some d => match eVar i δ with
    | some (.obj c ks xs) => if cls.contains c && !ks.contains f && decide (ks.length < 1000) then some (.nx (δ.set i (some (.obj c (ks ++ [f]) (xs ++ [d]))))) else none
    | _ => none
  | none => none
/-! ### making: __init__'s promise -/
def spI (cA : Kn) (n : Nat) (m : List D → Option D) : Sp := fun vs H Q _ => ∃ (x : Addr) (r : List V) (av : Addr → Prop) (ds : List D) (d d' : D), vs = .ref x :: r ∧ (∀ a, av a → H a ≠ none) ∧ ¬ av x ∧ Own cA (fun a => av a ∨ a = x) H d x ∧ RepL cA (fun a => av a ∨ a = x) H ds r ∧ (d :: ds).length = n ∧ m (d :: ds) = some d' ∧
  ∀ H', (∀ b o, b ≠ x → H b = some o → H' b = some o) → Own cA (fun a => av a ∨ a = x) H' d' x → Q .non H'
theorem Own.av {av av' : Addr → Prop} {H : Hp} {d : D} {a : Addr} (k : ∀ b, av' b → av b ∨ H b = none) (h : Own cA av H d a) : Own cA av' H d a := by
  cases d with
  | lst xs => obtain ⟨vs, q, l⟩ := h; exact ⟨vs, q, l.av k⟩
  | obj c ks xs => obtain ⟨dx, vs, q, z, l⟩ := h; exact ⟨dx, vs, q, z, l.av k⟩
  | _ => exact h.elim
def eMake (c : String) (n : Nat) (m : List D → Option D) (dds : List D) (α : Env → Option (List D)) (δ : Env) : Option D := match α δ with
  | some ds => if (D.obj c [] [] :: (ds ++ dds)).length = n then m (.obj c [] [] :: (ds ++ dds)) else none
  | none => none
/-- Base.__init__(self, ..) -/
def sBase (i n : Nat) (m : List D → Option D) (dds : List D) (α : Env → Option (List D)) (δ : Env) : Option Out := match eVar i δ with
  | some d => match α δ with
    | some ds => if (d :: (ds ++ dds)).length = n then (match m (d :: (ds ++ dds)) with
      | some d' => some (.nx (δ.set i (some d')))
      | none => none) else none
    | none => none
  | none => none
def runI (N : Nat) (φ : Env → Option Out) (ds : List D) : Option D := match φ (ds.map some ++ List.replicate (N - ds.length) none) with
  | some (.nx δ) => eVar 0 δ
  | _ => none
section
variable {P : Program} {w : World} {K : PySem.W.Frag} {mg : Str → Option Value} {base : Heap}
/-- a def with defaults, or a method -/
theorem fn_DX {x qual : Str} {st : Stmt} {f : Addr} {fd : FuncData} {N ps : List Str} {k : Nat} {φ : Env → Option Out} (F : FunX K x qual st f fd) (S : FnScope N ps (defScope st))
    (hbody : ∀ (cdv : Value) (A : Around) (outer : List PySem.Env) (s : Shared) (H : Hp) (E : XK), Room k (A.deeper (PyProof.Rows.envOfC qual (defScope st) s.heap.objs.size f cdv)) →
      ∃ t, PSs (cxOf CX0 P w K mg base N qual (defScope st) f cdv A outer s H E).nox (defBody st) t ∧ ∃ owN, VS ⟨cA, fun _ => none⟩ [] owN [] [] t φ) : FnOk P w K mg base CX0 (k + 1) f fd ps (spD cA ps.length (run N.length φ)) := by
  refine F.ok S (fun vs H Q E h => ?_) fun cdv A outer s H vs Q E hr h => ?_
  · obtain ⟨av, ds, d, _, r, hl, _⟩ := h
    rw [← r.length, hl]
  · obtain ⟨av, ds, d, ha, r, hl, hm, q⟩ := h
    obtain ⟨t, ht, owN, hv⟩ := hbody cdv A outer s H E hr
    refine ⟨t, ht, ?_⟩
    unfold run at hm
    cases hφ : φ (ds.map some ++ List.replicate (N.length - ds.length) none) with
    | none => rw [hφ] at hm; cases hm
    | some o =>
      rw [hφ] at hm
      refine hv H av _ _ H _ (er_start ha r) o hφ _ ?_
      cases o with
      | nx δ' => cases hm; exact fun A' σ' H' E' => q .non H' E'.same rfl
      | rt d' => cases hm; exact fun v H' s' r' => q v H' s' r'
      | bk δ' => cases hm
      | ct δ' => cases hm
end
/-! ### o.m(..), by the object's class -/
abbrev MTab := List (String × (Nat × (List D → Option D)))
structure MethOk (X : Cx) (cA : Kn) (k : Nat) (m : String) (c : String) (n : Nat) (mm : List D → Option D) : Prop where
  ex : ∃ f fd ps, Cls X.K (cA.c c) ∧ Meth X.K (cA.c c) (Str.ofString m) f ∧ FnOk X.prog X.w X.K X.mg X.base CX0 k f fd ps (spD cA n mm) ∧ Binds X.K fd ps []
def MTOk (X : Cx) (cA : Kn) (k : Nat) (m : String) : MTab → Prop
  | [] => True
  | (c, n, mm) :: r => MethOk X cA k m c n mm ∧ MTOk X cA k m r
def tMethP (cA : Kn) (m : String) (tab : MTab) (ta : TE) (t : TA) : TE := fun σ H Q => ta σ H fun x H1 => ∃ a dx fs c n mm, x = .ref a ∧ H1 a = some (.ins (cA.c c) dx fs) ∧ fs.lookup (Str.ofString m) = none ∧ tab.lookup c = some (n, mm) ∧ t σ H1 fun vs H2 => spD cA n mm (x :: vs) H2 Q E0
def eMeth (m : String) (tab : MTab) (a : Env → Option D) (α : Env → Option (List D)) (δ : Env) : Option D := match a δ with
  | some (.obj c ks xs) => if ks.contains m then none else (match tab.lookup c with
    | some (n, mm) => match α δ with
      | some ds => if (D.obj c ks xs :: ds).length = n then mm (.obj c ks xs :: ds) else none
      | none => none
    | none => none)
  | _ => none
/-! ### is True, is False -/
def isD : D → D → Option D
  | .bl a, .bl b => some (.bl (a == b))
  | _, _ => none
end
end DL

namespace DL
open PySem PySem.Spec L2
/-- the pairs of a number from k on and an item -/
def enumD : Nat → List D → List D
  | _, [] => []
  | k, x :: xs => .tup [.int (k : Nat), x] :: enumD (k + 1) xs
section
variable {cA : Kn} {G : Cn} {ow : List Nat}
def iotaE (k : Nat) (ε : Env → Option D) (δ : Env) : Option (List D) := match ε δ with
  | some (.str cs) => some (enumD k (cs.map fun c => .str [c]))
  | _ => none
end
end DL

namespace DL
open PySem PySem.Spec L2
section
variable {cA : Kn} {P : Program} {w : World} {K : PySem.W.Frag} {mg : Str → Option Value} {base : Heap}
/-- a def by its body, written out -/
theorem fn_DB {x qual : Str} {st : Stmt} {f : Addr} {fd : FuncData} {N ps : List Str} {k : Nat} {φ : Env → Option Out} {body : List Stmt} {scope : Scope} {n : Nat} {m : List D → Option D} (F : FunX K x qual st f fd) (S : FnScope N ps (defScope st)) (hS : defScope st = scope) (hB : defBody st = body)
    (hbody : ∀ (cdv : Value) (A : Around) (outer : List PySem.Env) (s : Shared) (H : Hp) (E : XK), Room k (A.deeper (PyProof.Rows.envOfC qual scope s.heap.objs.size f cdv)) →
      ∃ t, PSs (cxOf CX0 P w K mg base N qual scope f cdv A outer s H E).nox body t ∧ ∃ owN, VS ⟨cA, fun _ => none⟩ [] owN [] [] t φ)  (hm : m = run N.length φ) (hn : ps.length = n) : FnOk P w K mg base CX0 (k + 1) f fd ps (spD cA n m) := by
  subst hS hB hm hn
  exact fn_DX F S hbody
end
end DL

namespace DL
open PySem PySem.Spec L2 PyProof.Rows
/-! ### sum, max, min of a list of ints -/
def intsD : List D → Option (List Int)
  | [] => some []
  | .int b :: r => match intsD r with
    | some bs => some (b :: bs)
    | none => none
  | _ => none
theorem intsD_of : ∀ {xs : List D} {bs : List Int}, intsD xs = some bs → xs = bs.map D.int
  | [], bs, h => by cases h; rfl
  | x :: xs, bs, h => by
    cases x <;> first | (cases h; done) | skip
    rename_i b
    unfold intsD at h
    cases hr : intsD xs with
    | none => rw [hr] at h; cases h
    | some cs =>
      rw [hr] at h
      cases h
      rw [List.map_cons, intsD_of hr]
theorem intsD_map (bs : List Int) : intsD (bs.map D.int) = some bs := by
  induction bs with
  | nil => rfl
  | cons b bs ih => rw [List.map_cons, intsD, ih]
theorem run_ints : ∀ (ns : List Int) (its : List Value), Vals (ns.map V.int) its → IntsAre its ns
  | [], its, h => by cases h; exact .nil
  | n :: ns, its, h => by
    cases h with
    | cons r1 r2 =>
      obtain ⟨t, rfl⟩ := r1
      exact .cons _ _ (run_ints ns _ r2)
def maxZ : List Int → Int
  | [] => 0
  | n :: ns => ns.foldl max n
theorem foldl_max_spec : ∀ (ns : List Int) (n : Int), (ns.foldl max n = n ∨ ns.foldl max n ∈ ns) ∧ n ≤ ns.foldl max n ∧ ∀ a ∈ ns, a ≤ ns.foldl max n
  | [], n => ⟨.inl rfl, Int.le_refl _, fun _ z => nomatch z⟩
  | m :: ns, n => by
    obtain ⟨h1, h2, h3⟩ := foldl_max_spec ns (max n m)
    rw [List.foldl_cons]
    refine ⟨?_, by omega, fun a ha => ?_⟩
    · rcases h1 with h | h
      · by_cases hm : n ≤ m
        · exact .inr (by rw [h, Int.max_eq_right hm]; exact List.mem_cons_self)
        · exact .inl (by rw [h, Int.max_eq_left (by omega)])
      · exact .inr (List.mem_cons_of_mem _ h)
    · rcases List.mem_cons.mp ha with rfl | ha
      · omega
      · exact h3 a ha
theorem maxZ_spec {ns : List Int} (h : 0 < ns.length) : maxZ ns ∈ ns ∧ ∀ a ∈ ns, a ≤ maxZ ns := by
  cases ns with
  | nil => cases h
  | cons n ns =>
    obtain ⟨h1, h2, h3⟩ := foldl_max_spec ns n
    refine ⟨?_, fun a ha => ?_⟩
    · rcases h1 with h | h
      · show ns.foldl max n ∈ _
        rw [h]; exact List.mem_cons_self
      · exact List.mem_cons_of_mem _ h
    · rcases List.mem_cons.mp ha with rfl | ha
      · exact h2
      · exact h3 a ha
theorem maxZ_uniq {ns : List Int} {M : Int} (h1 : M ∈ ns) (h2 : ∀ a ∈ ns, a ≤ M) : M = maxZ ns := by
  obtain ⟨h3, h4⟩ := maxZ_spec (List.length_pos_of_mem h1)
  exact Int.le_antisymm (h4 M h1) (h2 _ h3)
def rMaxL (K : PySem.W.Frag) : List V → Hp → VK → Prop := fun xs H Q => ∃ (p : Addr) (ns : List Int), xs = [.ref p] ∧ SqL K H p (ns.map V.int) ∧ 0 < ns.length ∧ Q (.int (maxZ ns)) H
def rSumL (K : PySem.W.Frag) : List V → Hp → VK → Prop := fun xs H Q => ∃ (p : Addr) (ns : List Int), xs = [.ref p] ∧ SqL K H p (ns.map V.int) ∧ Q (.int ns.sum) H
section
variable {X : Cx} {K : PySem.W.Frag} {cA : Kn}
theorem call_maxL (hc : X.calm = true) : CallR X (.builtin "max") (rMaxL X.K) := by
  intro pins s σ H xs us Q I rs h
  obtain ⟨p, ns, rfl, hq, hne, q⟩ := h
  obtain ⟨u, rfl, rx⟩ := vals1 rs
  cases rx
  obtain ⟨its, rv, pl, hz⟩ := I.list hq
  have hi := run_ints ns its rv
  obtain ⟨ys, e⟩ := hi.allInts.items
  have hns : ns = ys.toList.map (·.1) := by
    rw [← hi.numsOf, ← nums_intItems, ← e]
  have hsz : 0 < ys.size := by
    have h3 := hne; rw [hns, List.length_map, Array.length_toList] at h3; exact h3
  have hl := pl.isList
  rw [e] at hl
  refine max_intList (I.ok.hd hc) hl hsz fun v h' tk hv hk => ?_
  obtain ⟨t, rfl⟩ := intItems_at hv
  obtain ⟨h1, h2⟩ := argBest_gt (numAt ys) (ys.size - 1)
  have hM := maxZ_uniq (ns := ns) (M := numAt ys (argBest (fun i j => decide (numAt ys i > numAt ys j)) (ys.size - 1))) (by
    rw [hns, numAt_eq]; exact getD_mem (by rw [List.length_map, Array.length_toList]; omega)) (fun a ha => by
    rw [hns] at ha
    obtain ⟨j, hj, rfl⟩ := mem_getD ha
    rw [List.length_map, Array.length_toList] at hj
    rw [← numAt_eq]; exact h2 j (by omega))
  exact ⟨.int (maxZ ns), H, I.kept hk, ⟨t, by rw [hM]⟩, q⟩
theorem call_sumL (hc : X.calm = true) : CallR X (.builtin "sum") (rSumL X.K) := by
  intro pins s σ H xs us Q I rs h
  obtain ⟨p, ns, rfl, hq, q⟩ := h
  obtain ⟨u, rfl, rx⟩ := vals1 rs
  cases rx
  obtain ⟨its, rv, pl, hz⟩ := I.list hq
  have hi := run_ints ns its rv
  obtain ⟨ys, e⟩ := hi.allInts.items
  have hns : ns = ys.toList.map (·.1) := by
    rw [← hi.numsOf, ← nums_intItems, ← e]
  have hl := pl.isList
  rw [e] at hl
  refine sum_intListG (I.ok.hd hc) hl fun h' tk t' hk => ?_
  have e2 : preSum (numAt ys) ys.size = ns.sum := by
    rw [preSum_eq, List.take_of_length_le (by simp), hns]
  exact ⟨.int ns.sum, H, I.kept hk, ⟨t', by rw [e2]⟩, q⟩
theorem k_maxL (hc : X.calm = true := by rfl) (hK : X.K = K := by rfl) : CallR X (.builtin "max") (rMaxL K) := hK ▸ call_maxL hc
theorem k_sumL (hc : X.calm = true := by rfl) (hK : X.K = K := by rfl) : CallR X (.builtin "sum") (rSumL K) := hK ▸ call_sumL hc
def maxLD : List D → Option D
  | [.lst xs] => match intsD xs with
    | some ns => if 0 < ns.length then some (.int (maxZ ns)) else none
    | none => none
  | _ => none
def sumLD : List D → Option D
  | [.lst xs] => match intsD xs with
    | some ns => some (.int ns.sum)
    | none => none
  | _ => none
theorem cb_maxL : CbOk cA (rMaxL cA.K) maxLD := fun i H ds vs d _ h e Q k => by
  unfold maxLD at e
  split at e
  · rename_i xs
    cases hb : intsD xs with
    | none => rw [hb] at e; cases e
    | some bs =>
      rw [hb] at e
      dsimp only at e
      by_cases hz : 0 < bs.length
      · rw [if_pos hz] at e
        cases e
        obtain ⟨v, t, rfl, a, ws, rfl, _, rd, l⟩ := il1 h
        have ex := intsD_of hb
        subst ex
        have ev := l.vals (by rw [List.all_map]; exact List.all_eq_true.mpr fun _ _ => rfl)
        rw [List.map_map] at ev
        subst ev
        exact ⟨a, bs, rfl, rd, hz, k _ H (Same.refl H) rfl⟩
      · rw [if_neg hz] at e; cases e
  · cases e
theorem cb_sumL : CbOk cA (rSumL cA.K) sumLD := fun i H ds vs d _ h e Q k => by
  unfold sumLD at e
  split at e
  · rename_i xs
    cases hb : intsD xs with
    | none => rw [hb] at e; cases e
    | some bs =>
      rw [hb] at e
      cases e
      obtain ⟨v, t, rfl, a, ws, rfl, _, rd, l⟩ := il1 h
      have ex := intsD_of hb
      subst ex
      have ev := l.vals (by rw [List.all_map]; exact List.all_eq_true.mpr fun _ _ => rfl)
      rw [List.map_map] at ev
      subst ev
      exact ⟨a, bs, rfl, rd, k _ H (Same.refl H) rfl⟩
  · cases e
end
end DL

namespace L2
open PySem PySem.Spec PyProof.Rows
section
variable {X : Cx} {scope : Scope} {tn cn : List Str} {js : List Nat} {tg iter elt : Expr} {ifs : List Expr} {pos spos pos' : Pos} {wi : TI} {g : TG} {tt : TT} {te : TE}
/-- name = [.. for ..]: the store comes before the block's own names go -/
theorem ps_setC {i : Nat} {x : Str} (hN : X.N.Nodup) (hi : X.N[i]? = some x) (hx : X.env.scope.names.lookup x = some .local) (hc : X.calm = true) (S : CompSc X scope tn cn js) (hI : PI X tg iter wi)
    (hg : ∀ C s₂ H₂ fp, PG (compX X scope (tn ++ cn) C s₂ H₂ fp) tg g) (ht : ∀ C s₂ H₂ fp, PTs (compX X scope (tn ++ cn) C s₂ H₂ fp) ifs tt) (he : ∀ C s₂ H₂ fp, PE (compX X scope (tn ++ cn) C s₂ H₂ fp) elt te)
    (hsw : swapsWith (.ListComp elt [⟨tg, iter, ifs, 0⟩] scope pos) (some (.Name x pos')) spos.line X.env = pure true := by rfl)
    (hs : ∀ x, foldedSetIterable iter X.env x = pure x := by intro _; rfl) :
    PS X (.Assign [.Name x pos'] (.ListComp elt [⟨tg, iter, ifs, 0⟩] scope pos) spos) (tAsg (tComp wi g tt te tn.length js) (gName i)) := by
  intro pins s σ H D I h
  rw [exec_Assign_Name_used _ _ _ _ hsw]
  refine wpAny_bind (wpAny_standAt (wpAny_bind ?_))
  show wpAny _ X.A (do let _ ← comprehension (.ListComp elt [⟨tg, iter, ifs, 0⟩] scope pos) scope X.env _ (newList []) false (eval iter X.env) (some (assign (.Name x pos') X.env))) _ _ s
  refine wpAny_bind (wpAny_mono (wpAny_comprehension_free (use := some (assign (.Name x pos') X.env)) (Q := fun _ s' => SP X pins D .next s') (cl := closL X.env.cells scope.names []) rfl hs (closureFor_eq (S.clos I.ok)) S.kind S.names
    (thn (hI pins s σ H _ I h) fun v s1 h1 => thn h1 fun itv s2 h2 => ?_)) (fun _ s' hq => wpAny_pure (wpAny_pure hq)) fun _ _ e => e)
  obtain ⟨it, fp, tnx, J, H2, e, I2, T, st2, f2, W, ⟨m0, w0⟩, turn⟩ := h2
  subst e
  refine comp_block (RR := fun acc C => compPost (model X.prog X.w) X.A X.xe (some (assign (.Name x pos') X.env)) (fun _ s' => SP X pins D .next s') acc C) (W := W) (m0 := m0) hc S hg ht he I2 T st2 f2 w0 fun i' m ys H w => ?_
  rcases turn i' m ys H w with ⟨stop, qn⟩ | r
  · refine .inl ⟨stop, fun C D' s its n σ' hC hD hDC hv hz I' => ?_⟩
    obtain ⟨m', hn, _⟩ := id I'.loc
    have pd := I'.pin (D', { cls := .type "list", data := .seq its.toArray n }) (List.mem_append_right _ List.mem_cons_self)
    have hCf : H C = none := I'.free
    have I1 : Inv X pins σ (upd H D' (.lst ys)) { s with heap := s.heap } := comp_end S I2 hC hD hDC f2 I' hv hz (Heap.SameBut.refl _ _)
    show wpAny _ X.A (assign (.Name x pos') X.env (.ref D')) _ _ _
    have hlC : X.env.locals ≠ C := fun z => absurd (z ▸ I2.lt) (Nat.not_lt.mpr hC)
    have hcC : ∀ y c, X.env.cells.lookup y = some c → c ≠ C := fun y c e z => by
      obtain ⟨v', o', q, _⟩ := I2.cell y c e
      exact absurd (Heap.lt_size q) (Nat.not_lt.mpr (z ▸ hC))
    refine wpAny_assign_Name (store_ok2 I1 hN hi (.inl hx) (v := .ref D') rfl (fun s3 I3 ⟨a, hsb, ha⟩ => ?_) (.inr hx))
    have hCa : C ≠ a := by
      rcases ha with rfl | ha
      · exact Ne.symm hlC
      · exact Ne.symm (hcC _ _ ha)
    refine ⟨m', hn.sameBut hsb hCa, fun h' hs' => ?_⟩
    have hCn : upd H D' (.lst ys) C = none := by rw [upd_ne (Ne.symm hDC)]; exact hCf
    have I4 : Inv X pins (σ.set i (some (.ref D'))) (upd H D' (.lst ys)) { s3 with heap := h', toks := s3.toks } := I3.turned (it := C) (fun b o hb e => (hs'.2 b hb).trans e) hCn (Ne.symm hlC) (.inr (Nat.le_trans (Nat.le_trans I2.ok.above (Nat.le_of_lt I2.lt)) hC)) (fun y c e => hcC y c e) fun p hp z => by
      have := (I2.pin p hp).1
      exact absurd (Heap.lt_size this) (Nat.not_lt.mpr (z ▸ hC))
    exact ⟨_, _, I4, qn D' pd.2.1⟩
  · exact .inr r
end
end L2

namespace DL
open PySem PySem.Spec L2 PyProof.Rows
/-! ### ints of any sign, up to some thousand bits -/
def Wd (i : Int) : Prop := i.natAbs < 2 ^ 8000
instance (i : Int) : Decidable (Wd i) := by unfold Wd; infer_instance
def CMulW (i j : Int) : Prop := (Wd i ∧ Wd j) ∨ CMul i j
instance (i j : Int) : Decidable (CMulW i j) := by unfold CMulW; infer_instance
def CDivW (_ j : Int) : Prop := j ≠ 0 ∧ Wd j
instance (i j : Int) : Decidable (CDivW i j) := by unfold CDivW; infer_instance
instance (i j : Int) : Decidable (CPow i j) := by unfold CPow; infer_instance
theorem wd_log {i : Int} (h : Wd i) (h0 : i ≠ 0) : i.natAbs.log2 < 8000 := (Nat.log2_lt (by omega)).mpr h
theorem CMulW.ok {i j : Int} (h : CMulW i j) : IntMulOk i j := by
  rcases h with ⟨h1, h2⟩ | h
  · have bits : ∀ {a : Int}, Wd a → Builtin.Int.intBits a ≤ 2 ^ 20 := fun {a} ha => by
      unfold Builtin.Int.intBits
      by_cases h0 : a = 0
      · subst h0; decide
      · have := wd_log ha h0
        have e : (2 : Nat) ^ 20 = 1048576 := by decide
        rw [e]
        split <;> omega
    exact .of_bits (bits h1) (bits h2)
  · exact h.ok
section
variable {X : Cx} {cA : Kn}
theorem op_mulW : OpR X (binaryOp .Mult) (rI CMulW fun i j => .int (i * j)) := opI fun _ _ _ _ _ _ _ hc q => mul_int q hc.ok
theorem op_fdivW : OpR X (binaryOp .FloorDiv) (rI CDivW fun i j => .int (i.fdiv j)) := opI fun _ _ _ _ _ _ _ hc q => floordiv_int hc.1 q (.inl (PyProof.noPylong_of_log2 (Nat.lt_trans (wd_log hc.2 hc.1) (by decide))))
def mulW : D → D → Option D
  | .int i, .int j => if CMulW i j then some (.int (i * j)) else none
  | _, _ => none
def fdivW : D → D → Option D
  | .int i, .int j => if CDivW i j then some (.int (i.fdiv j)) else none
  | _, _ => none
def modW : D → D → Option D
  | .int i, .int j => if j ≠ 0 then some (.int (i.fmod j)) else none
  | _, _ => none
def powW : D → D → Option D
  | .int i, .int j => if CPow i j then some (.int (i ^ j.toNat)) else none
  | _, _ => none
theorem ok_rI {C : Int → Int → Prop} [∀ i j, Decidable (C i j)] {g : Int → Int → Int} {f : D → D → Option D} (hf : ∀ x y d, f x y = some d → ∃ i j, x = .int i ∧ y = .int j ∧ C i j ∧ d = .int (g i j)) : OpOk cA (rI C fun i j => .int (g i j)) f := fun t t' i H x y vx vy d _ hx hy e Q k => by
  obtain ⟨a, b, rfl, rfl, hc, rfl⟩ := hf x y d e
  cases (show vx = _ from hx); cases (show vy = _ from hy)
  exact ⟨_, _, rfl, rfl, hc, k _ H (Same.refl H) rfl⟩
theorem ok_mulW : OpOk cA (rI CMulW fun i j => .int (i * j)) mulW := ok_rI fun x y d e => by
  cases x <;> cases y <;> first | (cases e; done) | skip
  rename_i a b
  dsimp only [mulW] at e
  by_cases hz : CMulW a b
  · rw [if_pos hz] at e; cases e; exact ⟨_, _, rfl, rfl, hz, rfl⟩
  · rw [if_neg hz] at e; cases e
theorem ok_fdivW : OpOk cA (rI CDivW fun i j => .int (i.fdiv j)) fdivW := ok_rI fun x y d e => by
  cases x <;> cases y <;> first | (cases e; done) | skip
  rename_i a b
  dsimp only [fdivW] at e
  by_cases hz : CDivW a b
  · rw [if_pos hz] at e; cases e; exact ⟨_, _, rfl, rfl, hz, rfl⟩
  · rw [if_neg hz] at e; cases e
theorem ok_modW : OpOk cA (rI (fun _ j => j ≠ 0) fun i j => .int (i.fmod j)) modW := ok_rI fun x y d e => by
  cases x <;> cases y <;> first | (cases e; done) | skip
  rename_i a b
  dsimp only [modW] at e
  by_cases hz : b ≠ 0
  · rw [if_pos hz] at e; cases e; exact ⟨_, _, rfl, rfl, hz, rfl⟩
  · rw [if_neg hz] at e; cases e
theorem ok_powW : OpOk cA (rI CPow fun i j => .int (i ^ j.toNat)) powW := ok_rI fun x y d e => by
  cases x <;> cases y <;> first | (cases e; done) | skip
  rename_i a b
  dsimp only [powW] at e
  by_cases hz : CPow a b
  · rw [if_pos hz] at e; cases e; exact ⟨_, _, rfl, rfl, hz, rfl⟩
  · rw [if_neg hz] at e; cases e
/-! ### abs -/
def rAbs : List V → Hp → VK → Prop := fun xs H Q => ∃ i, xs = [.int i] ∧ Q (.int (if i < 0 then -i else i)) H
def absD : List D → Option D
  | [.int i] => some (.int (if i < 0 then -i else i))
  | _ => none
end
end DL

namespace L2
open PySem PySem.Spec PySem.W PyProof.Rows
/-! ### an exception on its way -/
def bmV : List Value := [.type "ValueError", .type "Exception", .type "BaseException", .type "object"]
/-- what is wanted of an exception that is made here -/
def RaiseOk (X : Cx) (E : XK) (C : Addr) : Prop := ∀ (pins : List (Addr × Obj)) (σ : St) (H : Hp) (s : Shared) (h' : Heap) (e : Addr) (us : List Value), Inv X pins σ H s → Heap.MadeExcOf s.heap h' e (.ref C) us → E (.ref C) none H → X.xe (.ref e) { s with heap := h' }
def tRaise (E : XK) (C : Addr) (t : TA) : TS := fun _ σ H => t σ H fun vs H1 => vs.length ≤ 8 ∧ E (.ref C) none H1
section
variable {X : Cx} {E : XK} {C : Addr} {x : Str} {p cpos pos : Pos} {e : Expr} {es : List Expr} {t : TA}
end
/-! ### how it lies behind a call -/
def CX1 (P : Program) (w : World) : CXT := fun outer H s E ev s' => ∃ (ea : Addr) (cls a0 : Value) (B : Heap) (H' : Hp), ev = .ref ea ∧ s'.os = s.os ∧ AllBare s'.gens ∧ Heap.FlyingW B outer ea cls a0 s'.heap ∧
  (∀ b o, s.heap.get? b = some o → H b = none → b ∉ frs outer → B.get? b = some o) ∧ HOk P w H' B ∧ Same H H' ∧ (∀ b o, s.heap.get? b = some o → H b = none → H' b = none) ∧ (∀ b o, s.heap.get? b = some o → b ∈ frs outer → ∃ sl, s'.heap.get? b = some { o with slots := sl }) ∧ E cls none H'
section
variable {P : Program} {w : World} {K : PySem.W.Frag} {mg : Str → Option Value} {base : Heap} {N : List Str} {qual : Str} {scope : Scope} {f : Addr} {cd : Value} {A : Around} {outer : List Env} {s : Shared} {H : Hp} {E : XK}
end
end L2

namespace L2
open PySem PySem.Spec PySem.W PyProof.Rows PySem.Calls PySem.Builtin PySem.Builtin.ObjectAttr PySem.Builtin.Getset_descriptor
/-! ### isinstance of an exception -/
def ExcAt (e : Addr) (C : Value) (hp : Heap) : Prop := ∃ o : Obj, hp.get? e = some o ∧ o.cls = C
structure ExCls (K : PySem.W.Frag) (C : Addr) : Prop where
  ex : excIn K C bmV "ValueError.__new__" = true
  ga : findIn K (.ref C) "__getattribute__" = some (some (.builtin "BaseException.__getattribute__"))
  mb : mroIn K C (.type "BaseException") = some true
  gt : findIn K (.ref C) "__getattr__" = some none
  ca : findIn K (.ref C) "__class__" = some (some (.builtin "object.__class__"))
  cg : specialIn K (.builtin "object.__class__") "__get__" = some (some (.builtin "getset_descriptor.__get__"))
  ct : takesIn K (.builtin "object.__class__") = some true
  mo : mroIn K C (.type "object") = some true
  cl : (clsIn K C).isSome = true
section
variable {P : Program} {w : World} {A : Around} {E : Value → Shared → Prop} {s : Shared} {K : PySem.W.Frag} {e C : Addr}
end
end L2

namespace L2
open PySem PySem.Spec PySem.W PyProof.Rows
/-! ### an exception is caught -/
section
variable {X : Cx} {pins : List (Addr × Obj)} {σ : St} {H H' : Hp} {s s' : Shared} {B hp : Heap} {ea : Addr} {C : Value}
end
/-- within the except suite -/
abbrev Cx.suite (X : Cx) (ea : Addr) : Cx := { X with A := X.A.mark (some (.ref ea)), calm := false, xe := fun _ _ => False }
/-- what a call that may raise does: the names are as they were -/
def PEx (X : Cx) (E : XK) (e : Expr) (t : TE) : Prop := ∀ (pins : List (Addr × Obj)) (s : Shared) (σ : St) (H : Hp) (Q : VK) (xe : Value → Shared → Prop), Inv X pins σ H s → t σ H Q →
  (∀ H2 s2 ev s', Inv X pins σ H2 s2 → CX1 X.prog X.w X.stack H2 s2 E ev s' → xe ev s') → wpAny (model X.prog X.w) X.A (eval e X.env) (EP X pins σ Q) xe s
def PSx (X : Cx) (E : XK) (st : List Stmt) (t : TS) : Prop := ∀ (pins : List (Addr × Obj)) (s : Shared) (σ : St) (H : Hp) (D : Ends) (xe : Value → Shared → Prop), Inv X pins σ H s → t D σ H →
  (∀ H2 s2 ev s', Inv X pins σ H2 s2 → CX1 X.prog X.w X.stack H2 s2 E ev s' → xe ev s') → wpAny (model X.prog X.w) X.A (execs st X.env) (SP X pins D) xe s
section
variable {X : Cx} {E : XK}
end
end L2

namespace L2
open PySem PySem.Spec PySem.W PyProof.Rows
def endsOff (i : Nat) (D : Ends) : Ends := { nx := fun σ H => D.nx (σ.set i none) H, rt := D.rt, bk := fun σ H => D.bk (σ.set i none) H, ct := fun σ H => D.ct (σ.set i none) H }
/-- try: .. except G as n: .. -/
def tTry (K : PySem.W.Frag) (G : Addr) (i : Nat) (tb : XK → TS) (ts : Addr → Addr → TS) : TS := fun D σ H => ∃ E : XK, tb E D σ H ∧ ∀ cls H', E cls none H' → ∃ C, cls = .ref C ∧ ExCls K C ∧ exmOne K (.ref C) (.ref G) = some true ∧
  ∀ ea, H' ea = none → ts C ea (endsOff i D) (σ.set i (some (.ref ea))) (upd H' ea (.ext (ExcAt ea (.ref C))))
section
variable {X : Cx} {G : Addr} {g n : Str} {i : Nat} {body suite : List Stmt} {b₀ : Stmt} {gp hpos pos : Pos} {tb : XK → TS} {ts : Addr → Addr → TS}
end
end L2

namespace DL
open PySem PySem.Spec L2
/-! ### defs that may raise, as data -/
/-- m: what is told; x: the class that is raised -/
def spX (cA : Kn) (n : Nat) (m : List D → Option D) (x : List D → Option String) : Sp := fun vs H Q E => spD cA n m vs H Q E ∨
  ∃ (av : Addr → Prop) (ds : List D) (c : String), (∀ a, av a → H a ≠ none) ∧ RepL cA av H ds vs ∧ ds.length = n ∧ x ds = some c ∧ ∀ H', Same H H' → E (.ref (cA.c c)) none H'
def runX (N : Nat) (χ : Env → Option String) (ds : List D) : Option String := χ (ds.map some ++ List.replicate (N - ds.length) none)
/-- a statement that raises -/
def VX (G : Cn) (ow : List Nat) (E : XK) (ts : TS) (χ : Env → Option String) : Prop :=
  ∀ H0 av A σ H δ, ER G ow H0 av A σ H δ → ∀ c, χ δ = some c → (∀ H', Same H0 H' → E (.ref (G.1.c c)) none H') → ∀ De : Ends, ts De σ H
/-- an expression that raises; a statement that raises and has changed nothing ahead of it -/
def VXe (G : Cn) (ow : List Nat) (E : XK) (te : TE) (χ : Env → Option String) : Prop :=
  ∀ H0 av A σ H δ, ER G ow H0 av A σ H δ → ∀ c, χ δ = some c → (∀ H', Same H H' → E (.ref (G.1.c c)) none H') → ∀ Q : VK, te σ H Q
def VXs (G : Cn) (ow : List Nat) (E : XK) (ts : TS) (χ : Env → Option String) : Prop :=
  ∀ H0 av A σ H δ, ER G ow H0 av A σ H δ → ∀ c, χ δ = some c → (∀ H', Same H H' → E (.ref (G.1.c c)) none H') → ∀ De : Ends, ts De σ H
section
variable {cA : Kn} {G : Cn} {ow ow1 owB owC owN : List Nat} {E : XK}
def xNever (_ : Env) : Option String := none
def xRaise (c : String) (α : Env → Option (List D)) (δ : Env) : Option String := match α δ with
  | some ds => if ds.length ≤ 8 then some c else none
  | none => none
def xIf (τ : Env → Option Bool) (χ ψ : Env → Option String) (δ : Env) : Option String := match τ δ with
  | some true => χ δ
  | some false => ψ δ
  | none => none
/-- a row of statements: the first raises, or the others do behind it -/
def xSeq (χ : Env → Option String) (φ : Env → Option Out) (ψ : Env → Option String) (δ : Env) : Option String := match χ δ with
  | some c => some c
  | none => match φ δ with
    | some (.nx δ1) => ψ δ1
    | _ => none
def xCall (n : Nat) (x : List D → Option String) (dds : List D) (α : Env → Option (List D)) (δ : Env) : Option String := match α δ with
  | some ds => if (ds ++ dds).length = n then x (ds ++ dds) else none
  | none => none
end
section
variable {P : Program} {w : World} {K : PySem.W.Frag} {mg : Str → Option Value} {base : Heap} {cA : Kn}
end
end DL

namespace DL
open PySem PySem.Spec L2
/-! ### try, and in the suite r = [isinstance(e, ..), ..] -/
def rIsiE (K : PySem.W.Frag) (e C : Addr) : List V → Hp → VK → Prop := fun xs H Q => ∃ c cv b, xs = [.ref e, c] ∧ (∀ v, RelV c v → v = cv) ∧ H e = some (.ext (ExcAt e (.ref C))) ∧ PySem.W.kitOne K (.ref C) cv = some b ∧ Q (.bl b) H
def tIsis (K : PySem.W.Frag) (i : Nat) (C ea : Addr) : List V → TA
  | [] => tNil
  | v :: vs => tCons (tCB (rIsiE K ea C) (tCons (tVar i) (tCons (tC v) tNil))) (tIsis K i C ea vs)
def isis (c : String) : List (List (String × Bool)) → Option (List Bool)
  | [] => some []
  | t :: r => match t.lookup c, isis c r with
    | some b, some bs => some (b :: bs)
    | _, _ => none
/-- what isinstance tells of the exceptions' classes -/
def IsiE (K : PySem.W.Frag) (cA : Kn) (v : V) (tab : List (String × Bool)) : Prop := ∀ c b, tab.lookup c = some b → ∃ cv, (∀ u, RelV v u → u = cv) ∧ PySem.W.kitOne K (.ref (cA.c c)) cv = some b
inductive IsiEs (K : PySem.W.Frag) (cA : Kn) : List V → List (List (String × Bool)) → Prop where
  | nil : IsiEs K cA [] []
  | cons {v : V} {t : List (String × Bool)} {vs : List V} {ts : List (List (String × Bool))} : IsiE K cA v t → IsiEs K cA vs ts → IsiEs K cA (v :: vs) (t :: ts)
section
variable {cA : Kn} {G : Cn} {ow owB owC : List Nat}
theorem ER.none {H0 H : Hp} {av : Addr → Prop} {A : Nat → Option Addr} {σ : L2.St} {δ : Env} {i : Nat} {x : Option V} (R : ER G ow H0 av A σ H δ) (hi : ow.contains i = false) (hn : G.2 i = Option.none) : ER G ow H0 av A (σ.set i x) H (δ.set i Option.none) :=
  ⟨R.same, R.avd, R.fr, R.inj, R.live, R.dom, R.dom', by rw [List.length_set, List.length_set]; exact R.len, R.pin, (fun j v' e => by
      have q : j ≠ i := fun z => by rw [z, hn] at e; cases e
      rw [List.getElem?_set_ne (Ne.symm q)]; exact R.kept j v' e), fun j d e => by
    have hj : j ≠ i := by
      intro z
      subst z
      by_cases hl : j < δ.length
      · rw [List.getElem?_set_self hl] at e; cases e
      · rw [List.getElem?_eq_none (by rw [List.length_set]; omega)] at e; cases e
    rw [List.getElem?_set_ne (Ne.symm hj)] at e
    obtain ⟨v, h1, h2⟩ := R.var j d e
    exact ⟨v, by rw [List.getElem?_set_ne (Ne.symm hj)]; exact h1, h2⟩⟩
def sTry (φb : Env → Option Out) (χb : Env → Option String) (cl : List String) (i r : Nat) (tabs : List (List (String × Bool))) (δ : Env) : Option Out := match χb δ with
  | some c => if cl.contains c = true ∧ i < δ.length then (match isis c tabs with
    | some bs => if bs.length ≤ 1000 then some (.nx ((δ.set r (some (.lst (bs.map D.bl)))).set i none)) else none
    | none => none) else none
  | none => φb δ
end
end DL

namespace L2
open PySem PySem.Spec PyProof.Rows
section
variable {X : Cx}
/-! ### lists of any kind, put together and repeated -/
def rCatS (K : PySem.W.Frag) : R2 := fun x y H Q => ∃ l b xs zs, x = .ref l ∧ y = .ref b ∧ SqL K H l xs ∧ SqL K H b zs ∧ xs.length + zs.length ≤ sizeLine ∧ ∀ p, H p = none → Q (.ref p) (upd H p (.lst (xs ++ zs)))
def rRepS (K : PySem.W.Frag) : R2 := fun x y H Q => ∃ l k xs, x = .ref l ∧ y = .int k ∧ SqL K H l xs ∧ -(2 ^ 63) ≤ k ∧ k < 2 ^ 63 ∧ xs.length * k.toNat ≤ sizeLine ∧ ∀ p, H p = none → Q (.ref p) (upd H p (.lst (List.replicate k.toNat xs).flatten))
def rAddZ (K : PySem.W.Frag) : R2 := fun x y H Q => rI0 (fun i j => .int (i + j)) x y H Q ∨ rAddS x y H Q ∨ rCatS K x y H Q
def rMulZ (K : PySem.W.Frag) : R2 := fun x y H Q => rI DL.CMulW (fun i j => .int (i * j)) x y H Q ∨ DL.rMulS x y H Q ∨ rRepS K x y H Q
end
end L2
namespace DL
open PySem PySem.Spec L2
section
variable {cA : Kn} {G : Cn} {ow owB owC : List Nat}
def addX : D → D → Option D
  | .lst a, .lst b => if a.length + b.length ≤ sizeLine then some (.lst (a ++ b)) else none
  | x, y => addD x y
def mulX : D → D → Option D
  | .int i, .int j => if CMulW i j then some (.int (i * j)) else none
  | .str a, .int n => if n < 2 ^ 63 ∧ -(2 ^ 63) ≤ n ∧ a.length * n.toNat ≤ sizeLine then some (.str (mulL a n)) else none
  | .lst a, .int n => if n < 2 ^ 63 ∧ -(2 ^ 63) ≤ n ∧ a.length * n.toNat ≤ sizeLine then some (.lst (List.replicate n.toNat a).flatten) else none
  | _, _ => none
/-! ### xs[k] = v, xs the name's own -/
def sSetI (i : Nat) (κ ε : Env → Option D) (δ : Env) : Option Out := match ε δ with
  | some d => match eVar i δ with
    | some (.lst xs) => match κ δ with
      | some (.int k) => match ixN xs.length k with
        | some j => some (.nx (δ.set i (some (.lst (xs.set j d)))))
        | none => none
      | _ => none
    | _ => none
  | none => none
theorem vs_setI {te ti : TE} {q : Ql} {ε κ : Env → Option D} (i : Nat) (hi : ow.contains i = true) (h : VE G ow te .cl ε) (hk : VE G ow ti q κ) : VS G ow ow owB owC (tAsg te (gSub (tVar i) ti rSetL)) (sSetI i κ ε) := fun H0 av A σ H δ E o e De k => by
  unfold sSetI at e
  cases he : ε δ with
  | none => rw [he] at e; cases e
  | some d =>
    rw [he] at e
    dsimp only at e
    cases hv : eVar i δ with
    | none => rw [hv] at e; cases e
    | some x =>
      rw [hv] at e
      cases x <;> first | (cases e; done) | skip
      rename_i xs
      dsimp only at e
      cases hq : κ δ with
      | none => rw [hq] at e; cases e
      | some y =>
        rw [hq] at e
        cases y <;> first | (cases e; done) | skip
        rename_i n
        dsimp only at e
        cases hj : ixN xs.length n with
        | none => rw [hj] at e; cases e
        | some j =>
          rw [hj] at e
          cases e
          have hi' : i ∈ ow := by simpa using hi
          cases hA : A i with
          | none => exact absurd hA (E.dom' i hi')
          | some a =>
            refine h H0 av A σ H δ E d he _ fun v H1 s1 r1 => ?_
            have E1 := E.mono s1
            obtain ⟨v0, h1, _, h3⟩ := E1.var i _ (eVar_some hv)
            obtain ⟨rfl, vs, q1, q2⟩ := h3 a hA
            refine ⟨_, h1, hk H0 av A σ H1 δ E1 _ hq _ fun y H2 s2 r2 => ?_⟩
            have ey : y = .int n := r2.any
            subst ey
            have E2 := E1.mono s2
            have q1' := s2 _ _ q1
            refine ⟨a, vs, n, j, rfl, rfl, q1', by rw [← q2.length]; exact hj, k A σ _ (E2.put hA (eVar_some hv) (fun b o hb e => by rw [upd_ne hb]; exact e) (by rw [upd_same]; exact fun z => by cases z) ⟨_, upd_same, ?_⟩)⟩
            have ex : ∀ b o, ¬ AV av A b → H2 b = some o → upd H2 a (.lst (vs.set j v)) b = some o := fun b o nb e => by
              rw [upd_ne fun z => nb (.inr ⟨i, by rw [z]; exact hA⟩)]
              exact e
            exact (((q2.same s2).set ((RepT.r r1).same s2) j)).ext ex
end
end DL
namespace L2
open PySem PySem.W
theorem cls_of_exc {K : PySem.W.Frag} {C : Addr} {tlB : List Value} {nid : String} (q0 : excIn K C tlB nid = true) : (clsIn K C).isSome = true := by
  unfold excIn at q0
  split at q0
  · rename_i look0
    unfold clsIn
    rw [look0]
    rfl
  · cases q0
theorem ExCls.of {K : PySem.W.Frag} {C : Addr} (ex : excIn K C bmV "ValueError.__new__" = true) (ga : findIn K (.ref C) "__getattribute__" = some (some (.builtin "BaseException.__getattribute__"))) (mb : mroIn K C (.type "BaseException") = some true) (gt : findIn K (.ref C) "__getattr__" = some none) (ca : findIn K (.ref C) "__class__" = some (some (.builtin "object.__class__")))
    (cg : specialIn K (.builtin "object.__class__") "__get__" = some (some (.builtin "getset_descriptor.__get__"))) (ct : takesIn K (.builtin "object.__class__") = some true) (mo : mroIn K C (.type "object") = some true) : ExCls K C := ⟨ex, ga, mb, gt, ca, cg, ct, mo, cls_of_exc ex⟩
end L2
namespace DL
open L2
theorem VX.frz {G : Cn} {ow ow1 : List Nat} {E : XK} {t : TS} {χ : Env → Option String} (i : Nat) (h : VX G ow1 E t χ) (hn : G.2 i = none) (h1 : sub ow1 ow = true) (h2 : ow1.contains i = false) (h3 : sub ow (i :: ow1) = true) : VX G ow E t χ := fun H0 av A σ H δ R c e k De =>
  h H0 av _ σ H δ (R.freeze i (mem_minus h1 h2 h3) hn) c e k De
end DL
namespace L2
open PySem
end L2
namespace L2
open PySem
/-- a block within a block that takes no name from it -/
theorem CompSc.mk3 {X : Cx} {scope : Scope} {tn : List Str} (hk : scope.kind = .function) (h : compScB [] [] scope.names [] [] = true) : CompSc X scope tn [] [] := by
  refine CompSc.mk' (osc := X.env.scope) (oN := X.N) hk rfl rfl ?_
  unfold compScB at h ⊢
  simp only [Bool.and_eq_true, List.all_eq_true] at h ⊢
  obtain ⟨⟨⟨⟨h1, h2⟩, h3⟩, h4⟩, h5⟩ := h
  refine ⟨⟨⟨⟨h1, h2⟩, fun y hy => ?_⟩, fun y hy => ?_⟩, h5⟩
  · have := h3 y hy
    simp only [List.lookup_nil] at this
    cases hb : (y.2 == NameKind.free) with
    | false => rfl
    | true => rw [hb] at this; simp at this
  · cases hy
end L2

namespace L2
open PySem PySem.Spec PySem.W PyProof.Rows
/-! ### f'..' -/
def repL (cs : List Nat) : List Nat := (reprText (tx cs)).cps.toList
section
variable {X : Cx} {e : Expr} {te : TE} {pos : Pos}
def tFmtR (te : TE) : TE := fun σ H Q => te σ H fun v H1 => ∃ cs, v = S cs ∧ (repL cs).length ≤ sizeLine ∧ Q (S (repL cs)) H1
def tFmtP (te : TE) : TE := fun σ H Q => te σ H fun v H1 => (∃ cs, v = S cs ∧ cs.length ≤ sizeLine ∧ Q (S cs) H1) ∨ ∃ n : Nat, v = .int n ∧ n < 10 ^ 10 ∧ Q (S (figs n)) H1
inductive PJ (X : Cx) : List Expr → List TE → Prop where
  | nil : PJ X [] []
  | cons {e : Expr} {es : List Expr} {t : TE} {ts : List TE} : PE X e t → PJ X es ts → PJ X (e :: es) (t :: ts)
def tJs : List TE → List Nat → L2.St → Hp → (List Nat → Hp → Prop) → Prop
  | [], acc, _, H, Q => Q acc H
  | t :: r, acc, σ, H, Q => t σ H fun v H1 => ∃ cs, v = S cs ∧ (acc ++ cs).length ≤ sizeLine ∧ tJs r (acc ++ cs) σ H1 Q
def tJoin (ts : List TE) : TE := fun σ H Q => tJs ts [] σ H fun cs H1 => Q (S cs) H1
end
end L2
namespace DL
open PySem PySem.Spec L2
def fmtR : D → Option D
  | .str cs => if cs.length ≤ 1000 ∧ cs.all (fun c => decide (c < 65536)) = true then some (.str (repL cs)) else none
  | _ => none
def fmtP : D → Option D
  | .str cs => if cs.length ≤ sizeLine then some (.str cs) else none
  | .int n => if 0 ≤ n ∧ n < 10 ^ 10 then some (.str (figs n.toNat)) else none
  | _ => none
def eFmt (f : D → Option D) (a : Env → Option D) (δ : Env) : Option D := match a δ with
  | some d => f d
  | none => none
section
variable {G : Cn} {ow : List Nat}
inductive VJ (G : Cn) (ow : List Nat) : List TE → List (Env → Option D) → Prop where
  | nil : VJ G ow [] []
  | cons {t : TE} {a : Env → Option D} {ts : List TE} {as : List (Env → Option D)} : VE G ow t .cl a → VJ G ow ts as → VJ G ow (t :: ts) (a :: as)
def xJs : List (Env → Option D) → List Nat → Env → Option (List Nat)
  | [], acc, _ => some acc
  | a :: r, acc, δ => match a δ with
    | some (.str cs) => if (acc ++ cs).length ≤ sizeLine then xJs r (acc ++ cs) δ else none
    | _ => none
def eJoin (as : List (Env → Option D)) (δ : Env) : Option D := match xJs as [] δ with
  | some cs => some (.str cs)
  | none => none
end
end DL

namespace L2
open PySem PySem.Spec PySem.W PyProof.Rows
section
variable {X : Cx} {E : XK}
end
end L2
namespace DL
open PySem PySem.Spec L2
/-! ### o.m(..) that may raise -/
abbrev XTab := List (String × (Nat × (List D → Option D) × (List D → Option String)))
structure MethOkX (X : Cx) (cA : Kn) (k : Nat) (m : String) (c : String) (n : Nat) (mm : List D → Option D) (xm : List D → Option String) : Prop where
  ex : ∃ f fd ps, Cls X.K (cA.c c) ∧ Meth X.K (cA.c c) (Str.ofString m) f ∧ FnOk X.prog X.w X.K X.mg X.base (CX1 X.prog X.w) k f fd ps (spX cA n mm xm) ∧ Binds X.K fd ps []
def MTOkX (X : Cx) (cA : Kn) (k : Nat) (m : String) : XTab → Prop
  | [] => True
  | (c, n, mm, xm) :: r => MethOkX X cA k m c n mm xm ∧ MTOkX X cA k m r
def tMethX (cA : Kn) (m : String) (tab : XTab) (E : XK) (ta : TE) (t : TA) : TE := fun σ H Q => ta σ H fun x H1 => ∃ a dx fs c n mm xm, x = .ref a ∧ H1 a = some (.ins (cA.c c) dx fs) ∧ fs.lookup (Str.ofString m) = none ∧ tab.lookup c = some (n, mm, xm) ∧ t σ H1 fun vs H2 => spX cA n mm xm (x :: vs) H2 Q E
section
variable {X : Cx} {cA : Kn} {k : Nat} {m : String} {tab : XTab} {o e : Expr} {es : List Expr} {ta : TE} {t : TA} {pos apos : Pos} {pl : Sem Bool} {E : XK}
end
section
variable {cA : Kn} {G : Cn} {ow ow1 owB owC owN : List Nat} {E : XK}
def eMethX (m : String) (tab : XTab) (a : Env → Option D) (α : Env → Option (List D)) (δ : Env) : Option D := match a δ with
  | some (.obj c ks xs) => if ks.contains m then none else (match tab.lookup c with
    | some (n, mm, _) => match α δ with
      | some ds => if (D.obj c ks xs :: ds).length = n then mm (.obj c ks xs :: ds) else none
      | none => none
    | none => none)
  | _ => none
def xMeth (m : String) (tab : XTab) (a : Env → Option D) (α : Env → Option (List D)) (δ : Env) : Option String := match a δ with
  | some (.obj c ks xs) => if ks.contains m then none else (match tab.lookup c with
    | some (n, _, xm) => match α δ with
      | some ds => if (D.obj c ks xs :: ds).length = n then xm (.obj c ks xs :: ds) else none
      | none => none
    | none => none)
  | _ => none
/-! ### for, in a def that may raise -/
def forX (γ : D → Env → Option Env) (φ : Env → Option Out) (χ : Env → Option String) : List D → Env → Option String
  | [], _ => none
  | x :: r, δ => match γ x δ with
    | none => none
    | some δ1 => match χ δ1 with
      | some c => some c
      | none => match φ δ1 with
        | some (.nx δ2) => forX γ φ χ r δ2
        | some (.ct δ2) => forX γ φ χ r δ2
        | _ => none
def xFor (ι : Env → Option (List D)) (γ : D → Env → Option Env) (φ : Env → Option Out) (χ : Env → Option String) (δ : Env) : Option String := match ι δ with
  | some xs => forX γ φ χ xs δ
  | none => none
end
end DL

namespace L2
open PySem PySem.Spec PySem.W PyProof.Rows
/-! ### list(a text) -/
theorem signs_vals : ∀ (cs : List Nat) (its : List Value), its.length = cs.length → (∀ (j : Nat) (v : Value), its[j]? = some v → ∃ (c : Nat) (u : Tok), cs[j]? = some c ∧ v = Value.str ⟨#[c]⟩ u) → Vals (cs.map fun c => S [c]) its
  | [], [], _, _ => .nil
  | c :: cs, [], h, _ => by simp at h
  | [], v :: its, h, _ => by simp at h
  | c :: cs, v :: its, h, k => by
    refine .cons ?_ (signs_vals cs its (by simpa using h) fun j v hj => by simpa using k (j + 1) v (by simpa using hj))
    obtain ⟨c', u, e1, e2⟩ := k 0 v rfl
    cases e1
    exact ⟨u, e2⟩
def rLstX (K : PySem.W.Frag) : List V → Hp → VK → Prop := fun xs H Q => rLstOf K xs H Q ∨ ∃ cs, xs = [S cs] ∧ cs.length ≤ sizeLine ∧ ∀ l, H l = none → Q (.ref l) (upd H l (.lst (cs.map fun c => S [c])))
theorem call_listX {X : Cx} {K : PySem.W.Frag} (hc : X.calm = true := by rfl) (hK : X.K = K := by rfl) : CallR X (.type "list") (rLstX K) := by
  subst hK
  intro pins s σ H xs us Q I r h
  rcases h with h | ⟨cs, rfl, hz, q⟩
  · exact call_list_of pins s σ H xs us Q I r h
  · obtain ⟨u, rfl, rx⟩ := vals1 r
    obtain ⟨t, rfl⟩ := rx
    refine call_list_str (I.ok.hd hc) (tx cs) t (fun h' tk acc' c' kp e hi => ?_) (by simpa using hz)
    have hv : Vals (cs.map fun c => S [c]) acc'.toList := signs_vals cs _ (by simpa using hi.1) fun j v hj => by
      obtain ⟨c, u, e1, e2⟩ := hi.2 j v (by simpa using hj)
      exact ⟨c, u, by simpa using e1, e2⟩
    exact ⟨.ref s.heap.objs.size, _, I.laid (t' := tk) kp (Nat.le_refl _) (show ObjOk X.prog X.w _ h' _ (.lst _) from ⟨by rw [List.length_map]; exact hz, acc'.toList, c', hv, e⟩), rfl, q _ (I.hok.fresh (Nat.le_refl _))⟩
end L2
namespace DL
open PySem PySem.Spec L2
def listX : List D → Option D
  | [.str cs] => if cs.length ≤ sizeLine then some (.lst (cs.map fun c => .str [c])) else none
  | ds => listD ds
section
variable {G : Cn} {ow : List Nat}
theorem repL_signs {cA : Kn} {av : Addr → Prop} {H : Hp} : ∀ cs : List Nat, RepL cA av H (cs.map fun c => D.str [c]) (cs.map fun c => S [c])
  | [] => .nil
  | c :: cs => .cons rfl (repL_signs cs)
theorem vf_listX {t : TA} {q : Ql} {α : Env → Option (List D)} (hq : q = .cl ∨ q = .tp) (h : VA G ow t q α) : VF G ow (tCB (rLstX G.1.K) t) (eCB listX α) := fun H0 av A σ H δ E d e Q k => by
  unfold eCB at e
  cases he : α δ with
  | none => rw [he] at e; cases e
  | some ds =>
    rw [he] at e
    replace e : listX ds = some d := e
    unfold listX at e
    split at e
    · rename_i cs
      by_cases hz : cs.length ≤ sizeLine
      · rw [if_pos hz] at e
        cases e
        refine h H0 av A σ H δ E _ he _ fun vs H1 s1 r1 => ?_
        have il : RepIL G.1 (AV av A) H1 [.str cs] vs := by
          rcases hq with rfl | rfl <;> exact r1.il
        obtain ⟨v, t, rfl, hx⟩ := il1 il
        cases (show v = _ from hx)
        exact .inr ⟨cs, rfl, hz, fun p hp => k p _ _ H1 s1 hp (repL_signs cs) rfl⟩
      · rw [if_neg hz] at e; cases e
    · exact h H0 av A σ H δ E _ he _ fun vs H1 s1 r1 => by
        have il : RepIL G.1 (AV av A) H1 ds vs := by
          rcases hq with rfl | rfl <;> exact r1.il
        refine .inl ?_
        unfold listD at e
        split at e
        · rename_i xs
          cases e
          obtain ⟨v, t, rfl, a, ws, rfl, _, rd, l⟩ := il1 il
          exact ⟨a, ws, rfl, .inl rd, fun p hp => k p ws _ H1 s1 hp l rfl⟩
        · rename_i xs
          cases e
          obtain ⟨v, t, rfl, a, ws, rfl, _, rd, l⟩ := il1 il
          exact ⟨a, ws, rfl, .inr (SqT.of rd), fun p hp => k p ws _ H1 s1 hp l rfl⟩
        · cases e
end
end DL

namespace L2
open PySem PySem.Spec PyProof.Rows
/-! ### zip of two lists -/
def Itz (K : PySem.W.Frag) (l1 l2 : Addr) : It :=
  ⟨fun i H => ∃ xs ys x y, SqL K H l1 xs ∧ SqL K H l2 ys ∧ xs[i]? = some x ∧ ys[i]? = some y,
   fun i H v H' => ∃ x y p, (∀ xs, SqL K H l1 xs → xs[i]? = some x) ∧ (∀ ys, SqL K H l2 ys → ys[i]? = some y) ∧ H p = none ∧ v = .ref p ∧ H' = upd H p (.tup [x, y]),
   fun i H => ∃ xs ys, SqL K H l1 xs ∧ SqL K H l2 ys ∧ (xs.length ≤ i ∨ ys.length ≤ i)⟩
theorem turn_zip {P : Program} {w : World} {K : PySem.W.Frag} {elts : List Expr} {x1 : Nat} {tpos : Pos} (n l1 l2 : Nat) (hl1 : l1 < n) (hl2 : l2 < n) :
    Turn P w K (.Tuple elts x1 tpos) (Itz K l1 l2) [n + 4, n + 2, n + 3, n, n + 1] (n + 4) (fun i h => IsZip h (n + 4) (n + 2) (n + 3) .none ∧ IsPair h (n + 2) (.ref n) (.ref (n + 1)) ∧ (∃ a b, IsPair h (n + 3) a b) ∧ h.IsListIter n l1 i ∧ h.IsListIter (n + 1) l2 i) where
  mem := by simp
  obj := fun i h st b hb => by
    obtain ⟨hz, hTI, ⟨a, b', hTO⟩, ⟨o1, ho1, hc1, hd1⟩, ⟨o2, ho2, hc2, hd2⟩⟩ := st
    simp at hb
    rcases hb with rfl | rfl | rfl | rfl | rfl
    · exact ⟨_, hz, fun v z => by
        have z' : Data.fields _ = Data.cell v := z
        cases z'⟩
    · exact ⟨_, hTI, fun v z => by
        have z' : Data.seq _ _ = Data.cell v := z
        cases z'⟩
    · exact ⟨_, hTO, fun v z => by
        have z' : Data.seq _ _ = Data.cell v := z
        cases z'⟩
    · exact ⟨o1, ho1, fun v z => by rw [hd1] at z; cases z⟩
    · exact ⟨o2, ho2, fun v z => by rw [hd2] at z; cases z⟩
  keep := fun i h h' st k => by
    obtain ⟨hz, hTI, ⟨a, b', hTO⟩, h1, h2⟩ := st
    exact ⟨k _ (by simp) _ hz, k _ (by simp) _ hTI, ⟨a, b', k _ (by simp) _ hTO⟩, h1.at fun o q => k n (by simp) o q, h2.at fun o q => k (n + 1) (by simp) o q⟩
  item := by
    intro X hP hw hK hc i pins s σ H E I hf st hg
    subst hP hw hK
    obtain ⟨hz, hTI, ⟨a, b', hTO⟩, h1, h2⟩ := st
    obtain ⟨xs, ys, x, y, hq1, hq2, hx, hy⟩ := hg
    obtain ⟨its1, rv1, p1, _⟩ := I.list hq1
    obtain ⟨its2, rv2, p2, _⟩ := I.list hq2
    obtain ⟨u, hu, ru⟩ := rv1.get hx
    obtain ⟨v, hv, rv⟩ := rv2.get hy
    have D : ZipApart (n + 4) (n + 2) (n + 3) n (n + 1) l1 l2 := zipApart_new hl1 hl2
    refine wpAny_pyNext_zip_item D hz hTI hTO h1 h2 p1.isList p2.isList (x := u) (y := v) (by simpa using hu) (by simpa using hv) fun h' a1 a2 a3 a4 a5 a6 hk => ?_
    refine ⟨_, rfl, wpAny_letOwnedTupleGo_zip a1 fun h2' hz2 hs2 => ?_⟩
    have hs2 : Heap.SameBut (n + 4) h' h2' := hs2
    have hzl : n + 4 < s.heap.objs.size := Heap.lt_size hz
    have hT2 : h2'.get? s.heap.objs.size = some { cls := .type "tuple", data := .seq #[u, v] } := (hs2.2 _ (Nat.ne_of_gt hzl)).trans a5
    have k2 : ∀ b o, b ≠ n + 4 → b ≠ n + 3 → b ≠ n → b ≠ n + 1 → s.heap.get? b = some o → h2'.get? b = some o := fun b o b1 b2 b3 b4 q => (hs2.2 b b1).trans (hk b o b1 b2 b3 b4 q)
    have hTn : H s.heap.objs.size = none := I.hok.fresh (Nat.le_refl _)
    have neT : ∀ b o, s.heap.get? b = some o → b ≠ s.heap.objs.size := fun b o q => Nat.ne_of_lt (Heap.lt_size q)
    have hF : ∀ b, b = n + 4 ∨ b = n + 3 ∨ b = n ∨ b = n + 1 → FpOk X pins H b := fun b hb => hf b (by rcases hb with rfl | rfl | rfl | rfl <;> simp)
    have I2 : Inv X pins σ (upd H s.heap.objs.size (.tup [x, y])) { s with heap := h2' } := by
      refine I.step (g' := s.gens) (d' := s.drawn) (t' := s.toks) (ch := [n + 4, n + 3, n, n + 1]) (fun b hb => ?_) (fun b o _ _ hcb q _ => ?_) (fun b o _ _ hcb q _ => ?_) (fun b o hcb q m => ?_) (fun b o hcb q => ?_) (fun b xs q => ?_) (fun b o v q => ?_) (fun b ps q => ?_) (fun m hm => ?_) (fun b o q => ?_) I.bare
      · obtain ⟨e0, e1, e2, e3, e4, e5⟩ := hF b (by simpa using hb)
        exact ⟨e3, e1, e4, e5⟩
      · simp at hcb
        exact k2 b o hcb.1 hcb.2.1 hcb.2.2.1 hcb.2.2.2 q
      · simp at hcb
        exact ⟨o.slots, k2 b o hcb.1 hcb.2.1 hcb.2.2.1 hcb.2.2.2 q⟩
      · rw [upd_ne (neT b o q)]
        exact m
      · simp at hcb
        exact ⟨o, k2 b o hcb.1 hcb.2.1 hcb.2.2.1 hcb.2.2.2 q⟩
      · rw [upd_ne (ne_of_none q hTn)]
        exact q
      · rw [upd_ne (ne_of_none q hTn)]
        exact q
      · exact ⟨#[], by rw [upd_ne (ne_of_none q hTn), q]; simp⟩
      · obtain ⟨o, es, ep, q, r⟩ := hm
        exact ⟨o, es, ep, k2 _ o (Ne.symm (hF _ (.inl rfl)).2.1) (Ne.symm (hF _ (.inr (.inl rfl))).2.1) (Ne.symm (hF _ (.inr (.inr (.inl rfl)))).2.1) (Ne.symm (hF _ (.inr (.inr (.inr rfl)))).2.1) q, r⟩
      · by_cases hb : b = s.heap.objs.size
        · subst hb
          rw [upd_same] at q
          cases q
          refine ⟨by show 2 ≤ sizeLine; decide, [u, v], .cons ru (.cons rv .nil), ?_⟩
          exact ⟨_, hT2, rfl, _, rfl⟩
        · rw [upd_ne hb] at q
          have nn : ∀ (b : Addr) (o : HO), H b = some o → b ≠ n + 4 ∧ b ≠ n + 3 ∧ b ≠ n ∧ b ≠ n + 1 := fun b o q => by
            refine ⟨fun z => ?_, fun z => ?_, fun z => ?_, fun z => ?_⟩
            · rw [z, (hF _ (.inl rfl)).1] at q; cases q
            · rw [z, (hF _ (.inr (.inl rfl))).1] at q; cases q
            · rw [z, (hF _ (.inr (.inr (.inl rfl)))).1] at q; cases q
            · rw [z, (hF _ (.inr (.inr (.inr rfl)))).1] at q; cases q
          refine (I.hok b o q).stay (fun d v hd q' => ?_) (fun d q' => by rw [upd_ne (ne_of_none q' hTn)]; exact q') fun d xs q' => by rw [upd_ne (ne_of_none q' hTn)]; exact q'
          rcases hd with rfl | hd
          · exact k2 d v (nn d o q).1 (nn d o q).2.1 (nn d o q).2.2.1 (nn d o q).2.2.2 q'
          · exact k2 d v (nn d _ hd).1 (nn d _ hd).2.1 (nn d _ hd).2.2.1 (nn d _ hd).2.2.2 q'
    refine ⟨.ref s.heap.objs.size, _, I2, rfl, ⟨x, y, s.heap.objs.size, fun zs hz => by rw [I.list_inj hz hq1]; exact hx, fun zs hz => by rw [I.list_inj hz hq2]; exact hy, hTn, rfl, rfl⟩, ⟨hz2, ?_, ⟨u, v, ?_⟩, ?_, ?_⟩, fun b hb => ?_⟩
    · exact hs2.extBut _ _ D.TIz (hk _ _ D.TIz D.TITO D.TIi1 D.TIi2 hTI)
    · exact hs2.extBut _ _ D.TOz a2
    · exact a3.extBut hs2.extBut D.i1z
    · exact a4.extBut hs2.extBut D.i2z
    · have hb0 : H b = none := (hf b hb).1
      have hbl : b < s.heap.objs.size := by
        simp at hb
        have hzl' : n + 4 < s.heap.objs.size := hzl
        rcases hb with rfl | rfl | rfl | rfl | rfl
        · exact hzl'
        · exact Nat.lt_of_le_of_lt (Nat.add_le_add_left (by decide) n) hzl'
        · exact Nat.lt_of_le_of_lt (Nat.add_le_add_left (by decide) n) hzl'
        · exact Nat.lt_of_le_of_lt (Nat.le_add_right b 4) hzl'
        · exact Nat.lt_of_le_of_lt (Nat.add_le_add_left (by decide) n) hzl'
      rw [upd_ne (Nat.ne_of_lt hbl)]
      exact hb0
  done := by
    intro X hP hw hK hc i pins s σ H E I hf st hg
    subst hP hw hK
    obtain ⟨hz, hTI, ⟨a, b', hTO⟩, h1, h2⟩ := st
    obtain ⟨xs, ys, hq1, hq2, hx⟩ := hg
    obtain ⟨its1, rv1, p1, _⟩ := I.list hq1
    obtain ⟨its2, rv2, p2, _⟩ := I.list hq2
    have e1 := rv1.length
    have e2 := rv2.length
    have D : ZipApart (n + 4) (n + 2) (n + 3) n (n + 1) l1 l2 := zipApart_new hl1 hl2
    have hF : ∀ b, b = n + 4 ∨ b = n + 3 ∨ b = n ∨ b = n + 1 → FpOk X pins H b := fun b hb => hf b (by rcases hb with rfl | rfl | rfl | rfl <;> simp)
    refine wpAny_pyNext_zip_end (I.ok.hd hc) D hz hTI hTO h1 h2 p1.isList p2.isList (by
      rcases hx with hx | hx
      · exact .inl (by simp; omega)
      · exact .inr (by simp; omega)) fun h' k2 => ⟨rfl, ?_⟩
    have nn : ∀ (b : Addr) (o : HO), H b = some o → b ≠ n + 4 ∧ b ≠ n + 3 ∧ b ≠ n ∧ b ≠ n + 1 := fun b o q => by
      refine ⟨fun z => ?_, fun z => ?_, fun z => ?_, fun z => ?_⟩
      · rw [z, (hF _ (.inl rfl)).1] at q; cases q
      · rw [z, (hF _ (.inr (.inl rfl))).1] at q; cases q
      · rw [z, (hF _ (.inr (.inr (.inl rfl)))).1] at q; cases q
      · rw [z, (hF _ (.inr (.inr (.inr rfl)))).1] at q; cases q
    refine I.step (g' := s.gens) (d' := s.drawn) (t' := s.toks) (ch := [n + 4, n + 3, n, n + 1]) (fun b hb => ?_) (fun b o _ _ hcb q _ => ?_) (fun b o _ _ hcb q _ => ?_) (fun _ _ _ _ m => m) (fun b o hcb q => ?_) (fun _ _ e => e) (fun _ _ _ e => e) (fun b ps e => ⟨#[], by rw [e]; simp⟩) (fun m hm => ?_) (fun b o q => ?_) I.bare
    · obtain ⟨e0, e1, e2, e3, e4, e5⟩ := hF b (by simpa using hb)
      exact ⟨e3, e1, e4, e5⟩
    · simp at hcb
      exact k2 b o hcb.1 hcb.2.1 hcb.2.2.1 hcb.2.2.2 q
    · simp at hcb
      exact ⟨o.slots, k2 b o hcb.1 hcb.2.1 hcb.2.2.1 hcb.2.2.2 q⟩
    · simp at hcb
      exact ⟨o, k2 b o hcb.1 hcb.2.1 hcb.2.2.1 hcb.2.2.2 q⟩
    · obtain ⟨o, es, ep, q, r⟩ := hm
      exact ⟨o, es, ep, k2 _ o (Ne.symm (hF _ (.inl rfl)).2.1) (Ne.symm (hF _ (.inr (.inl rfl))).2.1) (Ne.symm (hF _ (.inr (.inr (.inl rfl)))).2.1) (Ne.symm (hF _ (.inr (.inr (.inr rfl)))).2.1) q, r⟩
    · refine (I.hok b o q).stay (fun d v hd q' => ?_) (fun _ q => q) fun _ _ q => q
      rcases hd with rfl | hd
      · exact k2 d v (nn d o q).1 (nn d o q).2.1 (nn d o q).2.2.1 (nn d o q).2.2.2 q'
      · exact k2 d v (nn d _ hd).1 (nn d _ hd).2.1 (nn d _ hd).2.2.1 (nn d _ hd).2.2.2 q'
  self := fun _ _ _ _ _ st h => wpAny_pyIter_zip st.1 h
section
variable {X : Cx} {elts : List Expr} {x1 : Nat} {tpos : Pos}
def iZip (K : PySem.W.Frag) (ta : TA) : TI := fun σ H R => ta σ H fun vs H1 => ∃ l1 l2 xs ys, vs = [.ref l1, .ref l2] ∧ SqL K H1 l1 xs ∧ SqL K H1 l2 ys ∧ R (Itz K l1 l2) H1
theorem pi_zip {K : PySem.W.Frag} {a b : Expr} {ta tb : TE} {p pos : Pos} (hg : Gl X "zip") (hm : X.mg "zip" = none) (ha : PE X a ta) (hb : PE X b tb) (hs : starEach [a, b] X.env = (false, eval a X.env) :: starEach [b] X.env := by rfl) (hs2 : starEach [b] X.env = [(false, eval b X.env)] := by rfl) (hK : X.K = K := by rfl) :
    PI X (.Tuple elts x1 tpos) (.Call (.Name "zip" p) [a, b] [] pos) (iZip K (tCons ta (tCons tb tNil))) := by
  subst hK
  intro pins s σ H R I h
  refine Call_ (ld_blt I hg hm boot_zip (PyProof.Rows.callWith_type1 (thn ((pa_cons ha (pa_cons hb pa_nil hs2) hs) pos pins s σ H _ I h) fun us s1 ⟨vs, H1, I1, r1, q1⟩ => ?_) (by rw [hs, hs2]) (by rw [hs2]; rfl)))
  obtain ⟨l1, l2, xs, ys, e, hq1, hq2, q⟩ := q1
  subst e
  cases r1 with
  | cons r rr =>
    cases rr with
    | cons r' rr' =>
      cases rr'
      cases r
      cases r'
      obtain ⟨its1, rv1, p1, _⟩ := I1.list hq1
      obtain ⟨its2, rv2, p2, _⟩ := I1.list hq2
      have lt1 : l1 < s1.heap.objs.size := by obtain ⟨o, ho, _⟩ := p1.isList; exact Heap.lt_size ho
      have lt2 : l2 < s1.heap.objs.size := by obtain ⟨o, ho, _⟩ := p2.isList; exact Heap.lt_size ho
      refine call_zip_2 p1.isList p2.isList fun h' hz hTI hTO h1 h2 hsz k => ?_
      refine wpAny_pyIter_zip hz ?_
      have I2 : Inv X pins σ H1 { s1 with heap := h' } := I1.kept (t' := s1.toks) k
      refine ⟨s1.heap.objs.size + 4, [s1.heap.objs.size + 4, s1.heap.objs.size + 2, s1.heap.objs.size + 3, s1.heap.objs.size, s1.heap.objs.size + 1], _, _, H1, rfl, I2, turn_zip s1.heap.objs.size l1 l2 lt1 lt2, ⟨hz, hTI, ⟨_, _, hTO⟩, h1, h2⟩, fun b hb => ?_, q⟩
      have hb' : s1.heap.objs.size ≤ b := by
        simp at hb
        rcases hb with rfl | rfl | rfl | rfl | rfl
        · exact Nat.le_add_right _ _
        · exact Nat.le_add_right _ _
        · exact Nat.le_add_right _ _
        · exact Nat.le_refl _
        · exact Nat.le_add_right _ _
      exact I1.fpOk hb' (I1.hok.fresh hb')
end
end L2

namespace DL
open PySem PySem.Spec L2
def zipD : List D → List D → List D
  | x :: xs, y :: ys => .tup [x, y] :: zipD xs ys
  | _, _ => []
theorem zipD_length : ∀ xs ys : List D, (zipD xs ys).length = min xs.length ys.length
  | [], _ => by simp [zipD]
  | _ :: _, [] => by simp [zipD]
  | x :: xs, y :: ys => by rw [zipD, List.length_cons, List.length_cons, List.length_cons, zipD_length xs ys]; omega
theorem zipD_get : ∀ (xs ys : List D) (i : Nat) (x y : D), xs[i]? = some x → ys[i]? = some y → (zipD xs ys)[i]? = some (.tup [x, y])
  | [], _, i, x, y, h, _ => by simp at h
  | _ :: _, [], i, x, y, _, h => by simp at h
  | x0 :: xs, y0 :: ys, 0, x, y, h1, h2 => by simp at h1 h2; rw [h1, h2]; rfl
  | x0 :: xs, y0 :: ys, i + 1, x, y, h1, h2 => by
    rw [zipD, List.getElem?_cons_succ]
    exact zipD_get xs ys i x y (by simpa using h1) (by simpa using h2)
section
variable {cA : Kn} {G : Cn} {ow : List Nat}
def iotaZ (ε1 ε2 : Env → Option D) (δ : Env) : Option (List D) := match ε1 δ, ε2 δ with
  | some (.lst xs), some (.lst ys) => some (zipD xs ys)
  | _, _ => none
theorem walkD_zip {iv : Addr → Prop} {H0 : Hp} {a b : Addr} {vs ws : List V} {xs ys : List D} (rd : SqL cA.K H0 a vs) (l : RepL cA iv H0 xs vs) (rd2 : SqL cA.K H0 b ws) (l2 : RepL cA iv H0 ys ws) : WalkD cA iv (Itz cA.K a b) (zipD xs ys) H0 := fun H s => by
  have rd' : SqL cA.K H a vs := s.seq rd
  have rd2' : SqL cA.K H b ws := s.seq rd2
  refine ⟨fun i hi => ?_, fun i x v H' hx y => ?_, fun i hi => ⟨vs, ws, rd', rd2', ?_⟩⟩
  · rw [zipD_length] at hi
    obtain ⟨v, hv, _⟩ := l.get (List.getElem?_eq_getElem (show i < xs.length by omega))
    obtain ⟨u, hu, _⟩ := l2.get (List.getElem?_eq_getElem (show i < ys.length by omega))
    exact ⟨vs, ws, v, u, rd', rd2', hv, hu⟩
  · obtain ⟨z1, z2, p, hz1, hz2, hp, rfl, rfl⟩ := y
    have hi : i < (zipD xs ys).length := (List.getElem?_eq_some_iff.mp hx).1
    rw [zipD_length] at hi
    have e1 := List.getElem?_eq_getElem (show i < xs.length by omega)
    have e2 := List.getElem?_eq_getElem (show i < ys.length by omega)
    rw [zipD_get xs ys i _ _ e1 e2] at hx
    cases hx
    obtain ⟨v1, hv1, r1⟩ := l.get e1
    obtain ⟨v2, hv2, r2⟩ := l2.get e2
    rw [hz1 vs rd'] at hv1
    rw [hz2 ws rd2'] at hv2
    cases hv1
    cases hv2
    refine ⟨same_upd hp, fun av' h1 h2 => ?_⟩
    unfold Rep
    exact ⟨p, _, rfl, fun z => h1 p z hp, upd_same, .cons (((r1.av h2).same s).same (same_upd hp)) (.cons (((r2.av h2).same s).same (same_upd hp)) .nil)⟩
  · rw [zipD_length] at hi
    rw [← l.length, ← l2.length]
    omega
theorem vi_zip {ta tb : TE} {ε1 ε2 : Env → Option D} (h1 : VE G ow ta .cl ε1) (h2 : VE G ow tb .cl ε2) : VI G ow (iZip G.1.K (tCons ta (tCons tb tNil))) (iotaZ ε1 ε2) := fun H0 av A σ H δ E xs e R k => by
  unfold iotaZ at e
  cases he1 : ε1 δ with
  | none => rw [he1] at e; cases e
  | some d1 =>
    cases he2 : ε2 δ with
    | none => rw [he1, he2] at e; cases d1 <;> cases e
    | some d2 =>
      rw [he1, he2] at e
      cases d1 <;> cases d2 <;> first | (cases e; done) | skip
      cases e
      refine h1 H0 av A σ H δ E _ he1 _ fun v H1 s1 r1 => ?_
      refine h2 H0 av A σ H1 δ (E.mono s1) _ he2 _ fun v2 H2 s2 r2 => ?_
      obtain ⟨a, vs, rfl, na, rd, l⟩ := r1.same s2
      obtain ⟨b, ws, rfl, nb, rd2, l2⟩ := r2
      exact ⟨a, b, vs, ws, rfl, rd, rd2, k _ H2 (s1.trans s2) (walkD_zip (sq_ext na rd fun b o n e => by rw [cut_of fun ⟨i, z⟩ => n (.inr ⟨i, z⟩)]; exact e) l.cut (sq_ext nb rd2 fun b o n e => by rw [cut_of fun ⟨i, z⟩ => n (.inr ⟨i, z⟩)]; exact e) l2.cut)⟩
end
end DL

namespace DL
open PySem PySem.Spec L2
/-! ### a list of lists that is one name's alone -/
def mat (rows : List (List D)) : D := .lst (rows.map D.lst)
structure Mx (H : Hp) (a : Addr) (bs : List Addr) (rows : List (List D)) : Prop where
  top : H a = some (.lst (bs.map V.ref))
  len : bs.length = rows.length
  nd : bs.Nodup
  na : a ∉ bs
  row : ∀ (k : Nat) (b : Addr) (r : List D), bs[k]? = some b → rows[k]? = some r → H b = some (.lst (r.map val))
  sc : ∀ r ∈ rows, r.all scalar = true
section
variable {H H' : Hp} {a : Addr} {bs : List Addr} {rows : List (List D)}
theorem Mx.mem (M : Mx H a bs rows) {b : Addr} (h : b ∈ bs) : ∃ r ∈ rows, H b = some (.lst (r.map val)) := by
  obtain ⟨k, hk, e⟩ := List.mem_iff_getElem.mp h
  have hk2 : k < rows.length := by rw [← M.len]; exact hk
  exact ⟨rows[k], List.getElem_mem hk2, M.row k b _ (by rw [List.getElem?_eq_getElem hk, e]) (List.getElem?_eq_getElem hk2)⟩
theorem Mx.there (M : Mx H a bs rows) {x : Addr} (h : x ∈ a :: bs) : ∃ vs, H x = some (.lst vs) := by
  rcases List.mem_cons.mp h with rfl | h
  · exact ⟨_, M.top⟩
  · obtain ⟨r, _, e⟩ := M.mem h
    exact ⟨_, e⟩
theorem Mx.mono (M : Mx H a bs rows) (k : Same H H') : Mx H' a bs rows := ⟨k _ _ M.top, M.len, M.nd, M.na, fun n b r h1 h2 => k _ _ (M.row n b r h1 h2), M.sc⟩
theorem Mx.rep {cA : Kn} {av : Addr → Prop} (M : Mx H a bs rows) (hn : ∀ x ∈ a :: bs, ¬ av x) : Rep cA av H (mat rows) (.ref a) := by
  have go : ∀ (bs : List Addr) (rows : List (List D)), bs.length = rows.length → (∀ x ∈ bs, ¬ av x) → (∀ (k : Nat) (b : Addr) (r : List D), bs[k]? = some b → rows[k]? = some r → H b = some (.lst (r.map val))) → (∀ r ∈ rows, r.all scalar = true) → RepL cA av H (rows.map D.lst) (bs.map V.ref) := by
    intro bs
    induction bs with
    | nil =>
      intro rows hl _ _ _
      cases rows with
      | nil => exact .nil
      | cons _ _ => simp at hl
    | cons b bs ih =>
      intro rows hl hn hr hs
      cases rows with
      | nil => simp at hl
      | cons r rows =>
        refine .cons ?_ (ih rows (by simpa using hl) (fun x hx => hn x (List.mem_cons_of_mem _ hx)) (fun k b r h1 h2 => hr (k + 1) b r (by simpa using h1) (by simpa using h2)) fun r hr => hs r (List.mem_cons_of_mem _ hr))
        unfold Rep
        exact ⟨b, r.map val, rfl, fun z => (hn b List.mem_cons_self z).elim, SqL.of (hr 0 b r rfl rfl), .of_vals (hs r List.mem_cons_self)⟩
  unfold mat Rep
  exact ⟨a, bs.map V.ref, rfl, fun z => (hn a List.mem_cons_self z).elim, SqL.of M.top, go bs rows M.len (fun x hx => hn x (List.mem_cons_of_mem _ hx)) M.row M.sc⟩
end
open Classical in
noncomputable def ovl (H0 H : Hp) (F : List Addr) : Hp := fun x => if x ∈ F then H x else H0 x
theorem ovl_in {H0 H : Hp} {F : List Addr} {x : Addr} (h : x ∈ F) : ovl H0 H F x = H x := if_pos h
theorem ovl_out {H0 H : Hp} {F : List Addr} {x : Addr} (h : x ∉ F) : ovl H0 H F x = H0 x := if_neg h
abbrev Cn.keep (G : Cn) (i : Nat) (v : V) : Cn := ⟨G.1, fun j => if j = i then some (.inr v) else G.2 j⟩
abbrev avF (av : Addr → Prop) (F : List Addr) : Addr → Prop := fun x => av x ∨ x ∈ F
/-- the name i holds such a list; all others' data avoid it -/
structure MR (G : Cn) (ow : List Nat) (i : Nat) (H0 : Hp) (av : Addr → Prop) (A : Nat → Option Addr) (σ : L2.St) (H : Hp) (δ : Env) : Prop where
  ni : i ∉ ow
  nn : G.2 i = none
  avd : ∀ x, av x → H0 x ≠ none
  ex : ∃ a bs rows, δ[i]? = some (some (mat rows)) ∧ Mx H a bs rows ∧ (∀ x ∈ a :: bs, H0 x = none) ∧ ER (G.keep i (.ref a)) ow (ovl H0 H (a :: bs)) (avF av (a :: bs)) A σ H (δ.set i none)
section
variable {cA : Kn} {G : Cn} {ow owN owB owC ow1 : List Nat} {i : Nat} {H0 H H' : Hp} {av : Addr → Prop} {A : Nat → Option Addr} {σ : L2.St} {δ : Env}
theorem keep_ne {j : Nat} {v : V} (h : j ≠ i) : (G.keep i v).2 j = G.2 j := if_neg h
theorem keep_eq {v : V} : (G.keep i v).2 i = some (.inr v) := if_pos rfl
/-- as if it were none's alone: for reading -/
theorem MR.view (R : MR G ow i H0 av A σ H δ) : ER G ow H0 av A σ H δ := by
  obtain ⟨a, bs, rows, hd, M, h0, E⟩ := R.ex
  have nF : ∀ j x, A j = some x → x ∉ a :: bs := fun j x e z => by
    have := E.fr j x e
    rw [ovl_in z] at this
    obtain ⟨vs, q⟩ := M.there z
    rw [q] at this; cases this
  have hAi : A i = none := by
    cases q : A i with
    | none => rfl
    | some x => exact (R.ni (E.dom i (by rw [q]; exact fun z => by cases z))).elim
  have less : ∀ b, AV av A b → AV (avF av (a :: bs)) A b := fun b z => z.elim (fun z => .inl (.inl z)) .inr
  have hil : i < δ.length := (List.getElem?_eq_some_iff.mp hd).1
  refine ⟨fun b o e => ?_, R.avd, fun j x e => ?_, E.inj, E.live, E.dom, E.dom', by rw [E.len, List.length_set], fun j x e => ?_, fun j v e => ?_, fun j d e => ?_⟩
  · have nb : b ∉ a :: bs := fun z => by rw [h0 b z] at e; cases e
    exact E.same b o (by rw [ovl_out nb]; exact e)
  · have := E.fr j x e
    rw [ovl_out (nF j x e)] at this
    exact this
  · have q : j ≠ i := fun z => by rw [z, R.nn] at e; cases e
    exact E.pin j x (by rw [keep_ne q]; exact e)
  · have q : j ≠ i := fun z => by rw [z, R.nn] at e; cases e
    exact E.kept j v (by rw [keep_ne q]; exact e)
  · by_cases q : j = i
    · subst q
      rw [hd] at e
      cases e
      refine ⟨.ref a, E.kept j _ keep_eq, fun _ => M.rep fun x hx z => ?_, fun b z => by rw [hAi] at z; cases z⟩
      rcases z with z | ⟨k, z⟩
      · exact R.avd x z (h0 x hx)
      · exact nF k x z hx
    · obtain ⟨v, h1, h2, h3⟩ := E.var j d (by rw [List.getElem?_set_ne (Ne.symm q)]; exact e)
      refine ⟨v, h1, fun z => (h2 z).av fun b z => .inl (less b z), fun b z => ?_⟩
      obtain ⟨r1, r2⟩ := h3 b z
      refine ⟨r1, ?_⟩
      cases d with
      | lst xs => obtain ⟨vs, q1, q2⟩ := r2; exact ⟨vs, q1, q2.av fun b z => .inl (less b z)⟩
      | obj c ks xs => obtain ⟨dx, vs, q1, q0, q2⟩ := r2; exact ⟨dx, vs, q1, q0, q2.av fun b z => .inl (less b z)⟩
      | _ => exact r2
theorem ovl_same {a : Addr} {bs : List Addr} {rows : List (List D)} (M : Mx H a bs rows) (k : Same H H') : ovl H0 H' (a :: bs) = ovl H0 H (a :: bs) := by
  funext x
  by_cases h : x ∈ a :: bs
  · rw [ovl_in h, ovl_in h]
    obtain ⟨vs, q⟩ := M.there h
    rw [q, k _ _ q]
  · rw [ovl_out h, ovl_out h]
theorem MR.mono (R : MR G ow i H0 av A σ H δ) (k : Same H H') : MR G ow i H0 av A σ H' δ := by
  obtain ⟨a, bs, rows, hd, M, h0, E⟩ := R.ex
  exact ⟨R.ni, R.nn, R.avd, a, bs, rows, hd, M.mono k, h0, by rw [ovl_same M k]; exact E.mono k⟩
/-- a name takes a scalar -/
theorem MR.set {k : Nat} {d : D} (R : MR G ow i H0 av A σ H δ) (hs : scalar d = true) (hk : k ≠ i) (hw : ∀ j, j ∈ owN ↔ j ∈ ow ∧ j ≠ k) (hn : G.2 k = none) : MR G owN i H0 av (fun j => if j = k then none else A j) (σ.set k (some (val d))) H (δ.set k (some d)) := by
  obtain ⟨a, bs, rows, hd, M, h0, E⟩ := R.ex
  refine ⟨fun z => R.ni ((hw i).mp z).1, R.nn, R.avd, a, bs, rows, by rw [List.getElem?_set_ne hk]; exact hd, M, h0, ?_⟩
  rw [List.set_comm _ _ hk]
  exact E.set (.of_val hs) hw (by rw [keep_ne hk]; exact hn)
/-- what it holds turns -/
theorem MR.turn {a : Addr} {bs : List Addr} {rows rows' : List (List D)} (ni : i ∉ ow) (nn : G.2 i = none) (havd : ∀ x, av x → H0 x ≠ none) (hd : δ[i]? = some (some (mat rows))) (M : Mx H a bs rows) (h0 : ∀ x ∈ a :: bs, H0 x = none) (E : ER (G.keep i (.ref a)) ow (ovl H0 H (a :: bs)) (avF av (a :: bs)) A σ H (δ.set i none))
    (M' : Mx H' a bs rows') (hk : ∀ x, x ∉ a :: bs → H' x = H x) : MR G ow i H0 av A σ H' (δ.set i (some (mat rows'))) := by
  have hil : i < δ.length := (List.getElem?_eq_some_iff.mp hd).1
  have nF : ∀ j x, A j = some x → x ∉ a :: bs := fun j x e z => by
    have := E.fr j x e
    rw [ovl_in z] at this
    obtain ⟨vs, q⟩ := M.there z
    rw [q] at this; cases this
  refine ⟨ni, nn, havd, a, bs, rows', List.getElem?_set_self hil, M', h0, ?_⟩
  have e1 : (δ.set i (some (mat rows'))).set i none = δ.set i none := List.set_set ..
  rw [e1]
  refine ⟨fun b o e => ?_, fun x z => ?_, fun j x e => ?_, E.inj, fun j x e => ?_, E.dom, E.dom', E.len, E.pin, E.kept, fun j d e => ?_⟩
  · by_cases h : b ∈ a :: bs
    · rw [ovl_in h] at e; exact e
    · rw [ovl_out h] at e
      rw [hk b h]
      exact E.same b o (by rw [ovl_out h]; exact e)
  · by_cases h : x ∈ a :: bs
    · rw [ovl_in h]
      obtain ⟨vs, q⟩ := M'.there h
      rw [q]; exact fun z => by cases z
    · rw [ovl_out h]
      exact havd x (z.resolve_right h)
  · have := E.fr j x e
    rw [ovl_out (nF j x e)] at this ⊢
    exact this
  · rw [hk x (nF j x e)]
    exact E.live j x e
  · have ex : ∀ b o, ¬ AV (avF av (a :: bs)) A b → H b = some o → H' b = some o := fun b o n e => by
      rw [hk b fun z => n (.inl (.inr z))]; exact e
    obtain ⟨v, h1, h2, h3⟩ := E.var j d e
    refine ⟨v, h1, fun z => (h2 z).ext ex, fun b z => ?_⟩
    obtain ⟨r1, r2⟩ := h3 b z
    refine ⟨r1, ?_⟩
    cases d with
    | lst xs => obtain ⟨vs, q1, q2⟩ := r2; exact ⟨vs, by rw [hk b (nF j b z)]; exact q1, q2.ext ex⟩
    | obj c ks xs => obtain ⟨dx, vs, q1, q0, q2⟩ := r2; exact ⟨dx, vs, by rw [hk b (nF j b z)]; exact q1, q0, q2.ext ex⟩
    | _ => exact r2
end
end DL

namespace DL
open PySem PySem.Spec L2
def WantsM (G : Cn) (owN owB owC : List Nat) (i : Nat) (H0 : Hp) (av : Addr → Prop) (De : Ends) : Out → Prop
  | .nx δ' => ∀ A' σ' H', MR G owN i H0 av A' σ' H' δ' → De.nx σ' H'
  | .rt d => ∀ v H', Same H0 H' → Rep G.1 av H' d v → De.rt v H'
  | .bk δ' => ∀ A' σ' H', MR G owB i H0 av A' σ' H' δ' → De.bk σ' H'
  | .ct δ' => ∀ A' σ' H', MR G owC i H0 av A' σ' H' δ' → De.ct σ' H'
def VM (G : Cn) (ow owN owB owC : List Nat) (i : Nat) (ts : TS) (φ : Env → Option Out) : Prop :=
  ∀ H0 av A σ H δ, MR G ow i H0 av A σ H δ → ∀ o, φ δ = some o → ∀ De : Ends, WantsM G owN owB owC i H0 av De o → ts De σ H
section
variable {cA : Kn} {G : Cn} {ow owN owB owC ow1 : List Nat} {i : Nat}
theorem vm_next : VM G ow ow owB owC i tNext sNext := fun H0 av A σ H δ R o e De k => by
  cases e
  exact k A σ H R
theorem vm_seq {t u : TS} {φ ψ : Env → Option Out} (h1 : VM G ow ow1 owB owC i t φ) (h2 : VM G ow1 owN owB owC i u ψ) : VM G ow owN owB owC i (tSeq t u) (sSeq φ ψ) := fun H0 av A σ H δ R o e De k => by
  unfold sSeq at e
  cases he : φ δ with
  | none => rw [he] at e; cases e
  | some o1 =>
    rw [he] at e
    refine h1 H0 av A σ H δ R o1 he _ ?_
    cases o1 with
    | nx δ' => exact fun A' σ' H' R' => h2 H0 av A' σ' H' δ' R' o e De k
    | rt d => cases e; exact k
    | bk δ' => cases e; exact k
    | ct δ' => cases e; exact k
theorem vm_if {c : TT} {t u : TS} {τ : Env → Option Bool} {φ ψ : Env → Option Out} (hc : VT G ow c τ) (h1 : VM G ow owN owB owC i t φ) (h2 : VM G ow owN owB owC i u ψ) : VM G ow owN owB owC i (tIfS c t u) (sIf τ φ ψ) := fun H0 av A σ H δ R o e De k => by
  unfold sIf at e
  cases he : τ δ with
  | none => rw [he] at e; cases e
  | some b =>
    rw [he] at e
    refine hc H0 av A σ H δ R.view b he _ fun H' s => ?_
    cases b with
    | true => exact iteT (h1 H0 av A σ H' δ (R.mono s) o e De k)
    | false => exact iteF (h2 H0 av A σ H' δ (R.mono s) o e De k)
theorem vm_ret {te : TE} {q : Ql} {ε : Env → Option D} (h : VE G ow te q ε) : VM G ow owN owB owC i (tRet te) (sRet ε) := fun H0 av A σ H δ R o e De k => by
  unfold sRet at e
  cases he : ε δ with
  | none => rw [he] at e; cases e
  | some d =>
    rw [he] at e
    cases e
    exact h H0 av A σ H δ R.view d he _ fun v H' s r => k v H' (R.view.same.trans s) r.any
/-! ### loops -/
def VIr (G : Cn) (ow : List Nat) (wi : TI) (ι : Env → Option (List D)) : Prop :=
  ∀ H0 av A σ H δ, ER G ow H0 av A σ H δ → ∀ xs, ι δ = some xs → ∀ R : It → Hp → Prop, (∀ J H1, Same H H1 → WalkD G.1 (fun _ => True) J xs (fun _ => none) → (∀ x ∈ xs, scalar x = true) → R J H1) → wi σ H R
theorem rngI_sc {lo c : Int} {n : Nat} : ∀ x ∈ rngI lo c n, scalar x = true := fun x hx => by
  obtain ⟨k, _, rfl⟩ := List.mem_map.mp hx
  rfl
theorem vir_rng1 {ta : TA} {q : Ql} {a : Env → Option (List D)} (h : VA G ow ta q a) (hl : ∀ δ ds, a δ = some ds → ds.length = 1) : VIr G ow (iRng1 ta) (iotaR a) := fun H0 av A σ H δ E xs e R k => by
  unfold iotaR at e
  cases he : a δ with
  | none => rw [he] at e; cases e
  | some ds =>
    rw [he] at e
    refine h H0 av A σ H δ E ds he _ fun vs H1 s r => ?_
    have hln := hl δ ds he
    split at e
    · rename_i j he2
      cases he2
      by_cases hz : -(2 ^ 62) ≤ j ∧ j < 2 ^ 62
      · rw [if_pos hz] at e
        cases e
        exact ⟨j, ql1 r, hz.1, hz.2, k _ H1 s walkD_rng rngI_sc⟩
      · rw [if_neg hz] at e; cases e
    · rename_i he2; cases he2; simp at hln
    · rename_i he2; cases he2; simp at hln
    · cases e
theorem vm_for {wi : TI} {tb : TS} {ι : Env → Option (List D)} {φ : Env → Option Out} (k' : Nat) (hk : k' ≠ i) (hko : ow.contains k' = false) (hn : G.2 k' = none) (hi : VIr G ow wi ι) (hb : VM G ow ow ow ow i tb φ) : VM G ow ow owB owC i (tFor wi (gName k') tb) (sFor ι (gSet k') φ) := fun H0 av A σ H δ R o e De k => by
  unfold sFor at e
  cases he : ι δ with
  | none => rw [he] at e; cases e
  | some xs =>
    rw [he] at e
    have e : forD (gSet k') φ xs δ = some o := e
    refine hi H0 av A σ H δ R.view xs he _ fun J H1 s1 W hsc => ?_
    refine ⟨fun j m σ' H' => m = xs.length - j ∧ j ≤ xs.length ∧ ∃ A' δ', MR G ow i H0 av A' σ' H' δ' ∧ forD (gSet k') φ (xs.drop j) δ' = some o, ⟨xs.length, by simp, Nat.zero_le _, A, δ, R.mono s1, e⟩, ?_⟩
    rintro j m σ' H' ⟨rfl, hle, A', δ', R', e'⟩
    obtain ⟨w1, w2, w3⟩ := W H' (fun b o z => by cases z)
    by_cases hlt : j < xs.length
    · refine .inr ⟨w1 j hlt, fun σ2 H2 => ∃ A2 δ2, MR G ow i H0 av A2 σ2 H2 δ2 ∧ forD (gSet k') φ (xs.drop (j + 1)) δ2 = some o, fun σ2 H2 ⟨A2, δ2, E2, e2⟩ => ⟨xs.length - (j + 1), by omega, rfl, hlt, A2, δ2, E2, e2⟩, fun v H2 y => ?_⟩
      have hx : xs[j]? = some xs[j] := List.getElem?_eq_getElem hlt
      obtain ⟨s2, rep⟩ := w2 j _ v H2 hx y
      have hs := hsc xs[j] (List.getElem_mem hlt)
      have ev : v = val xs[j] := (rep (fun _ => False) (fun _ z => z.elim) (fun _ z => z.elim)).val hs
      subst ev
      rw [List.drop_eq_getElem_cons hlt] at e'
      unfold forD at e'
      have e' : (match φ (δ'.set k' (some xs[j])) with
        | none => none
        | some (.nx δ2) => forD (gSet k') φ (xs.drop (j + 1)) δ2
        | some (.ct δ2) => forD (gSet k') φ (xs.drop (j + 1)) δ2
        | some (.bk δ2) => some (.nx δ2)
        | some (.rt d) => some (.rt d)) = some o := e'
      have R2 := (R'.mono s2).set (owN := ow) hs hk (fun j => by
        have : k' ∉ ow := by simpa using hko
        exact ⟨fun h => ⟨h, fun z => this (z ▸ h)⟩, fun h => h.1⟩) hn
      cases hφ : φ (δ'.set k' (some xs[j])) with
      | none => rw [hφ] at e'; cases e'
      | some o1 =>
        rw [hφ] at e'
        refine hb _ av _ _ H2 _ R2 o1 hφ _ ?_
        cases o1 with
        | nx δ2 => exact fun A4 σ4 H4 E4 => ⟨A4, δ2, E4, e'⟩
        | ct δ2 => exact fun A4 σ4 H4 E4 => ⟨A4, δ2, E4, e'⟩
        | bk δ2 => cases e'; exact fun A4 σ4 H4 E4 => k A4 σ4 H4 E4
        | rt d => cases e'; exact k
    · have ei : j = xs.length := by omega
      subst ei
      rw [List.drop_length] at e'
      cases e'
      exact .inl ⟨w3 _ (Nat.le_refl _), k A' σ' H' R'⟩
theorem vm_while {c : TT} {tb : TS} {τ : Env → Option Bool} {φ : Env → Option Out} (hc : VT G ow c τ) (hb : VM G ow ow ow ow i tb φ) : VM G ow ow owB owC i (tWhile c tb) (sWhile τ φ) := fun H0 av A σ H δ E o e De k => by
  obtain ⟨n, e⟩ := sWhile_some e
  refine ⟨fun m σ' H' => ∃ A' δ', MR G ow i H0 av A' σ' H' δ' ∧ whileD τ φ m δ' = some o, ⟨n, A, δ, E, e⟩, ?_⟩
  rintro m σ' H' ⟨A', δ', E', e'⟩
  cases m with
  | zero => cases e'
  | succ m =>
    unfold whileD at e'
    cases ht : τ δ' with
    | none => rw [ht] at e'; cases e'
    | some b =>
      rw [ht] at e'
      refine hc H0 av A' σ' H' δ' E'.view b ht _ fun H2 s2 => ?_
      have E2 := E'.mono s2
      cases b with
      | false => cases e'; exact iteF (k A' σ' H2 E2)
      | true =>
        dsimp only at e'
        refine iteT ⟨fun σ3 H3 => ∃ A3 δ3, MR G ow i H0 av A3 σ3 H3 δ3 ∧ whileD τ φ m δ3 = some o, fun σ3 H3 ⟨A3, δ3, E3, e3⟩ => ⟨m, Nat.lt_succ_self _, A3, δ3, E3, e3⟩, ?_⟩
        cases hφ : φ δ' with
        | none => rw [hφ] at e'; cases e'
        | some o1 =>
          rw [hφ] at e'
          refine hb H0 av A' σ' H2 δ' E2 o1 hφ _ ?_
          cases o1 with
          | nx δ2 => exact fun A4 σ4 H4 E4 => ⟨A4, δ2, E4, e'⟩
          | ct δ2 => exact fun A4 σ4 H4 E4 => ⟨A4, δ2, E4, e'⟩
          | bk δ2 => cases e'; exact k
          | rt d => cases e'; exact k
/-! ### what does not touch it -/
def sHide (i : Nat) (φ : Env → Option Out) (δ : Env) : Option Out := match φ (δ.set i none) with
  | some (.nx δ') => match δ'[i]? with
    | some none => some (.nx (δ'.set i ((δ[i]?).getD none)))
    | _ => none
  | some (.rt d) => some (.rt d)
  | _ => none
theorem vm_hide {t : TS} {φ : Env → Option Out} (h : ∀ v, VS (G.keep i v) ow owN [] [] t φ) (ho : owN.contains i = false) : VM G ow owN owB owC i t (sHide i φ) := fun H0 av A σ H δ R o e De k => by
  obtain ⟨a, bs, rows, hd, M, h0, E⟩ := R.ex
  unfold sHide at e
  cases hp : φ (δ.set i none) with
  | none => rw [hp] at e; cases e
  | some o1 =>
    rw [hp] at e
    refine h (.ref a) _ _ A σ H _ E o1 hp De ?_
    cases o1 with
    | nx δ1 =>
      dsimp only at e
      intro A' σ' H' E'
      have hs : Same (ovl H0 H (a :: bs)) H' := E'.same
      have hF : ∀ x ∈ a :: bs, H' x = H x := fun x hx => by
        obtain ⟨vs, q⟩ := M.there hx
        rw [q]
        exact hs x _ (by rw [ovl_in hx]; exact q)
      cases hi : δ1[i]? with
      | none => rw [hi] at e; cases e
      | some z =>
        rw [hi] at e
        cases z with
        | some y => cases e
        | none =>
          dsimp only at e
          rw [hd] at e
          have e : some (Out.nx (δ1.set i (some (mat rows)))) = some o := e
          cases e
          have hil : i < δ1.length := (List.getElem?_eq_some_iff.mp hi).1
          have M' : Mx H' a bs rows := ⟨(hF a List.mem_cons_self).trans M.top, M.len, M.nd, M.na, fun k b r h1 h2 => (hF b (List.mem_cons_of_mem _ (List.mem_of_getElem? h1))).trans (M.row k b r h1 h2), M.sc⟩
          have eo : ovl H0 H' (a :: bs) = ovl H0 H (a :: bs) := by
            funext x
            by_cases hx : x ∈ a :: bs
            · rw [ovl_in hx, ovl_in hx, hF x hx]
            · rw [ovl_out hx, ovl_out hx]
          have es : (δ1.set i (some (mat rows))).set i none = δ1 := by
            rw [List.set_set]
            apply List.ext_getElem?
            intro j
            by_cases hj : j = i
            · subst hj
              rw [List.getElem?_set_self hil, hi]
            · rw [List.getElem?_set_ne (Ne.symm hj)]
          exact k A' σ' H' ⟨by simpa using ho, R.nn, R.avd, a, bs, rows, List.getElem?_set_self hil, M', h0, by rw [eo, es]; exact E'⟩
    | rt d =>
      cases e
      intro v H' s r
      refine k v H' (fun b o q => s b o ?_) (r.av fun b z => .inl (.inl z))
      have nb : b ∉ a :: bs := fun z => by rw [h0 b z] at q; cases q
      rw [ovl_out nb]
      exact q
    | bk δ1 => cases e
    | ct δ1 => cases e
end
end DL

namespace DL
open PySem PySem.Spec L2
theorem atI_ixN {α : Type} {xs : List α} {n : Int} {j : Nat} {x : α} (h : ixN xs.length n = some j) (hx : xs[j]? = some x) : atI xs n = some x := by
  unfold atI
  rw [h]
  exact hx
section
variable {H : Hp} {a b : Addr} {bs : List Addr} {rows : List (List D)} {j : Nat} {r r' : List D}
theorem Mx.put (M : Mx H a bs rows) (hb : bs[j]? = some b) (hr : rows[j]? = some r) (hs : r'.all scalar = true) : Mx (upd H b (.lst (r'.map val))) a bs (rows.set j r') := by
  have hbm : b ∈ bs := List.mem_of_getElem? hb
  have hab : a ≠ b := fun z => M.na (z ▸ hbm)
  have hjl : j < rows.length := (List.getElem?_eq_some_iff.mp hr).1
  refine ⟨by rw [upd_ne hab]; exact M.top, by rw [List.length_set]; exact M.len, M.nd, M.na, fun k b' r1 h1 h2 => ?_, fun r1 h1 => ?_⟩
  · by_cases hk : k = j
    · subst hk
      rw [hb] at h1
      cases h1
      rw [List.getElem?_set_self hjl] at h2
      cases h2
      exact upd_same
    · rw [List.getElem?_set_ne (Ne.symm hk)] at h2
      have : b' ≠ b := fun z => hk (by
        subst z
        obtain ⟨p1, k1⟩ := (List.getElem?_eq_some_iff.mp h1)
        obtain ⟨p2, k2⟩ := (List.getElem?_eq_some_iff.mp hb)
        rcases Nat.lt_trichotomy k j with h | h | h
        · exact absurd (k1.trans k2.symm) (List.pairwise_iff_getElem.mp M.nd k j p1 p2 h)
        · exact h
        · exact absurd (k2.trans k1.symm) (List.pairwise_iff_getElem.mp M.nd j k p2 p1 h))
      rw [upd_ne this]
      exact M.row k b' r1 h1 h2
  · rcases List.mem_or_eq_of_mem_set h1 with h1 | rfl
    · exact M.sc r1 h1
    · exact hs
theorem map_set_lst : (rows.map D.lst).set j (.lst r') = (rows.set j r').map D.lst := by rw [List.map_set]
theorem get_mat {d : D} (h : (rows.map D.lst)[j]? = some d) : ∃ r, rows[j]? = some r ∧ d = .lst r := by
  rw [List.getElem?_map] at h
  cases hr : rows[j]? with
  | none => rw [hr] at h; cases h
  | some r => rw [hr] at h; cases h; exact ⟨r, rfl, rfl⟩
theorem Mx.at (M : Mx H a bs rows) (hr : rows[j]? = some r) : ∃ b, bs[j]? = some b ∧ H b = some (.lst (r.map val)) := by
  have hjl : j < bs.length := by rw [M.len]; exact (List.getElem?_eq_some_iff.mp hr).1
  exact ⟨bs[j], List.getElem?_eq_getElem hjl, M.row j _ r (List.getElem?_eq_getElem hjl) hr⟩
end
section
variable {cA : Kn} {G : Cn} {ow owN owB owC ow1 : List Nat} {i : Nat}
theorem scal_of {ε : Env → Option D} {δ : Env} {d : D} (h : eScal ε δ = some d) : scalar d = true := by
  unfold eScal at h
  cases hx : ε δ with
  | none => rw [hx] at h; cases h
  | some d' =>
    rw [hx] at h
    by_cases hs : scalar d' = true
    · have e' : d' = d := by simpa [hs] using h
      rw [← e']; exact hs
    · simp [hs] at h
/-- xs[k][l] = e -/
def sSet2 (i : Nat) (κ1 κ2 ε : Env → Option D) (δ : Env) : Option Out := match eScal ε δ, eVar i δ, κ1 δ, κ2 δ with
  | some d, some (.lst xs), some (.int n), some (.int m) => match ixN xs.length n with
    | some j => match xs[j]? with
      | some (.lst r) => match ixN r.length m with
        | some l => some (.nx (δ.set i (some (.lst (xs.set j (.lst (r.set l d)))))))
        | none => none
      | _ => none
    | none => none
  | _, _, _, _ => none
/-- xs[k].append(e) -/
def sApp2 (i : Nat) (κ1 ε : Env → Option D) (δ : Env) : Option Out := match eVar i δ, κ1 δ, eScal ε δ with
  | some (.lst xs), some (.int n), some d => match ixN xs.length n with
    | some j => match xs[j]? with
      | some (.lst r) => if r.length < sizeLine then some (.nx (δ.set i (some (.lst (xs.set j (.lst (r ++ [d]))))))) else none
      | _ => none
    | none => none
  | _, _, _ => none
theorem sApp2_some {κ1 ε : Env → Option D} {δ : Env} {o : Out} (h : sApp2 i κ1 ε δ = some o) : ∃ d xs n j r, eScal ε δ = some d ∧ eVar i δ = some (.lst xs) ∧ κ1 δ = some (.int n) ∧ ixN xs.length n = some j ∧ xs[j]? = some (.lst r) ∧ r.length < sizeLine ∧ o = .nx (δ.set i (some (.lst (xs.set j (.lst (r ++ [d])))))) := by
  unfold sApp2 at h
  split at h
  · rename_i xs n d h1 h2 h3
    split at h
    · rename_i j hj
      split at h
      · rename_i r hr
        by_cases hz : r.length < sizeLine
        · rw [if_pos hz] at h
          exact ⟨d, xs, n, j, r, h3, h1, h2, hj, hr, hz, (Option.some.inj h).symm⟩
        · rw [if_neg hz] at h; cases h
      · cases h
    · cases h
  · cases h
theorem vm_app2 {te t1 : TE} {q q1 : Ql} {ε κ1 : Env → Option D} (h1 : VE G ow t1 q1 κ1) (h : VE G ow te q ε) : VM G ow ow owB owC i (tDrop (tBM G.1.K "list" rAppend (tOp (rIxX G.1.K) (tVar i) t1) (tCons te tNil))) (sApp2 i κ1 ε) := fun H0 av A σ H δ R o e De k => by
  obtain ⟨d, xs, n, j, r, e1, e2, e3, e5, e6, e7, rfl⟩ := sApp2_some e
  obtain ⟨a, bs, rows, hd, M, h0, E⟩ := R.ex
  have ex : xs = rows.map D.lst := by
    have := eVar_some e2
    rw [hd] at this
    cases this
    rfl
  subst ex
  obtain ⟨r0, hr, er⟩ := get_mat e6
  cases er
  obtain ⟨b, hb, hH⟩ := M.at hr
  refine ⟨.ref a, E.kept i _ keep_eq, h1 H0 av A σ H δ R.view _ e3 _ fun y H2 s2 r2 => ?_⟩
  have ey : y = .int n := r2.any
  subst ey
  refine .inl ⟨a, bs.map V.ref, n, .ref b, rfl, rfl, SqL.of (s2 _ _ M.top), atI_ixN (j := j) (by rw [List.length_map] at e5 ⊢; rw [M.len]; exact e5) (by rw [List.getElem?_map, hb]; rfl), .inl ⟨rfl, _, SqL.of (s2 _ _ hH)⟩, ?_⟩
  have R2 := R.mono s2
  refine h.scal H0 av A σ H2 δ R2.view d e1 _ fun v H3 s3 r3 => ?_
  have hs := scal_of e1
  have ev : v = val d := (RepT.r r3).val hs
  subst ev
  have s23 := s2.trans s3
  have M3 := M.mono s23
  refine ⟨b, r.map val, val d, rfl, rfl, s23 _ _ hH, by rw [List.length_map]; exact e7, k A σ _ ?_⟩
  rw [map_set_lst]
  have em : r.map val ++ [val d] = (r ++ [d]).map val := by rw [List.map_append]; rfl
  rw [em]
  have hrs : (r ++ [d]).all scalar = true := by
    rw [List.all_append, M.sc r (List.mem_of_getElem? hr)]
    simp [hs]
  exact MR.turn R.ni R.nn R.avd hd M3 h0 (by rw [ovl_same M s23]; exact E.mono s23) (M3.put hb hr hrs) fun x hx => upd_ne fun z => hx (z ▸ List.mem_cons_of_mem _ (List.mem_of_getElem? hb))
/-- xs.append(r), r a list of the name k's own: it is so no longer -/
def sPush (i k : Nat) (δ : Env) : Option Out := match eVar i δ, eVar k δ with
  | some (.lst xs), some (.lst r) => if xs.length < sizeLine ∧ r.all scalar = true then some (.nx ((δ.set k none).set i (some (.lst (xs ++ [.lst r]))))) else none
  | _, _ => none
end
end DL

namespace DL
open PySem PySem.Spec L2
/-- a new list of new lists -/
def VFM (G : Cn) (ow : List Nat) (te : TE) (ε : Env → Option D) : Prop :=
  ∀ H0 av A σ H δ, ER G ow H0 av A σ H δ → ∀ d, ε δ = some d → ∀ Q : VK, (∀ a bs rows H', Same H H' → (∀ x ∈ a :: bs, H x = none) → Mx H' a bs rows → d = mat rows → Q (.ref a) H') → te σ H Q
def sMat (i : Nat) (ε : Env → Option D) (δ : Env) : Option Out := match ε δ with
  | some d => if i < δ.length then some (.nx (δ.set i (some d))) else none
  | none => none
section
variable {cA : Kn} {G : Cn} {ow owN owB owC ow1 : List Nat} {i : Nat}
theorem mr_begin {H0 H H' : Hp} {av : Addr → Prop} {A : Nat → Option Addr} {σ : L2.St} {δ : Env} {a : Addr} {bs : List Addr} {rows : List (List D)} (E : ER G ow H0 av A σ H δ) (hi : i ∉ ow) (hn : G.2 i = none) (hil : i < δ.length) (s : Same H H') (hf : ∀ x ∈ a :: bs, H x = none) (M : Mx H' a bs rows) :
    MR G ow i H0 av A (σ.set i (some (.ref a))) H' (δ.set i (some (mat rows))) := by
  have h0 : ∀ x ∈ a :: bs, H0 x = none := fun x hx => E.same.free (hf x hx)
  have nF : ∀ j x, A j = some x → x ∉ a :: bs := fun j x e z => E.live j x e (hf x z)
  have E' := E.mono s
  refine ⟨hi, hn, E.avd, a, bs, rows, List.getElem?_set_self hil, M, h0, ?_⟩
  rw [List.set_set]
  refine ⟨fun b o e => ?_, fun x z => ?_, fun j x e => ?_, E.inj, E'.live, E.dom, E.dom', by rw [List.length_set, List.length_set]; exact E.len, fun j x e => ?_, fun j v e => ?_, fun j d e => ?_⟩
  · by_cases hx : b ∈ a :: bs
    · rw [ovl_in hx] at e; exact e
    · rw [ovl_out hx] at e; exact E'.same b o e
  · by_cases hx : x ∈ a :: bs
    · rw [ovl_in hx]
      obtain ⟨vs, q⟩ := M.there hx
      rw [q]; exact fun z => by cases z
    · rw [ovl_out hx]
      exact E.avd x (z.resolve_right hx)
  · rw [ovl_out (nF j x e)]
    exact E.fr j x e
  · have q : j ≠ i := fun z => by rw [z, keep_eq] at e; cases e
    exact E.pin j x (by rw [keep_ne q] at e; exact e)
  · by_cases q : j = i
    · subst q
      rw [keep_eq] at e
      cases e
      exact List.getElem?_set_self (by rw [E.len]; exact hil)
    · rw [keep_ne q] at e
      rw [List.getElem?_set_ne (Ne.symm q)]
      exact E.kept j v e
  · have q : j ≠ i := fun z => by
      rw [z, List.getElem?_set_self hil] at e
      cases e
    rw [List.getElem?_set_ne (Ne.symm q)] at e
    obtain ⟨v, h1, h2, h3⟩ := E.var j d e
    have more : ∀ b, AV (avF av (a :: bs)) A b → AV av A b ∨ H b = none := fun b z => by
      rcases z with (z | z) | z
      · exact .inl (.inl z)
      · exact .inr (hf b z)
      · exact .inl (.inr z)
    refine ⟨v, by rw [List.getElem?_set_ne (Ne.symm q)]; exact h1, fun z => ((h2 z).av more).same s, fun b z => ?_⟩
    obtain ⟨r1, r2⟩ := h3 b z
    refine ⟨r1, ?_⟩
    cases d with
    | lst xs => obtain ⟨vs, q1, q2⟩ := r2; exact ⟨vs, s _ _ q1, (q2.av more).same s⟩
    | obj c ks xs => obtain ⟨dx, vs, q1, q0, q2⟩ := r2; exact ⟨dx, vs, s _ _ q1, q0, (q2.av more).same s⟩
    | _ => exact r2
theorem WantsM.of {H0 : Hp} {av : Addr → Prop} {De : Ends} {o : Out} (k : Wants G owN owB owC H0 av De o) : WantsM G owN owB owC i H0 av De o := by
  cases o with
  | nx δ' => exact fun A' σ' H' R => k A' σ' H' R.view
  | rt d => exact k
  | bk δ' => exact fun A' σ' H' R => k A' σ' H' R.view
  | ct δ' => exact fun A' σ' H' R => k A' σ' H' R.view
/-- from here on the name i holds it -/
theorem vs_mat {te : TE} {u : TS} {ε : Env → Option D} {ψ : Env → Option Out} (i : Nat) (hi : ow.contains i = false) (hn : G.2 i = none) (h1 : VFM G ow te ε) (h2 : VM G ow owN owB owC i u ψ) : VS G ow owN owB owC (tSeq (tAsg te (gName i)) u) (sSeq (sMat i ε) ψ) := fun H0 av A σ H δ E o e De k => by
  unfold sSeq sMat at e
  cases he : ε δ with
  | none => rw [he] at e; cases e
  | some d =>
    rw [he] at e
    dsimp only at e
    by_cases hil : i < δ.length
    · rw [if_pos hil] at e
      dsimp only at e
      refine h1 H0 av A σ H δ E d he _ fun a bs rows H' s hf M hd => ?_
      subst hd
      exact h2 H0 av A _ H' _ (mr_begin E (by simpa using hi) hn hil s hf M) o e De (WantsM.of k)
    · rw [if_neg hil] at e; cases e
/-! ### defs that give such a list -/
def FW (H0 : Hp) (De : Ends) (d : D) : Prop := ∀ a bs rows H', Same H0 H' → (∀ x ∈ a :: bs, H0 x = none) → Mx H' a bs rows → d = mat rows → De.rt (.ref a) H'
def VSF (G : Cn) (ow : List Nat) (ts : TS) (φ : Env → Option Out) : Prop := ∀ H0 av A σ H δ, ER G ow H0 av A σ H δ → ∀ d, φ δ = some (.rt d) → ∀ De : Ends, FW H0 De d → ts De σ H
def VMF (G : Cn) (ow : List Nat) (i : Nat) (ts : TS) (φ : Env → Option Out) : Prop := ∀ H0 av A σ H δ, MR G ow i H0 av A σ H δ → ∀ d, φ δ = some (.rt d) → ∀ De : Ends, FW H0 De d → ts De σ H
def sSeqN (φ ψ : Env → Option Out) (δ : Env) : Option Out := match φ δ with
  | some (.nx δ') => ψ δ'
  | _ => none
theorem vmf_ret : VMF G ow i (tRet (tVar i)) (sRet (eVar i)) := fun H0 av A σ H δ R d e De k => by
  obtain ⟨a, bs, rows, hd, M, h0, E⟩ := R.ex
  have e2 : eVar i δ = some (mat rows) := by unfold eVar; rw [hd]
  unfold sRet at e
  rw [e2] at e
  cases e
  exact ⟨.ref a, E.kept i _ keep_eq, k a bs rows H R.view.same h0 M rfl⟩
theorem vmf_seq {t u : TS} {φ ψ : Env → Option Out} (h1 : VM G ow ow1 [] [] i t φ) (h2 : VMF G ow1 i u ψ) : VMF G ow i (tSeq t u) (sSeqN φ ψ) := fun H0 av A σ H δ R d e De k => by
  unfold sSeqN at e
  split at e
  · rename_i δ' hp
    exact h1 H0 av A σ H δ R _ hp _ fun A' σ' H' R' => h2 H0 av A' σ' H' δ' R' d e De k
  · cases e
theorem vsf_mat {te : TE} {u : TS} {ε : Env → Option D} {ψ : Env → Option Out} (i : Nat) (hi : ow.contains i = false) (hn : G.2 i = none) (h1 : VFM G ow te ε) (h2 : VMF G ow i u ψ) : VSF G ow (tSeq (tAsg te (gName i)) u) (sSeqN (sMat i ε) ψ) := fun H0 av A σ H δ E d e De k => by
  unfold sSeqN sMat at e
  cases he : ε δ with
  | none => rw [he] at e; cases e
  | some d' =>
    rw [he] at e
    dsimp only at e
    by_cases hil : i < δ.length
    · rw [if_pos hil] at e
      dsimp only at e
      refine h1 H0 av A σ H δ E d' he _ fun a bs rows H' s hf M hd => ?_
      subst hd
      exact h2 H0 av A _ H' _ (mr_begin E (by simpa using hi) hn hil s hf M) d e De k
    · rw [if_neg hil] at e; cases e
def runF (N : Nat) (φ : Env → Option Out) (ds : List D) : Option D := match φ (ds.map some ++ List.replicate (N - ds.length) none) with
  | some (.rt d) => some d
  | _ => none
def spM (cA : Kn) (n : Nat) (m : List D → Option D) : Sp := fun vs H Q _ => ∃ av ds d, (∀ a, av a → H a ≠ none) ∧ RepL cA av H ds vs ∧ ds.length = n ∧ m ds = some d ∧ ∀ a bs rows H', Same H H' → (∀ x ∈ a :: bs, H x = none) → Mx H' a bs rows → d = mat rows → Q (.ref a) H'
/-! ### expressions -/
theorem vfm_call {n : Nat} {m : List D → Option D} {t : TA} {q : Ql} {α : Env → Option (List D)} {E0 : XK} (dds : List D) (hd : dds.all scalar = true) (h : VA G ow t q α) : VFM G ow (tCall (spM G.1 n m) (dds.map val) E0 t) (eCall n m dds α) := fun H0 av A σ H δ E d e Q k => by
  unfold eCall at e
  cases he : α δ with
  | none => rw [he] at e; cases e
  | some ds =>
    rw [he] at e
    dsimp only at e
    by_cases hz : (ds ++ dds).length = n
    · rw [if_pos hz] at e
      refine h H0 av A σ H δ E ds he _ fun vs H1 s1 r1 => ?_
      exact ⟨av, ds ++ dds, d, (E.mono s1).avH, r1.any.append (.of_vals hd), hz, e, fun a bs rows H' s hf M hd => k a bs rows H' (s1.trans s) (fun x hx => s1.free (hf x hx)) M hd⟩
    · rw [if_neg hz] at e; cases e
theorem VFM.cl {te : TE} {ε : Env → Option D} (h : VFM G ow te ε) : VE G ow te .cl ε := fun H0 av A σ H δ E d e Q k =>
  h H0 av A σ H δ E d e Q fun a bs rows H' s hf M hd => by
    subst hd
    exact k _ H' s (M.rep fun x hx z => E.avl x z (hf x hx)).t
/-- [..] * n: a new list -/
def mulF : D → D → Option D
  | .lst a, .int n => mulX (.lst a) (.int n)
  | _, _ => none
end
section
variable {P : Program} {w : World} {K : PySem.W.Frag} {mg : Str → Option Value} {base : Heap} {cA : Kn}
theorem fn_MB {x qual : Str} {st : Stmt} {f : Addr} {fd : FuncData} {N ps : List Str} {k : Nat} {φ : Env → Option Out} {body : List Stmt} {scope : Scope} {n : Nat} {m : List D → Option D} (F : FunX K x qual st f fd) (S : FnScope N ps (defScope st)) (hS : defScope st = scope) (hB : defBody st = body)
    (hbody : ∀ (cdv : Value) (A : Around) (outer : List PySem.Env) (s : Shared) (H : Hp) (E : XK), Room k (A.deeper (PyProof.Rows.envOfC qual scope s.heap.objs.size f cdv)) →
      ∃ t, PSs (cxOf CX0 P w K mg base N qual scope f cdv A outer s H E).nox body t ∧ VSF ⟨cA, fun _ => none⟩ [] t φ) (hm : m = runF N.length φ) (hn : ps.length = n) : FnOk P w K mg base CX0 (k + 1) f fd ps (spM cA n m) := by
  subst hS hB hm hn
  refine F.ok S (fun vs H Q E h => ?_) fun cdv A outer s H vs Q E hr h => ?_
  · obtain ⟨av, ds, d, _, r, hl, _⟩ := h
    rw [← r.length, hl]
  · obtain ⟨av, ds, d, ha, r, hl, hm, q⟩ := h
    obtain ⟨t, ht, hv⟩ := hbody cdv A outer s H E hr
    refine ⟨t, ht, ?_⟩
    unfold runF at hm
    split at hm
    · rename_i d' hφ
      cases hm
      exact hv H av _ _ H _ (er_start ha r) _ hφ _ fun a bs rows H' s' hf M hd => q a bs rows H' s' hf M hd
    · cases hm
end
end DL

namespace DL
open PySem PySem.Spec L2
/-! ### a list comprehension whose items are new lists -/
def rowsOf : List D → Option (List (List D))
  | [] => some []
  | .lst r :: xs => if r.all scalar = true then (match rowsOf xs with
    | some rs => some (r :: rs)
    | none => none) else none
  | _ :: _ => none
theorem rowsOf_some : ∀ {xs : List D} {rs : List (List D)}, rowsOf xs = some rs → xs = rs.map D.lst ∧ ∀ r ∈ rs, r.all scalar = true
  | [], rs, h => by
    cases h
    exact ⟨rfl, fun r z => by cases z⟩
  | x :: xs, rs, h => by
    unfold rowsOf at h
    split at h
    · cases ‹_ :: _ = []›
    · rename_i r ys he
      cases he
      by_cases hr : r.all scalar = true
      · rw [if_pos hr] at h
        cases hq : rowsOf xs with
        | none => rw [hq] at h; cases h
        | some rs' =>
          rw [hq] at h
          cases h
          obtain ⟨h1, h2⟩ := rowsOf_some hq
          refine ⟨by rw [List.map_cons, ← h1], fun r' hr' => ?_⟩
          rcases List.mem_cons.mp hr' with rfl | z
          · exact hr
          · exact h2 r' z
      · rw [if_neg hr] at h; cases h
    · cases h
def eMat (ε : Env → Option D) (δ : Env) : Option D := match ε δ with
  | some (.lst xs) => match rowsOf xs with
    | some _ => some (.lst xs)
    | none => none
  | _ => none
section
variable {cA : Kn} {G : Cn} {ow : List Nat}
structure RowsAt (H0 H : Hp) (bs : List Addr) (rows : List (List D)) : Prop where
  len : bs.length = rows.length
  nd : bs.Nodup
  row : ∀ (k : Nat) (b : Addr) (r : List D), bs[k]? = some b → rows[k]? = some r → H b = some (.lst (r.map val))
  fr : ∀ b ∈ bs, H0 b = none
  sc : ∀ r ∈ rows, r.all scalar = true
end
end DL

namespace DL
open PySem PySem.Spec L2
/-! ### defs that give a new list -/
def FL (cA : Kn) (H0 : Hp) (av : Addr → Prop) (De : Ends) (d : D) : Prop := ∀ p vs xs H', Same H0 H' → H0 p = none → H' p = some (.lst vs) → RepL cA (fun x => av x ∨ x = p) H' xs vs → d = .lst xs → De.rt (.ref p) H'
def VSL (G : Cn) (ow : List Nat) (ts : TS) (φ : Env → Option Out) : Prop := ∀ H0 av A σ H δ, ER G ow H0 av A σ H δ → ∀ d, φ δ = some (.rt d) → ∀ De : Ends, FL G.1 H0 av De d → ts De σ H
def sRetL (i : Nat) (δ : Env) : Option Out := match eVar i δ with
  | some (.lst xs) => some (.rt (.lst xs))
  | _ => none
section
variable {cA : Kn} {G : Cn} {ow owN owB owC ow1 : List Nat} {i : Nat}
theorem vsl_seq {t u : TS} {φ ψ : Env → Option Out} (h1 : VS G ow ow1 [] [] t φ) (h2 : VSL G ow1 u ψ) : VSL G ow (tSeq t u) (sSeqN φ ψ) := fun H0 av A σ H δ E d e De k => by
  unfold sSeqN at e
  split at e
  · rename_i δ' hp
    exact h1 H0 av A σ H δ E _ hp _ fun A' σ' H' E' => h2 H0 av A' σ' H' δ' E' d e De k
  · cases e
theorem vsl_ret (i : Nat) (hi : ow.contains i = true) : VSL G ow (tRet (tVar i)) (sRetL i) := fun H0 av A σ H δ E d e De k => by
  unfold sRetL at e
  split at e
  · rename_i xs hv
    cases e
    have hi' : i ∈ ow := by simpa using hi
    cases hA : A i with
    | none => exact absurd hA (E.dom' i hi')
    | some a =>
      obtain ⟨v, h1, _, h3⟩ := E.var i _ (eVar_some hv)
      obtain ⟨rfl, vs, q1, q2⟩ := h3 a hA
      refine ⟨_, h1, k a vs xs H E.same (E.fr i a hA) q1 (q2.av fun b z => .inl ?_) rfl⟩
      rcases z with z | z
      · exact .inl z
      · rw [z]; exact .inr ⟨i, hA⟩
  · cases e
theorem vsl_retF {te : TE} {ε : Env → Option D} (h : VF G ow te ε) : VSL G ow (tRet te) (sRet ε) := fun H0 av A σ H δ E d e De k => by
  unfold sRet at e
  cases he : ε δ with
  | none => rw [he] at e; cases e
  | some d' =>
    rw [he] at e
    cases e
    refine h H0 av A σ H δ E _ he _ fun p vs xs H1 s hp l hd => ?_
    refine k p vs xs _ ((E.same.trans s).trans (same_upd hp)) (E.same.free (s.free hp)) upd_same (((l.av fun b z => ?_)).same (same_upd hp)) hd
    rcases z with z | z
    · exact .inl (.inl z)
    · rw [z]; exact .inr hp
def spL (cA : Kn) (n : Nat) (m : List D → Option D) : Sp := fun vs H Q _ => ∃ av ds d, (∀ a, av a → H a ≠ none) ∧ RepL cA av H ds vs ∧ ds.length = n ∧ m ds = some d ∧ ∀ p vs xs H', Same H H' → H p = none → H' p = some (.lst vs) → RepL cA (fun x => av x ∨ x = p) H' xs vs → d = .lst xs → Q (.ref p) H'
open Classical in
theorem vf_callL {n : Nat} {m : List D → Option D} {t : TA} {α : Env → Option (List D)} {E0 : XK} (dds : List D) (hd : dds.all scalar = true) (h : VA G ow t .cl α) : VF G ow (tCall (spL G.1 n m) (dds.map val) E0 t) (eCall n m dds α) := fun H0 av A σ H δ E d e Q k => by
  unfold eCall at e
  cases he : α δ with
  | none => rw [he] at e; cases e
  | some ds =>
    rw [he] at e
    dsimp only at e
    by_cases hz : (ds ++ dds).length = n
    · rw [if_pos hz] at e
      refine h H0 av A σ H δ E ds he _ fun vs H1 s1 r1 => ?_
      have E1 := E.mono s1
      refine ⟨AV av A, ds ++ dds, d, E1.avl, r1.cl.append (.of_vals hd), hz, e, fun p ws xs H' s hp hH' l hd => ?_⟩
      have eu : upd (fun x => if x = p then none else H' x) p (.lst ws) = H' := by
        funext x
        by_cases hx : x = p
        · subst hx; rw [upd_same, hH']
        · rw [upd_ne hx, if_neg hx]
      have := k p ws xs (fun x => if x = p then none else H' x) (fun b o q => ?_) (if_pos rfl) ((l.ext fun b o n q => ?_).av fun b z => .inl (.inl z)) hd
      · rw [eu] at this
        exact this
      · have hb : b ≠ p := fun z => by rw [z] at q; rw [s1.free hp] at q; cases q
        show (if b = p then none else H' b) = some o
        rw [if_neg hb]
        exact s b o (s1 b o q)
      · have hb : b ≠ p := fun z => n (.inr z)
        show (if b = p then none else H' b) = some o
        rw [if_neg hb]
        exact q
    · rw [if_neg hz] at e; cases e
/-! ### one name's list becomes another's -/
def sMove (i k : Nat) (δ : Env) : Option Out := match eVar k δ with
  | some d => some (.nx ((δ.set k none).set i (some d)))
  | none => none
/-! ### xs.reverse() -/
def sRev (i : Nat) (δ : Env) : Option Out := match eVar i δ with
  | some (.lst xs) => some (.nx (δ.set i (some (.lst xs.reverse))))
  | _ => none
end
section
variable {P : Program} {w : World} {K : PySem.W.Frag} {mg : Str → Option Value} {base : Heap} {cA : Kn}
theorem fn_LB {x qual : Str} {st : Stmt} {f : Addr} {fd : FuncData} {N ps : List Str} {k : Nat} {φ : Env → Option Out} {body : List Stmt} {scope : Scope} {n : Nat} {m : List D → Option D} (F : FunX K x qual st f fd) (S : FnScope N ps (defScope st)) (hS : defScope st = scope) (hB : defBody st = body)
    (hbody : ∀ (cdv : Value) (A : Around) (outer : List PySem.Env) (s : Shared) (H : Hp) (E : XK), Room k (A.deeper (PyProof.Rows.envOfC qual scope s.heap.objs.size f cdv)) →
      ∃ t, PSs (cxOf CX0 P w K mg base N qual scope f cdv A outer s H E).nox body t ∧ VSL ⟨cA, fun _ => none⟩ [] t φ) (hm : m = runF N.length φ) (hn : ps.length = n) : FnOk P w K mg base CX0 (k + 1) f fd ps (spL cA n m) := by
  subst hS hB hm hn
  refine F.ok S (fun vs H Q E h => ?_) fun cdv A outer s H vs Q E hr h => ?_
  · obtain ⟨av, ds, d, _, r, hl, _⟩ := h
    rw [← r.length, hl]
  · obtain ⟨av, ds, d, ha, r, hl, hm, q⟩ := h
    obtain ⟨t, ht, hv⟩ := hbody cdv A outer s H E hr
    refine ⟨t, ht, ?_⟩
    unfold runF at hm
    split at hm
    · rename_i d' hφ
      cases hm
      exact hv H av _ _ H _ (er_start ha r) _ hφ _ fun p vs xs H' s' h0 hp l hd => q p vs xs H' s' h0 hp l hd
    · cases hm
end
end DL
namespace L2
open PySem PySem.Spec PySem.W PyProof.Rows
theorem k_bm0 {X : Cx} {K : PySem.W.Frag} {o : Expr} {to : TE} {name : Str} {apos cpos : Pos} {T id : String} {r : V → List V → Hp → VK → Prop} (pa : PlainAttrs T) (slot : Slot T name id) (hty : typeOf (.builtin id) = pure (.type "method_descriptor")) (hm : MtR X id r) (ho : PE X o to)
    (hbase : attributeBase o name X.env (eval o X.env) = eval o X.env := by rfl) (hline : (apos.endLine == cpos.line) = true := by rfl) (hK : X.K = K := by rfl) : PE X (.Call (.Attribute o name apos) [] [] cpos) (tBM0 K T r to) := hK ▸ pe_bm0 pa slot hty hm ho hbase hline
end L2

namespace DL
open PySem PySem.Spec L2
section
variable {cA : Kn} {G : Cn} {ow owN owB owC ow1 : List Nat} {i : Nat}
/-! ### while i holds a list of lists: a name takes a new list of scalars -/
theorem MR.own {H0 H : Hp} {av : Addr → Prop} {A : Nat → Option Addr} {σ : L2.St} {δ : Env} {k : Nat} {xs : List D} {p : Addr} (R : MR G ow i H0 av A σ H δ) (hs : xs.all scalar = true) (hp : H p = none) (hk : k ≠ i) (hw : ∀ j, j ∈ ow1 ↔ j ∈ ow ∨ j = k) (hn : G.2 k = none) : MR G ow1 i H0 av (fun j => if j = k then some p else A j) (σ.set k (some (.ref p))) (upd H p (.lst (xs.map val))) (δ.set k (some (.lst xs))) := by
  obtain ⟨a, bs, rows, hd, M, h0, E⟩ := R.ex
  refine ⟨fun z => ((hw i).mp z).elim R.ni fun z => hk z.symm, R.nn, R.avd, a, bs, rows, by rw [List.getElem?_set_ne hk]; exact hd, M.mono (same_upd hp), h0, ?_⟩
  rw [List.set_comm _ _ hk, ovl_same M (same_upd hp)]
  exact E.own hp (.of_vals hs) hw (by rw [keep_ne hk]; exact hn)
def eScalL (ε : Env → Option D) (δ : Env) : Option D := match ε δ with
  | some (.lst xs) => if xs.all scalar = true then some (.lst xs) else none
  | _ => none
theorem eScalL_some {ε : Env → Option D} {δ : Env} {d : D} (h : eScalL ε δ = some d) : ∃ xs, ε δ = some (.lst xs) ∧ xs.all scalar = true ∧ d = .lst xs := by
  unfold eScalL at h
  split at h
  · rename_i xs hx
    by_cases hs : xs.all scalar = true
    · rw [if_pos hs] at h
      exact ⟨xs, hx, hs, (Option.some.inj h).symm⟩
    · rw [if_neg hs] at h; cases h
  · cases h
theorem vm_asgL {te : TE} {ε : Env → Option D} (k' : Nat) (hk : k' ≠ i) (h : VF G ow te ε) (hn : G.2 k' = none) (h1 : sub owN ow = true) (h2 : owN.contains k' = false) (h3 : sub ow (k' :: owN) = true) : VM G ow owN owB owC i (tAsg te (gName k')) (sAsg k' (eScalL ε)) := fun H0 av A σ H δ R o e De k => by
  unfold sAsg at e
  cases he : eScalL ε δ with
  | none => rw [he] at e; cases e
  | some d =>
    rw [he] at e
    cases e
    obtain ⟨xs, hx, hs, rfl⟩ := eScalL_some he
    refine h H0 av A σ H δ R.view _ hx _ fun p vs ys H1 s1 hp l hd => ?_
    cases hd
    have ev : vs = xs.map val := l.vals hs
    subst ev
    have hw := mem_minus h1 h2 h3
    obtain ⟨a, bs, rows, hd, M, h0, E⟩ := (R.mono s1).ex
    refine k (fun j => if j = k' then none else A j) (σ.set k' (some (.ref p))) (upd H1 p (.lst (xs.map val))) ⟨fun z => R.ni ((hw i).mp z).1, R.nn, R.avd, a, bs, rows, by rw [List.getElem?_set_ne hk]; exact hd, M.mono (same_upd hp), h0, ?_⟩
    rw [List.set_comm _ _ hk, ovl_same M (same_upd hp)]
    refine (E.mono (same_upd hp)).set (v := .ref p) ?_ hw (by rw [keep_ne hk]; exact hn)
    unfold Rep
    exact ⟨p, xs.map val, rfl, fun z => (E.avl p z hp).elim, SqL.of upd_same, .of_vals hs⟩
/-! ### xs.append(r); r = a new list made of r -/
theorem mr_push {H0 H : Hp} {av : Addr → Prop} {A : Nat → Option Addr} {σ : L2.St} {δ : Env} (k' : Nat) (hk : k' ≠ i) (hi : ow.contains k' = true) (hn : G.2 k' = none) (h1 : sub owN ow = true) (h2 : owN.contains k' = false) (h3 : sub ow (k' :: owN) = true) (R : MR G ow i H0 av A σ H δ) {xs r : List D} (e1 : eVar i δ = some (.lst xs)) (e2 : eVar k' δ = some (.lst r)) (hz : xs.length < sizeLine ∧ r.all scalar = true) :
    ∃ (a b : Addr) (bs : List Addr), σ[i]? = some (some (.ref a)) ∧ σ[k']? = some (some (.ref b)) ∧ H a = some (.lst (bs.map V.ref)) ∧ bs.length < sizeLine ∧ upd H a (.lst (bs.map V.ref ++ [V.ref b])) b = some (.lst (r.map val)) ∧ ¬ AV av (fun j => if j = k' then none else A j) b ∧
      MR G owN i H0 av (fun j => if j = k' then none else A j) σ (upd H a (.lst (bs.map V.ref ++ [V.ref b]))) ((δ.set k' none).set i (some (.lst (xs ++ [.lst r])))) := by
  obtain ⟨a, bs, rows, hd, M, h0, E⟩ := R.ex
  have ex : xs = rows.map D.lst := by
    have := eVar_some e1
    rw [hd] at this
    cases this
    rfl
  subst ex
  have hw := mem_minus h1 h2 h3
  have hi' : k' ∈ ow := by simpa using hi
  have hil : i < δ.length := (List.getElem?_eq_some_iff.mp hd).1
  have nF : ∀ j x, A j = some x → x ∉ a :: bs := fun j x e z => by
    have := E.fr j x e
    rw [ovl_in z] at this
    obtain ⟨vs, q⟩ := M.there z
    rw [q] at this; cases this
  cases hA : A k' with
  | none => exact absurd hA (E.dom' k' hi')
  | some b =>
    have e2' : (δ.set i none)[k']? = some (some (.lst r)) := by rw [List.getElem?_set_ne (Ne.symm hk)]; exact eVar_some e2
    obtain ⟨v, g1, _, g3⟩ := E.var k' _ e2'
    obtain ⟨rfl, vs, q1, q2⟩ := g3 b hA
    have ev : vs = r.map val := q2.vals hz.2
    subst ev
    have hbF : b ∉ a :: bs := nF k' b hA
    have hba : b ≠ a := fun z => hbF (z ▸ List.mem_cons_self)
    have hbb : b ∉ bs := fun z => hbF (List.mem_cons_of_mem _ z)
    refine ⟨a, b, bs, E.kept i _ keep_eq, g1, M.top, ?_, by rw [upd_ne hba]; exact q1, ?_, ?_⟩
    · have := hz.1
      rw [List.length_map] at this
      rw [M.len]
      exact this
    · rintro (z | ⟨j, z⟩)
      · have hb0 := E.fr k' b hA
        rw [ovl_out hbF] at hb0
        exact R.avd b z hb0
      · by_cases q : j = k'
        · simp [q] at z
        · simp [q] at z
          exact q (E.inj j k' b z hA)
    · have hM' : Mx (upd H a (.lst (bs.map V.ref ++ [V.ref b]))) a (bs ++ [b]) (rows ++ [r]) := by
        refine ⟨by rw [upd_same, List.map_append]; rfl, by rw [List.length_append, List.length_append, M.len]; rfl, ?_, ?_, fun n b' r' g1 g2 => ?_, fun r' hr' => ?_⟩
        · rw [List.nodup_append]
          refine ⟨M.nd, by simp, fun x hx y hy => ?_⟩
          rw [List.mem_singleton.mp hy]
          exact fun z => hbb (z ▸ hx)
        · intro z
          rcases List.mem_append.mp z with z | z
          · exact M.na z
          · exact hba (List.mem_singleton.mp z).symm
        · by_cases hn' : n < bs.length
          · rw [List.getElem?_append_left hn'] at g1
            rw [List.getElem?_append_left (by rw [← M.len]; exact hn')] at g2
            have : b' ≠ a := fun z => M.na (z ▸ List.mem_of_getElem? g1)
            rw [upd_ne this]
            exact M.row n b' r' g1 g2
          · rw [List.getElem?_append_right (by omega)] at g1
            rw [List.getElem?_append_right (by rw [← M.len]; omega), ← M.len] at g2
            have hnn : n - bs.length = 0 := by
              by_cases z : n - bs.length = 0
              · exact z
              · rw [List.getElem?_eq_none (by simp; omega)] at g1; cases g1
            rw [hnn] at g1 g2
            cases g1
            cases g2
            rw [upd_ne hba]
            exact q1
        · rcases List.mem_append.mp hr' with z | z
          · exact M.sc r' z
          · rw [List.mem_singleton.mp z]; exact hz.2
      have h0b : H0 b = none := by
        have := E.fr k' b hA
        rw [ovl_out hbF] at this
        exact this
      have hF' : ∀ x, x ∈ a :: (bs ++ [b]) ↔ x ∈ a :: bs ∨ x = b := fun x => by simp [or_assoc]
      have em : D.lst (rows.map D.lst ++ [.lst r]) = mat (rows ++ [r]) := by unfold mat; rw [List.map_append]; rfl
      rw [em]
      have hdl : i < (δ.set k' none).length := by rw [List.length_set]; exact hil
      refine ⟨fun z => R.ni ((hw i).mp z).1, R.nn, R.avd, a, bs ++ [b], rows ++ [r], List.getElem?_set_self hdl, hM', fun x hx => ?_, ?_⟩
      · rcases (hF' x).mp hx with z | rfl
        · exact h0 x z
        · exact h0b
      · rw [List.set_set, List.set_comm _ _ hk]
        have less : ∀ x, AV (avF av (a :: (bs ++ [b]))) (fun j => if j = k' then none else A j) x → AV (avF av (a :: bs)) A x := fun x z => by
          rcases z with (z | z) | ⟨j, z⟩
          · exact .inl (.inl z)
          · rcases (hF' x).mp z with z | rfl
            · exact .inl (.inr z)
            · exact .inr ⟨k', hA⟩
          · by_cases q : j = k'
            · simp [q] at z
            · simp [q] at z; exact .inr ⟨j, z⟩
        have hkp : ∀ x o, ¬ AV (avF av (a :: bs)) A x → H x = some o → upd H a (.lst (bs.map V.ref ++ [V.ref b])) x = some o := fun x o n e => by
          rw [upd_ne fun (z : x = a) => n (.inl (.inr (by rw [z]; exact List.mem_cons_self)))]; exact e
        have oj : ∀ j x, j ≠ k' → A j = some x → x ≠ b := fun j x hj e z => hj (E.inj j k' b (z ▸ e) hA)
        refine ⟨fun x o e => ?_, fun x z => ?_, fun j x e => ?_, fun j l x e1 e2 => ?_, fun j x e => ?_, fun j e => ?_, fun j hj => ?_, by rw [List.length_set]; exact E.len, fun j x e => ?_, E.kept, fun j d e => ?_⟩
        · by_cases hx : x ∈ a :: (bs ++ [b])
          · rw [ovl_in hx] at e; exact e
          · rw [ovl_out hx] at e
            have hx2 : x ∉ a :: bs := fun z => hx ((hF' x).mpr (.inl z))
            rw [upd_ne fun (z : x = a) => hx2 (by rw [z]; exact List.mem_cons_self)]
            exact E.same x o (by rw [ovl_out hx2]; exact e)
        · by_cases hx : x ∈ a :: (bs ++ [b])
          · rw [ovl_in hx]
            obtain ⟨vs, q⟩ := hM'.there hx
            rw [q]; exact fun z => by cases z
          · rw [ovl_out hx]
            exact R.avd x (z.resolve_right hx)
        · by_cases q : j = k'
          · simp [q] at e
          · simp [q] at e
            have nx : x ∉ a :: (bs ++ [b]) := fun z => ((hF' x).mp z).elim (nF j x e) (oj j x q e)
            rw [ovl_out nx]
            have := E.fr j x e
            rw [ovl_out (nF j x e)] at this
            exact this
        · by_cases q : j = k'
          · simp [q] at e1
          · by_cases q2 : l = k'
            · simp [q2] at e2
            · simp [q] at e1; simp [q2] at e2; exact E.inj j l x e1 e2
        · by_cases q : j = k'
          · simp [q] at e
          · simp [q] at e
            rw [upd_ne fun (z : x = a) => nF j x e (by rw [z]; exact List.mem_cons_self)]
            exact E.live j x e
        · by_cases q : j = k'
          · simp [q] at e
          · simp [q] at e; exact (hw j).mpr ⟨E.dom j e, q⟩
        · obtain ⟨g1, g2⟩ := (hw j).mp hj
          simp [g2]
          exact E.dom' j g1
        · have q : j ≠ k' := fun z => by
            rw [z] at e
            rw [keep_ne hk, hn] at e
            cases e
          simp only [q, if_false]
          exact E.pin j x e
        · have q : j ≠ k' := fun z => by
            rw [z] at e
            by_cases hl : k' < (δ.set i none).length
            · rw [List.getElem?_set_self hl] at e; cases e
            · rw [List.getElem?_eq_none (by rw [List.length_set]; omega)] at e; cases e
          obtain ⟨v, p1, p2, p3⟩ := E.var j d (by rw [List.getElem?_set_ne (Ne.symm q)] at e; exact e)
          refine ⟨v, p1, fun z => ?_, fun x z => ?_⟩
          · simp [q] at z
            exact ((p2 z).ext hkp).av fun y z => .inl (less y z)
          · simp [q] at z
            obtain ⟨r1, r2⟩ := p3 x z
            have xa : x ≠ a := fun w => nF j x z (w ▸ List.mem_cons_self)
            refine ⟨r1, ?_⟩
            cases d with
            | lst xs => obtain ⟨vs, q1, q2⟩ := r2; exact ⟨vs, by rw [upd_ne xa]; exact q1, (q2.ext hkp).av fun y z => .inl (less y z)⟩
            | obj c ks xs => obtain ⟨dx, vs, q1, q0, q2⟩ := r2; exact ⟨dx, vs, by rw [upd_ne xa]; exact q1, q0, (q2.ext hkp).av fun y z => .inl (less y z)⟩
            | _ => exact r2
def sPushF (i k : Nat) (ε : Env → Option D) (δ : Env) : Option Out := match eVar i δ, eVar k δ with
  | some (.lst xs), some (.lst r) => if xs.length < sizeLine ∧ r.all scalar = true then (match eScalL ε (δ.set i none) with
    | some d => some (.nx (((δ.set k none).set i (some (.lst (xs ++ [.lst r])))).set k (some d)))
    | none => none) else none
  | _, _ => none
theorem vm_pushF {te : TE} {ε : Env → Option D} (k' : Nat) (hk : k' ≠ i) (hi : ow.contains k' = true) (hn : G.2 k' = none) (h1 : sub owN ow = true) (h2 : owN.contains k' = false) (h3 : sub ow (k' :: owN) = true) (h : VF G owN te ε) : VM G ow ow owB owC i (tSeq (tDrop (tBM G.1.K "list" rAppend (tVar i) (tCons (tVar k') tNil))) (tAsg te (gName k'))) (sPushF i k' ε) := fun H0 av A σ H δ R o e De k => by
  unfold sPushF at e
  split at e
  · rename_i xs r e1 e2
    by_cases hz : xs.length < sizeLine ∧ r.all scalar = true
    · rw [if_pos hz] at e
      cases he : eScalL ε (δ.set i none) with
      | none => rw [he] at e; cases e
      | some d =>
        rw [he] at e
        cases e
        obtain ⟨ys, hx, hs, rfl⟩ := eScalL_some he
        obtain ⟨a, b, bs, g1, g2, top, hl, hb, hnb, R'⟩ := mr_push k' hk hi hn h1 h2 h3 R e1 e2 hz
        refine ⟨.ref a, g1, .inl ⟨rfl, _, SqL.of top⟩, .ref b, g2, a, bs.map V.ref, .ref b, rfl, rfl, top, by rw [List.length_map]; exact hl, ?_⟩
        have VW := R'.view
        have hil : i < δ.length := (List.getElem?_eq_some_iff.mp (eVar_some e1)).1
        have E2 : ER G owN H0 av (fun j => if j = k' then none else A j) σ (upd H a (.lst (bs.map V.ref ++ [V.ref b]))) (δ.set i none) := by
          refine ⟨VW.same, VW.avd, VW.fr, VW.inj, VW.live, VW.dom, VW.dom', by rw [VW.len, List.length_set, List.length_set, List.length_set], VW.pin, VW.kept, fun j d e => ?_⟩
          have hji : j ≠ i := fun z => by
            rw [z, List.getElem?_set_self hil] at e
            cases e
          rw [List.getElem?_set_ne (Ne.symm hji)] at e
          by_cases hj : j = k'
          · subst hj
            rw [eVar_some e2] at e
            cases e
            refine ⟨.ref b, g2, fun _ => ?_, fun x z => by simp at z⟩
            unfold Rep
            exact ⟨b, r.map val, rfl, fun z => (hnb z).elim, SqL.of hb, .of_vals hz.2⟩
          · exact VW.var j d (by rw [List.getElem?_set_ne (Ne.symm hji), List.getElem?_set_ne (Ne.symm hj)]; exact e)
        refine h H0 av _ σ _ _ E2 _ hx _ fun p vs zs H1 s1 hp l hd => ?_
        cases hd
        have ev : vs = ys.map val := l.vals hs
        subst ev
        have hi' : k' ∈ ow := by simpa using hi
        have hw := mem_minus h1 h2 h3
        exact k _ _ _ ((R'.mono s1).own hs hp hk (fun j => by
          constructor
          · intro z
            by_cases q : j = k'
            · exact .inr q
            · exact .inl ((hw j).mpr ⟨z, q⟩)
          · rintro (z | z)
            · exact ((hw j).mp z).1
            · rw [z]; exact hi') hn)
    · rw [if_neg hz] at e; cases e
  · cases e
/-! ### xs[k].clear() -/
def sClr2 (i : Nat) (κ1 : Env → Option D) (δ : Env) : Option Out := match eVar i δ, κ1 δ with
  | some (.lst xs), some (.int n) => match ixN xs.length n with
    | some j => match xs[j]? with
      | some (.lst _) => some (.nx (δ.set i (some (.lst (xs.set j (.lst []))))))
      | _ => none
    | none => none
  | _, _ => none
theorem vm_clr2 {t1 : TE} {q1 : Ql} {κ1 : Env → Option D} (h1 : VE G ow t1 q1 κ1) : VM G ow ow owB owC i (tDrop (tBM0 G.1.K "list" rClear (tOp (rIxX G.1.K) (tVar i) t1))) (sClr2 i κ1) := fun H0 av A σ H δ R o e De k => by
  unfold sClr2 at e
  split at e
  · rename_i xs n e2 e3
    split at e
    · rename_i j e5
      split at e
      · rename_i r e6
        cases e
        obtain ⟨a, bs, rows, hd, M, h0, E⟩ := R.ex
        have ex : xs = rows.map D.lst := by
          have := eVar_some e2
          rw [hd] at this
          cases this
          rfl
        subst ex
        obtain ⟨r0, hr, er⟩ := get_mat e6
        cases er
        obtain ⟨b, hb, hH⟩ := M.at hr
        refine ⟨.ref a, E.kept i _ keep_eq, h1 H0 av A σ H δ R.view _ e3 _ fun y H2 s2 r2 => ?_⟩
        have ey : y = .int n := r2.any
        subst ey
        refine .inl ⟨a, bs.map V.ref, n, .ref b, rfl, rfl, SqL.of (s2 _ _ M.top), atI_ixN (j := j) (by rw [List.length_map] at e5 ⊢; rw [M.len]; exact e5) (by rw [List.getElem?_map, hb]; rfl), .inl ⟨rfl, _, SqL.of (s2 _ _ hH)⟩, b, _, rfl, rfl, s2 _ _ hH, k A σ _ ?_⟩
        have M3 := M.mono s2
        rw [map_set_lst]
        exact MR.turn R.ni R.nn R.avd hd M3 h0 (by rw [ovl_same M s2]; exact E.mono s2) (M3.put (r' := []) hb hr rfl) fun x hx => upd_ne fun z => hx (z ▸ List.mem_cons_of_mem _ (List.mem_of_getElem? hb))
      · cases e
    · cases e
  · cases e
/-! ### [r]: a new list of one new list -/
theorem vfm_one {te : TE} {ε : Env → Option D} (h : VF G ow te ε) : VFM G ow (tLst (tCons te tNil)) (eMat (eLst (eCons ε eNil))) := fun H0 av A σ H δ E d e Q k => by
  unfold eMat at e
  split at e
  · rename_i full hfull
    split at e
    · rename_i rs hrs
      have ed : D.lst full = d := Option.some.inj e
      obtain ⟨hfe, hfs⟩ := rowsOf_some hrs
      unfold eLst eCons at hfull
      cases he : ε δ with
      | none => rw [he] at hfull; cases hfull
      | some y =>
        rw [he] at hfull
        have hf : full = [y] := by
          have : (some (D.lst [y]) : Option D) = some (D.lst full) := hfull
          cases this
          rfl
        refine h H0 av A σ H δ E y he _ fun b vs zs H1 s1 hb l hy => ?_
        subst hy
        have hzs : zs.all scalar = true := by
          have hm : D.lst zs ∈ full := by rw [hf]; exact List.mem_cons_self
          rw [hfe] at hm
          obtain ⟨r, hr1, hr2⟩ := List.mem_map.mp hm
          cases hr2
          exact hfs _ hr1
        have ev : vs = zs.map val := l.vals hzs
        subst ev
        refine ⟨by show 1 ≤ sizeLine; decide, fun p hp => ?_⟩
        have hbp : b ≠ p := fun z => by rw [← z, upd_same] at hp; cases hp
        have hp1 : H1 p = none := by rw [upd_ne (Ne.symm hbp)] at hp; exact hp
        refine k p [b] [zs] _ ((s1.trans (same_upd hb)).trans (same_upd hp)) (fun x hx => ?_) ⟨upd_same, rfl, by simp, fun z => hbp (List.mem_singleton.mp z).symm, fun n b' r g1 g2 => ?_, fun r hr => by rw [List.mem_singleton.mp hr]; exact hzs⟩ (by rw [← ed, hf]; rfl)
        · rcases List.mem_cons.mp hx with rfl | z
          · exact s1.free hp1
          · rw [List.mem_singleton.mp z]; exact s1.free hb
        · cases n with
          | zero =>
            cases g1
            cases g2
            rw [upd_ne hbp]
            exact upd_same
          | succ n => simp at g1
    · cases e
  · cases e
end
end DL

namespace DL
open PySem PySem.Spec L2
/-! ### the functions of data, reckoned -/
theorem eqD_int (i j : Int) : eqD (.int i) (.int j) = some (.bl (decide (i = j))) := by
  show (if (scalar (.int i) && scalar (.int j) && scal (V.int i) (V.int j)) = true then some (D.bl (decide (V.int i = V.int j))) else _) = _
  rw [if_pos (by rfl)]
  simp
theorem eqD_str (a b : List Nat) : eqD (.str a) (.str b) = some (.bl (decide (a = b))) := by
  show (if (scalar (.str a) && scalar (.str b) && scal (S a) (S b)) = true then some (D.bl (decide (S a = S b))) else _) = _
  rw [if_pos (by rfl)]
  simp only [S_inj]
theorem eqD_bl' (a b : Bool) : eqD (.bl a) (.bl b) = some (.bl (decide (a = b))) := by
  show (if (scalar (.bl a) && scalar (.bl b) && scal (V.bl a) (V.bl b)) = true then some (D.bl (decide (V.bl a = V.bl b))) else _) = _
  rw [if_pos (by rfl)]
  simp
theorem eqD_nn : eqD .non .non = some (.bl true) := rfl
theorem eqD_ni (i : Int) : eqD .non (.int i) = some (.bl false) := by
  show (if (scalar .non && scalar (.int i) && scal V.non (V.int i)) = true then some (D.bl (decide (V.non = V.int i))) else _) = _
  rw [if_pos (by rfl)]
  simp
theorem eqD_in (i : Int) : eqD (.int i) .non = some (.bl false) := by
  show (if (scalar (.int i) && scalar .non && scal (V.int i) V.non) = true then some (D.bl (decide (V.int i = V.non))) else _) = _
  rw [if_pos (by rfl)]
  simp
theorem neD_int (i j : Int) : neD (.int i) (.int j) = some (.bl (!decide (i = j))) := by unfold neD; rw [eqD_int]
theorem neD_str (i j : List Nat) : neD (.str i) (.str j) = some (.bl (!decide (i = j))) := by unfold neD; rw [eqD_str]
theorem neD_nn : neD .non .non = some (.bl false) := by unfold neD; rw [eqD_nn]; rfl
theorem neD_ni (i : Int) : neD .non (.int i) = some (.bl true) := by unfold neD; rw [eqD_ni]; rfl
theorem neD_in (i : Int) : neD (.int i) .non = some (.bl true) := by unfold neD; rw [eqD_in]; rfl
/-- a for: what holds between two turns -/
theorem forD_inv {γ : D → Env → Option Env} {φ : Env → Option Out} (I : Nat → Env → Prop) : ∀ (xs : List D) (k : Nat) (δ : Env), I k δ →
    (∀ (j : Nat) x δ, xs[j]? = some x → I (k + j) δ → ∃ δ1, γ x δ = some δ1 ∧ ∃ δ2, φ δ1 = some (.nx δ2) ∧ I (k + j + 1) δ2) → ∃ δ', forD γ φ xs δ = some (.nx δ') ∧ I (k + xs.length) δ'
  | [], k, δ, h, _ => ⟨δ, rfl, h⟩
  | x :: xs, k, δ, h, step => by
    obtain ⟨δ1, h1, δ2, h2, h3⟩ := step 0 x δ rfl h
    obtain ⟨δ', h4, h5⟩ := forD_inv I xs (k + 1) δ2 h3 fun j y δ hy hI => by
      have := step (j + 1) y δ (by simpa using hy) (by rwa [show k + (j + 1) = k + 1 + j by omega])
      rwa [show k + (j + 1) + 1 = k + 1 + j + 1 by omega] at this
    refine ⟨δ', ?_, by rwa [List.length_cons, show k + (xs.length + 1) = k + 1 + xs.length by omega]⟩
    unfold forD
    rw [h1]
    dsimp only
    rw [h2]
    exact h4
/-- .. with one -/
theorem compD_filter {γ : D → Env → Option Env} {τ : Env → Option Bool} {ε : Env → Option D} {δ0 : Env} (p : D → Bool) (f : D → D) : ∀ (xs : List D), (∀ x ∈ xs, ∃ δ1, γ x δ0 = some δ1 ∧ τ δ1 = some (p x) ∧ (p x = true → ε δ1 = some (f x))) → compD γ τ ε δ0 xs = some ((xs.filter p).map f)
  | [], _ => rfl
  | x :: xs, h => by
    obtain ⟨δ1, h1, h2, h3⟩ := h x List.mem_cons_self
    have ih := compD_filter p f xs fun y hy => h y (List.mem_cons_of_mem _ hy)
    unfold compD
    rw [h1]
    dsimp only
    rw [h2]
    cases hp : p x with
    | false => rw [List.filter_cons_of_neg (by simp [hp])]; exact ih
    | true =>
      rw [List.filter_cons_of_pos hp]
      dsimp only
      rw [h3 hp, ih]
      rfl
end DL
namespace DL
open PySem PySem.Spec L2
end DL
namespace DL
open PySem PySem.Spec L2
end DL

namespace DL
open PySem PySem.Spec L2
/-! ### stepping through a def -/
theorem seq_nx {a b : Env → Option Out} {δ δ' : Env} (h : a δ = some (.nx δ')) : sSeq a b δ = b δ' := by
  unfold sSeq; rw [h]
theorem seq_rt {a b : Env → Option Out} {δ : Env} {d : D} (h : a δ = some (.rt d)) : sSeq a b δ = some (.rt d) := by
  unfold sSeq; rw [h]
theorem asg_of {i : Nat} {e : Env → Option D} {δ : Env} {d : D} (h : e δ = some d) : sAsg i e δ = some (.nx (δ.set i (some d))) := by
  unfold sAsg; rw [h]
theorem ret_of {e : Env → Option D} {δ : Env} {d : D} (h : e δ = some d) : sRet e δ = some (.rt d) := by
  unfold sRet; rw [h]
theorem if_yes {t : Env → Option Bool} {a b : Env → Option Out} {δ : Env} (h : t δ = some true) : sIf t a b δ = a δ := by
  unfold sIf; rw [h]
theorem if_no {t : Env → Option Bool} {a b : Env → Option Out} {δ : Env} (h : t δ = some false) : sIf t a b δ = b δ := by
  unfold sIf; rw [h]
theorem xB_of {e : Env → Option D} {δ : Env} {b : Bool} (h : e δ = some (.bl b)) : xB e δ = some b := by
  unfold xB; rw [h]; rfl
theorem xNot_of {t : Env → Option Bool} {δ : Env} {b : Bool} (h : t δ = some b) : xNot t δ = some (!b) := by
  unfold xNot; rw [h]
theorem xOr_no {a b : Env → Option Bool} {δ : Env} {x : Bool} (h1 : a δ = some false) (h2 : b δ = some x) : xOr a b δ = some x := by
  unfold xOr; rw [h1]; exact h2
theorem call_of {n : Nat} {m : List D → Option D} {α : Env → Option (List D)} {δ : Env} {ds : List D} (h : α δ = some ds) (hn : ds.length = n) : eCall n m [] α δ = m ds := by
  unfold eCall
  rw [h]
  dsimp only
  rw [List.append_nil, if_pos hn]
theorem cons_of {a : Env → Option D} {b : Env → Option (List D)} {δ : Env} {x : D} {xs : List D} (h1 : a δ = some x) (h2 : b δ = some xs) : eCons a b δ = some (x :: xs) := by
  unfold eCons; rw [h1, h2]
theorem op_of {f : D → D → Option D} {a b : Env → Option D} {δ : Env} {x y : D} (h1 : a δ = some x) (h2 : b δ = some y) : eOp f a b δ = f x y := by
  unfold eOp; rw [h1, h2]
theorem and_yes {a b : Env → Option D} {δ : Env} {x : D} (h1 : a δ = some (.bl true)) (h2 : b δ = some x) : eAnd a b δ = some x := by
  unfold eAnd; rw [h1]; exact h2
theorem lst_of {α : Env → Option (List D)} {δ : Env} {ds : List D} (h : α δ = some ds) (hl : ds.length ≤ 1000) : eLst α δ = (some (.lst ds) : Option D) := by
  unfold eLst; rw [h]
  exact if_pos (Nat.le_trans hl (by decide))
/-- a for: what holds between two turns, whichever -/
theorem forD_keep {γ : D → Env → Option Env} {φ : Env → Option Out} (I : Env → Prop) : ∀ (xs : List D) (δ : Env), I δ →
    (∀ x ∈ xs, ∀ δ, I δ → ∃ δ1, γ x δ = some δ1 ∧ ∃ δ2, φ δ1 = some (.nx δ2) ∧ I δ2) → ∃ δ', forD γ φ xs δ = some (.nx δ') ∧ I δ'
  | [], δ, h, _ => ⟨δ, rfl, h⟩
  | x :: xs, δ, h, step => by
    obtain ⟨δ1, h1, δ2, h2, h3⟩ := step x List.mem_cons_self δ h
    obtain ⟨δ', h4, h5⟩ := forD_keep I xs δ2 h3 fun y hy => step y (List.mem_cons_of_mem _ hy)
    refine ⟨δ', ?_, h5⟩
    unfold forD
    rw [h1]
    dsimp only
    rw [h2]
    exact h4
theorem rng_mem {lo c : Int} {n : Nat} {x : D} (h : x ∈ rngI lo c n) : ∃ k : Nat, k < n ∧ x = .int (lo + (k : Nat) * c) := by
  unfold rngI at h
  obtain ⟨k, hk, rfl⟩ := List.mem_map.mp h
  exact ⟨k, List.mem_range.mp hk, rfl⟩
/-- a while: a measure that falls -/
theorem while_of {τ : Env → Option Bool} {φ : Env → Option Out} (I J : Env → Prop) (μ : Env → Nat)
    (step : ∀ δ, I δ → (τ δ = some false ∧ J δ) ∨ (τ δ = some true ∧ ∃ δ', φ δ = some (.nx δ') ∧ I δ' ∧ μ δ' < μ δ)) :
    ∀ (k : Nat) (δ : Env), μ δ ≤ k → I δ → ∃ n δ', whileD τ φ n δ = some (.nx δ') ∧ J δ'
  | 0, δ, hk, h => by
    rcases step δ h with ⟨h1, h2⟩ | ⟨h1, δ', h2, h3, h4⟩
    · exact ⟨1, δ, by unfold whileD; rw [h1], h2⟩
    · omega
  | k + 1, δ, hk, h => by
    rcases step δ h with ⟨h1, h2⟩ | ⟨h1, δ', h2, h3, h4⟩
    · exact ⟨1, δ, by unfold whileD; rw [h1], h2⟩
    · obtain ⟨n, δ2, h5, h6⟩ := while_of I J μ step k δ' (by omega) h3
      refine ⟨n + 1, δ2, ?_, h6⟩
      unfold whileD
      rw [h1]
      dsimp only
      rw [h2]
      exact h5
theorem sWhile_inv {τ : Env → Option Bool} {φ : Env → Option Out} (I J : Env → Prop) (μ : Env → Nat)
    (step : ∀ δ, I δ → (τ δ = some false ∧ J δ) ∨ (τ δ = some true ∧ ∃ δ', φ δ = some (.nx δ') ∧ I δ' ∧ μ δ' < μ δ)) (δ : Env) (h : I δ) : ∃ δ', sWhile τ φ δ = some (.nx δ') ∧ J δ' := by
  obtain ⟨n, δ', h1, h2⟩ := while_of I J μ step (μ δ) δ (Nat.le_refl _) h
  exact ⟨δ', sWhile_of h1, h2⟩
/-! ### ints -/
theorem fdivW_of {i j : Int} (h1 : j ≠ 0) (h2 : Wd j) : fdivW (.int i) (.int j) = some (.int (i.fdiv j)) := if_pos ⟨h1, h2⟩
theorem modW_of {i j : Int} (h1 : j ≠ 0) : modW (.int i) (.int j) = some (.int (i.fmod j)) := if_pos h1
theorem powW_of {i j : Int} (h : CPow i j) : powW (.int i) (.int j) = some (.int (i ^ j.toNat)) := if_pos h
theorem fmod_le {a b : Int} (h : 0 < b) : 0 ≤ a.fmod b ∧ a.fmod b < b := by
  rw [Int.fmod_eq_emod_of_nonneg a (by omega)]
  exact ⟨Int.emod_nonneg a (by omega), Int.emod_lt_of_pos a h⟩
end DL

namespace DL
open PySem PySem.Spec L2
theorem iotaR1 {α : Env → Option (List D)} {δ : Env} {j : Int} (h : α δ = some [.int j]) (h1 : -1000000 ≤ j) (h2 : j ≤ 1000000) : iotaR α δ = some (rngI 0 1 j.toNat) := by
  unfold iotaR
  rw [h]
  dsimp only
  rw [if_pos ⟨by omega, by omega⟩]
theorem app_of {i : Nat} {ε : Env → Option D} {δ : Env} {xs : List D} {d : D} (h1 : eVar i δ = some (.lst xs)) (h2 : ε δ = some d) (hl : xs.length ≤ 1000000) : sApp i ε δ = some (.nx (δ.set i (some (.lst (xs ++ [d]))))) := by
  unfold sApp
  rw [h1]
  dsimp only
  rw [h2]
  dsimp only
  rw [if_pos (by rw [PySem.sizeLine_eq]; omega)]
theorem rng_get {n j : Nat} {x : D} (h : (rngI 0 1 n)[j]? = some x) : j < n ∧ x = .int (j : Nat) := by
  have hj : j < n := by have := (List.getElem?_eq_some_iff.mp h).1; simpa [rngI] using this
  refine ⟨hj, ?_⟩
  unfold rngI at h
  rw [List.getElem?_map, List.getElem?_range hj] at h
  have := Option.some.inj h
  rw [← this]
  show D.int (0 + (j : Int) * 1) = _
  rw [show (0 + (j : Int) * 1) = j by omega]
theorem rng_len (lo c : Int) (n : Nat) : (rngI lo c n).length = n := by simp [rngI]
theorem for_of {ι : Env → Option (List D)} {γ : D → Env → Option Env} {φ : Env → Option Out} {δ : Env} {xs : List D} {o : Out} (h1 : ι δ = some xs) (h2 : forD γ φ xs δ = some o) : sFor ι γ φ δ = some o := by
  unfold sFor
  rw [h1]
  exact h2
theorem comp_of {ι : Env → Option (List D)} {γ : D → Env → Option Env} {τ : Env → Option Bool} {ε : Env → Option D} {n : Nat} {js : List Nat} {δ δ0 : Env} {xs ys : List D} (h1 : ι δ = some xs) (hb : blkD n δ js = δ0) (h2 : compD γ τ ε δ0 xs = some ys) (hl : ys.length ≤ 1000000) : eComp ι γ τ ε n js δ = some (.lst ys) := by
  unfold eComp
  rw [h1]
  dsimp only
  rw [hb, h2]
  dsimp only
  rw [if_pos (by rw [PySem.sizeLine_eq]; omega)]
theorem cb_of {f : List D → Option D} {α : Env → Option (List D)} {δ : Env} {ds : List D} (h : α δ = some ds) : eCB f α δ = f ds := by
  unfold eCB
  rw [h]
theorem run_of {n : Nat} {f : Env → Option Out} {vs : List D} {δ : Env} {d : D} (h1 : (vs.map some ++ List.replicate (n - vs.length) none) = δ) (h2 : f δ = some (.rt d)) : DL.run n f vs = some d := by
  unfold DL.run
  rw [h1, h2]
theorem nil_of {δ : Env} : eNil δ = some [] := rfl
theorem isi_of {t : List (String × Bool)} {a : Env → Option D} {δ : Env} {d : D} {b : Bool} (h1 : a δ = some d) (h2 : isiD t d = some b) : eIsi t a δ = some (.bl b) := by
  unfold eIsi
  rw [h1]
  dsimp only
  rw [h2]
end DL

namespace DL
open PySem PySem.Spec L2
/-! ### == over lists and tuples -/
theorem eqD_self {x : D} (hs : scalar x = false) (h : SeqAt.shaped (toP x) = true) : eqD x x = some (.bl true) := by
  unfold eqD
  rw [if_neg (by simp [hs]), h, if_pos (by rfl)]
  rw [SeqAt.eqv_refl _ (SeqAt.canLay_of_shaped h)]
def Codes (w : List Nat) : Prop := ∀ c ∈ w, c < 1114112
theorem canLay_ints : ∀ ws : List Int, PyData.canLayAll0 (toPs (ws.map D.int)) = true
  | [] => rfl
  | w :: ws => by rw [List.map_cons, toPs, PyData.canLayAll0, canLay_ints ws]; rfl
theorem depth_ints : ∀ ws : List Int, PyData.depthAll (toPs (ws.map D.int)) = 0
  | [] => rfl
  | w :: ws => by rw [List.map_cons, toPs, PyData.depthAll, depth_ints ws]; rfl
theorem shaped_ints (ws : List Int) : SeqAt.shaped (toP (.lst (ws.map D.int))) = true := by
  simp [SeqAt.shaped, toP, PyData.canLay0, PyData.depth, canLay_ints, depth_ints]
end DL

namespace DL
open PySem PySem.Spec L2
/-! ### small things -/
theorem ixN_nat {n a : Nat} (h : a < n) : ixN n (a : Int) = some a := by
  unfold ixN
  rw [if_pos (by omega), if_pos (by omega), Int.toNat_natCast]
theorem ix_at {xs : List D} {a : Nat} {x : D} (h : xs[a]? = some x) : ixD (.lst xs) (.int (a : Int)) = some x := atI_nat h
theorem ix_ints {cs : List Int} {a : Nat} (h : a < cs.length) : ixD (.lst (cs.map D.int)) (.int (a : Int)) = some (.int (cs.getD a 0)) := by
  refine ix_at ?_
  rw [List.getElem?_map, List.getElem?_eq_getElem h, List.getD_eq_getElem?_getD, List.getElem?_eq_getElem h]
  rfl
theorem nat_of {i : Int} (h : 0 ≤ i) : ∃ a : Nat, i = (a : Int) := ⟨i.toNat, (Int.toNat_of_nonneg h).symm⟩
theorem len_lst {xs : List D} : lenD [.lst xs] = some (.int (xs.length : Int)) := rfl
end DL

namespace K28
open PySem PySem.Spec L2 DL
def it_bool : List (String × Bool) := [("NoneType", false), ("bool", true), ("int", false), ("str", false), ("list", false), ("tuple", false)]
def it_int : List (String × Bool) := [("NoneType", false), ("bool", true), ("int", true), ("str", false), ("list", false), ("tuple", false)]
def it_list : List (String × Bool) := [("NoneType", false), ("bool", false), ("int", false), ("str", false), ("list", true), ("tuple", false)]
noncomputable def f_borne : DL.Env → Option Out :=
  (sRet (eComp (iotaA (eVar 0)) (gSet 0) (fun _ => some true) (eCB sumLD (eCons (eComp (iotaZ (eVar 0) (eVar 1)) (gTupD 2 (gsCons 0 (gsCons 1 gsNil))) (fun _ => some true) (eOp mulW (eVar 0) (eVar 1)) 2 []) eNil)) 1 [1]))
noncomputable def m_borne : List D → Option D := run 2 f_borne
noncomputable def f_bears : DL.Env → Option Out :=
  (sRet (eCB (allD fun bs => bs.all id) (eCons (eComp (iotaZ (eCall 2 m_borne [] (eCons (eVar 0) (eCons (eVar 2) eNil))) (eVar 2)) (gTupD 2 (gsCons 0 (gsCons 1 gsNil))) (fun _ => some true) (eOp (cmpD fun i j => decide (j ≤ i)) (eVar 0) (eOp mulW (eVar 2) (eVar 1))) 2 [1]) eNil)))
noncomputable def m_bears : List D → Option D := run 3 f_bears
noncomputable def f_shrunk : DL.Env → Option Out :=
  (sRet (eComp (iotaZ (eCall 2 m_borne [] (eCons (eVar 0) (eCons (eVar 2) eNil))) (eVar 2)) (gTupD 2 (gsCons 0 (gsCons 1 gsNil))) (fun _ => some true) (eCB minD (eCons (eVar 1) (eCons (eOp fdivW (eVar 0) (eVar 2)) eNil))) 2 [1]))
noncomputable def m_shrunk : List D → Option D := runF 3 f_shrunk
noncomputable def f_rounds : DL.Env → Option Out :=
  (sSeqN (sMat 3 (eMat (eLst (eCons (eCB listX (eCons (eVar 2) eNil)) eNil))))
  (sSeqN (sHide 3 (sAsg 4 (eCall 3 m_shrunk [] (eCons (eVar 0) (eCons (eVar 1) (eCons (eVar 2) eNil))))))
  (sSeqN (sWhile (xB (eOp neD (eVar 4) (eOp ixD (eVar 3) (eUn negD (eC (.int 1)))))) (sPushF 3 4 (eCall 3 m_shrunk [] (eCons (eVar 0) (eCons (eVar 1) (eCons (eVar 4) eNil))))))
  (sRet (eVar 3)))))
noncomputable def m_rounds : List D → Option D := runF 5 f_rounds
noncomputable def f__law_cell_at : DL.Env → Option Out :=
  (sSeq (sIf (xB (eOp (cmpD fun i j => decide (i < j)) (eVar 1) (eCB lenD (eCons (eVar 0) eNil)))) (sRet (eOp ixD (eVar 0) (eVar 1))) sNext)
  (sRet (eC (.int 0))))
noncomputable def m__law_cell_at : List D → Option D := run 2 f__law_cell_at
noncomputable def f__law_is_whole : DL.Env → Option Out :=
  (sRet (eAnd (eIsi it_int (eVar 0)) (eNot (eIsi it_bool (eVar 0)))))
noncomputable def m__law_is_whole : List D → Option D := run 1 f__law_is_whole
noncomputable def f__law_row : DL.Env → Option Out :=
  (sSeq (sIf (xOr (xNot (xB (eIsi it_list (eVar 0)))) (xB (eOp neD (eCB lenD (eCons (eVar 0) eNil)) (eVar 1)))) (sRet (eC (.bl false))) sNext)
  (sSeq (sFor (iotaA (eVar 0)) (gSet 2) (sIf (xNot (xB (eCall 1 m__law_is_whole [] (eCons (eVar 2) eNil)))) (sRet (eC (.bl false))) sNext))
  (sRet (eC (.bl true)))))
noncomputable def m__law_row : List D → Option D := run 3 f__law_row
noncomputable def f__law_entry : DL.Env → Option Out :=
  (sSeq (sAsg 1 (eOp modW (eVar 0) (eC (.int 4))))
  (sSeq (sIf (xB (eOp eqD (eVar 1) (eC (.int 0)))) (sRet (eC (.int 0))) sNext)
  (sRet (eOp modW (eOp fdivW (eVar 0) (eC (.int 4))) (eOp ixD (eLst (eCons (eC (.int 3)) (eCons (eC (.int 12)) (eCons (eOp powW (eC (.int 10)) (eC (.int 12))) eNil)))) (eOp subD (eVar 1) (eC (.int 1))))))))
noncomputable def m__law_entry : List D → Option D := run 2 f__law_entry
noncomputable def f__law_table : DL.Env → Option Out :=
  (sSeq (sAsg 3 (eLst eNil))
  (sSeq (sFor (iotaR (eCons (eVar 2) eNil)) (gSet 4) (sApp 3 (eComp (iotaR (eCons (eVar 2) eNil)) (gSet 0) (fun _ => some true) (eCall 1 m__law_entry [] (eCons (eCall 2 m__law_cell_at [] (eCons (eVar 1) (eCons (eOp addD (eOp addD (eVar 2) (eOp mulW (eVar 3) (eVar 4))) (eVar 0)) eNil))) eNil)) 1 [0, 1, 4, 2])))
  (sRet (eVar 3))))
noncomputable def m__law_table : List D → Option D := run 5 f__law_table
noncomputable def f__law_wish : DL.Env → Option Out :=
  (sSeq (sAsg 2 (eCB maxLD (eCons (eComp (iotaA (eVar 1)) (gSet 0) (fun _ => some true) (eCB sumLD (eCons (eVar 0) eNil)) 1 []) eNil)))
  (sSeq (sIf (xB (eOp eqD (eOp modW (eVar 0) (eC (.int 3))) (eC (.int 0)))) (sRet (eOp addD (eC (.int 1)) (eOp modW (eOp fdivW (eVar 0) (eC (.int 3))) (eC (.int 5))))) sNext)
  (sRet (eOp addD (eC (.int 1)) (eOp modW (eOp fdivW (eVar 0) (eC (.int 3))) (eOp addD (eVar 2) (eC (.int 2))))))))
noncomputable def m__law_wish : List D → Option D := run 3 f__law_wish
noncomputable def f__law_sums : DL.Env → Option Out :=
  (sSeqN (sAsg 2 (eLst eNil))
  (sSeqN (sFor (iotaA (eVar 0)) (gSet 3) (sSeq (sAsg 4 (eC (.int 0)))
  (sSeq (sFor (iotaR (eCons (eCB lenD (eCons (eVar 3) eNil)) eNil)) (gSet 5) (sAsg 4 (eOp addD (eVar 4) (eOp mulW (eOp ixD (eVar 3) (eVar 5)) (eOp ixD (eVar 1) (eVar 5))))))
  (sApp 2 (eVar 4)))))
  (sRetL 2)))
noncomputable def m__law_sums : List D → Option D := runF 6 f__law_sums
noncomputable def f__law_shrunk : DL.Env → Option Out :=
  (sSeqN (sAsg 3 (eCall 2 m__law_sums [] (eCons (eVar 0) (eCons (eVar 2) eNil))))
  (sSeqN (sFor (iotaR (eCons (eCB lenD (eCons (eVar 3) eNil)) eNil)) (gSet 4) (sSeq (sSetI 3 (eVar 4) (eOp fdivW (eOp ixD (eVar 3) (eVar 4)) (eVar 1)))
  (sIf (xB (eOp (cmpD fun i j => decide (i < j)) (eOp ixD (eVar 2) (eVar 4)) (eOp ixD (eVar 3) (eVar 4)))) (sSetI 3 (eVar 4) (eOp ixD (eVar 2) (eVar 4))) sNext)))
  (sRetL 3)))
noncomputable def m__law_shrunk : List D → Option D := runF 5 f__law_shrunk
noncomputable def f__law_once : DL.Env → Option Out :=
  (sSeq (sAsg 3 (eCall 2 m__law_sums [] (eCons (eVar 0) (eCons (eVar 2) eNil))))
  (sSeq (sAsg 4 (eComp (iotaR (eCons (eCB lenD (eCons (eVar 3) eNil)) eNil)) (gSet 0) (xB (eOp (cmpD fun i j => decide (i < j)) (eOp ixD (eVar 1) (eVar 0)) (eOp mulW (eVar 2) (eOp ixD (eVar 3) (eVar 0))))) (eVar 0) 1 [3, 1, 2]))
  (sSeq (sAsg 5 (eCB listX (eCons (eVar 2) eNil)))
  (sSeq (sAsg 6 (eCall 3 m_bears [] (eCons (eVar 0) (eCons (eVar 1) (eCons (eVar 5) eNil)))))
  (sSeq (sIf (xOr (xNot (xB (eIsi it_bool (eVar 6)))) (xB (eOp neD (eVar 6) (eOp eqD (eCB lenD (eCons (eVar 4) eNil)) (eC (.int 0)))))) (sRet (eC (.bl false))) sNext)
  (sSeq (sAsg 7 (eCall 3 m_shrunk [] (eCons (eVar 0) (eCons (eVar 1) (eCons (eVar 5) eNil)))))
  (sSeq (sIf (xOr (xNot (xB (eCall 2 m__law_row [] (eCons (eVar 7) (eCons (eCB lenD (eCons (eVar 2) eNil)) eNil))))) (xB (eOp neD (eVar 7) (eCall 3 m__law_shrunk [] (eCons (eVar 0) (eCons (eVar 1) (eCons (eVar 2) eNil))))))) (sRet (eC (.bl false))) sNext)
  (sSeq (sApp 7 (eC (.int 1)))
  (sRet (eOp eqD (eVar 5) (eVar 2)))))))))))
noncomputable def m__law_once : List D → Option D := run 8 f__law_once
noncomputable def f__law_rounds : DL.Env → Option Out :=
  (sSeq (sAsg 3 (eCB listX (eCons (eVar 2) eNil)))
  (sSeq (sMat 4 (eCall 3 m_rounds [] (eCons (eVar 0) (eCons (eVar 1) (eCons (eVar 3) eNil)))))
  (sSeq (sIf (xOr (xB (eOp neD (eVar 3) (eVar 2))) (xOr (xNot (xB (eIsi it_list (eVar 4)))) (xOr (xB (eOp eqD (eCB lenD (eCons (eVar 4) eNil)) (eC (.int 0)))) (xB (eOp neD (eOp ixD (eVar 4) (eC (.int 0))) (eVar 2)))))) (sRet (eC (.bl false))) sNext)
  (sSeq (sFor (iotaR (eCons (eCB lenD (eCons (eVar 4) eNil)) eNil)) (gSet 5) (sSeq (sIf (xNot (xB (eCall 2 m__law_row [] (eCons (eOp ixD (eVar 4) (eVar 5)) (eCons (eCB lenD (eCons (eVar 2) eNil)) eNil))))) (sRet (eC (.bl false))) sNext)
  (sIf (xB (eOp (cmpD fun i j => decide (j < i)) (eVar 5) (eC (.int 0)))) (sSeq (sAsg 6 (eScalL (eCall 3 m__law_shrunk [] (eCons (eVar 0) (eCons (eVar 1) (eCons (eOp ixD (eVar 4) (eOp subD (eVar 5) (eC (.int 1)))) eNil))))))
  (sIf (xOr (xB (eOp eqD (eOp ixD (eVar 4) (eVar 5)) (eOp ixD (eVar 4) (eOp subD (eVar 5) (eC (.int 1)))))) (xB (eOp neD (eOp ixD (eVar 4) (eVar 5)) (eVar 6)))) (sRet (eC (.bl false))) sNext)) sNext)))
  (sSeq (sAsg 7 (eScalL (eCB listX (eCons (eOp ixD (eVar 4) (eUn negD (eC (.int 1)))) eNil))))
  (sSeq (sIf (xOr (xB (eOp neD (eCall 3 m__law_shrunk [] (eCons (eVar 0) (eCons (eVar 1) (eCons (eVar 7) eNil)))) (eVar 7))) (xNot (xB (eCall 3 m__law_once [] (eCons (eVar 0) (eCons (eVar 1) (eCons (eVar 7) eNil))))))) (sRet (eC (.bl false))) sNext)
  (sSeq (sApp2 4 (eC (.int 0)) (eC (.int 1)))
  (sSeq (sClr2 4 (eUn negD (eC (.int 1))))
  (sRet (eOp eqD (eVar 3) (eVar 2)))))))))))
noncomputable def m__law_rounds : List D → Option D := run 8 f__law_rounds
noncomputable def f_law : DL.Env → Option Out :=
  (sSeq (sAsg 1 (eOp addD (eC (.int 1)) (eOp modW (eCall 2 m__law_cell_at [] (eCons (eVar 0) (eCons (eC (.int 0)) eNil))) (eC (.int 5)))))
  (sSeq (sAsg 2 (eCall 3 m__law_table [] (eCons (eVar 0) (eCons (eC (.int 12)) (eCons (eVar 1) eNil)))))
  (sSeq (sAsg 3 (eOp addD (eC (.int 1)) (eOp modW (eOp fdivW (eCall 2 m__law_cell_at [] (eCons (eVar 0) (eCons (eC (.int 1)) eNil))) (eC (.int 3))) (eC (.int 9)))))
  (sSeq (sIf (xB (eOp eqD (eOp modW (eCall 2 m__law_cell_at [] (eCons (eVar 0) (eCons (eC (.int 1)) eNil))) (eC (.int 3))) (eC (.int 1)))) (sAsg 3 (eOp addD (eC (.int 1)) (eOp modW (eOp fdivW (eCall 2 m__law_cell_at [] (eCons (eVar 0) (eCons (eC (.int 1)) eNil))) (eC (.int 3))) (eOp addD (eCB maxLD (eCons (eComp (iotaA (eVar 2)) (gSet 0) (fun _ => some true) (eCB sumLD (eCons (eVar 0) eNil)) 1 []) eNil)) (eC (.int 2)))))) sNext)
  (sSeq (sAsg 4 (eComp (iotaR (eCons (eVar 1) eNil)) (gSet 0) (fun _ => some true) (eOp modW (eCall 2 m__law_cell_at [] (eCons (eVar 1) (eCons (eOp addD (eC (.int 2)) (eVar 0)) eNil))) (eC (.int 21))) 1 [0]))
  (sSeq (sAsg 5 (eComp (iotaR (eCons (eVar 1) eNil)) (gSet 0) (fun _ => some true) (eOp modW (eCall 2 m__law_cell_at [] (eCons (eVar 1) (eCons (eOp addD (eC (.int 7)) (eVar 0)) eNil))) (eOp addD (eOp powW (eC (.int 10)) (eC (.int 30))) (eC (.int 1)))) 1 [0]))
  (sSeq (sAsg 6 (eComp (iotaA (eVar 2)) (gSet 0) (fun _ => some true) (eCB listX (eCons (eVar 0) eNil)) 1 []))
  (sSeq (sIf (xOr (xNot (xB (eCall 3 m__law_once [] (eCons (eVar 2) (eCons (eVar 3) (eCons (eVar 4) eNil)))))) (xNot (xB (eCall 3 m__law_once [] (eCons (eVar 2) (eCons (eVar 3) (eCons (eVar 5) eNil))))))) (sRet (eC (.bl false))) sNext)
  (sRet (eAnd (eCall 3 m__law_rounds [] (eCons (eVar 2) (eCons (eVar 3) (eCons (eVar 4) eNil)))) (eOp eqD (eVar 2) (eVar 6))))))))))))
noncomputable def m_law : List D → Option D := run 7 f_law
end K28

namespace K28
open PySem PySem.Spec L2 DL
def top (i : Nat) : Stmt := PySem.Challenge.pw_grooveway_k28_weights_shrunk.main.body.getD i (.Pass ⟨0, 0, 0, 0⟩)
abbrev s_borne : Stmt := top 1
abbrev s_bears : Stmt := top 2
abbrev s_shrunk : Stmt := top 3
abbrev s_rounds : Stmt := top 4
abbrev s__law_cell_at : Stmt := top 6
abbrev s__law_is_whole : Stmt := top 7
abbrev s__law_row : Stmt := top 8
abbrev s__law_entry : Stmt := top 9
abbrev s__law_table : Stmt := top 10
abbrev s__law_wish : Stmt := top 11
abbrev s__law_sums : Stmt := top 12
abbrev s__law_shrunk : Stmt := top 13
abbrev s__law_once : Stmt := top 14
abbrev s__law_rounds : Stmt := top 15
abbrev s_law : Stmt := top 16
theorem sc_borne : FnScope ["table", "weights"] ["table", "weights"] (defScope s_borne) := ⟨rfl, rfl, rfl, by decide +kernel, rfl, by decide +kernel, by decide +kernel⟩
theorem sc_bears : FnScope ["table", "n", "weights"] ["table", "n", "weights"] (defScope s_bears) := ⟨rfl, rfl, rfl, by decide +kernel, rfl, by decide +kernel, by decide +kernel⟩
theorem sc_shrunk : FnScope ["table", "n", "weights"] ["table", "n", "weights"] (defScope s_shrunk) := ⟨rfl, rfl, rfl, by decide +kernel, rfl, by decide +kernel, by decide +kernel⟩
theorem sc_rounds : FnScope ["table", "n", "weights", "told", "after"] ["table", "n", "weights"] (defScope s_rounds) := ⟨rfl, rfl, rfl, by decide +kernel, rfl, by decide +kernel, by decide +kernel⟩
theorem sc__law_cell_at : FnScope ["script", "k"] ["script", "k"] (defScope s__law_cell_at) := ⟨rfl, rfl, rfl, by decide +kernel, rfl, by decide +kernel, by decide +kernel⟩
theorem sc__law_is_whole : FnScope ["found"] ["found"] (defScope s__law_is_whole) := ⟨rfl, rfl, rfl, by decide +kernel, rfl, by decide +kernel, by decide +kernel⟩
theorem sc__law_row : FnScope ["found", "many", "number"] ["found", "many"] (defScope s__law_row) := ⟨rfl, rfl, rfl, by decide +kernel, rfl, by decide +kernel, by decide +kernel⟩
theorem sc__law_entry : FnScope ["cell", "way"] ["cell"] (defScope s__law_entry) := ⟨rfl, rfl, rfl, by decide +kernel, rfl, by decide +kernel, by decide +kernel⟩
theorem sc__law_table : FnScope ["script", "at", "many", "table", "k"] ["script", "at", "many"] (defScope s__law_table) := ⟨rfl, rfl, rfl, by decide +kernel, rfl, by decide +kernel, by decide +kernel⟩
theorem sc__law_wish : FnScope ["cell", "table", "most"] ["cell", "table"] (defScope s__law_wish) := ⟨rfl, rfl, rfl, by decide +kernel, rfl, by decide +kernel, by decide +kernel⟩
theorem sc__law_sums : FnScope ["table", "weights", "found", "row", "whole", "k"] ["table", "weights"] (defScope s__law_sums) := ⟨rfl, rfl, rfl, by decide +kernel, rfl, by decide +kernel, by decide +kernel⟩
theorem sc__law_shrunk : FnScope ["table", "n", "weights", "due", "k"] ["table", "n", "weights"] (defScope s__law_shrunk) := ⟨rfl, rfl, rfl, by decide +kernel, rfl, by decide +kernel, by decide +kernel⟩
theorem sc__law_once : FnScope ["table", "n", "weights", "due", "lacking", "handed", "told", "found"] ["table", "n", "weights"] (defScope s__law_once) := ⟨rfl, rfl, rfl, by decide +kernel, rfl, by decide +kernel, by decide +kernel⟩
theorem sc__law_rounds : FnScope ["table", "n", "weights", "handed", "found", "k", "due", "last"] ["table", "n", "weights"] (defScope s__law_rounds) := ⟨rfl, rfl, rfl, by decide +kernel, rfl, by decide +kernel, by decide +kernel⟩
theorem sc_law : FnScope ["script", "many", "table", "n", "few", "great", "kept"] ["script"] (defScope s_law) := ⟨rfl, rfl, rfl, by decide +kernel, rfl, by decide +kernel, by decide +kernel⟩
structure Adr where
  a_borne : Addr
  d_borne : FuncData
  a_bears : Addr
  d_bears : FuncData
  a_shrunk : Addr
  d_shrunk : FuncData
  a_rounds : Addr
  d_rounds : FuncData
  a__law_cell_at : Addr
  d__law_cell_at : FuncData
  a__law_is_whole : Addr
  d__law_is_whole : FuncData
  a__law_row : Addr
  d__law_row : FuncData
  a__law_entry : Addr
  d__law_entry : FuncData
  a__law_table : Addr
  d__law_table : FuncData
  a__law_wish : Addr
  d__law_wish : FuncData
  a__law_sums : Addr
  d__law_sums : FuncData
  a__law_shrunk : Addr
  d__law_shrunk : FuncData
  a__law_once : Addr
  d__law_once : FuncData
  a__law_rounds : Addr
  d__law_rounds : FuncData
  a_law : Addr
  d_law : FuncData
def Adr.c (t : Adr) : String → Addr := fun c => 0
structure Txt (K : PySem.W.Frag) (mg : Str → Option Value) (t : Adr) : Prop where
  f_borne : FunX K "borne" "borne" s_borne t.a_borne t.d_borne
  b_borne : Binds K t.d_borne ["table", "weights"] []
  g_borne : mg "borne" = some (.ref t.a_borne)
  k_borne : PySem.W.keepIn K (.ref t.a_borne) = true
  f_bears : FunX K "bears" "bears" s_bears t.a_bears t.d_bears
  b_bears : Binds K t.d_bears ["table", "n", "weights"] []
  g_bears : mg "bears" = some (.ref t.a_bears)
  k_bears : PySem.W.keepIn K (.ref t.a_bears) = true
  f_shrunk : FunX K "shrunk" "shrunk" s_shrunk t.a_shrunk t.d_shrunk
  b_shrunk : Binds K t.d_shrunk ["table", "n", "weights"] []
  g_shrunk : mg "shrunk" = some (.ref t.a_shrunk)
  k_shrunk : PySem.W.keepIn K (.ref t.a_shrunk) = true
  f_rounds : FunX K "rounds" "rounds" s_rounds t.a_rounds t.d_rounds
  b_rounds : Binds K t.d_rounds ["table", "n", "weights"] []
  g_rounds : mg "rounds" = some (.ref t.a_rounds)
  k_rounds : PySem.W.keepIn K (.ref t.a_rounds) = true
  f__law_cell_at : FunX K "_law_cell_at" "_law_cell_at" s__law_cell_at t.a__law_cell_at t.d__law_cell_at
  b__law_cell_at : Binds K t.d__law_cell_at ["script", "k"] []
  g__law_cell_at : mg "_law_cell_at" = some (.ref t.a__law_cell_at)
  k__law_cell_at : PySem.W.keepIn K (.ref t.a__law_cell_at) = true
  f__law_is_whole : FunX K "_law_is_whole" "_law_is_whole" s__law_is_whole t.a__law_is_whole t.d__law_is_whole
  b__law_is_whole : Binds K t.d__law_is_whole ["found"] []
  g__law_is_whole : mg "_law_is_whole" = some (.ref t.a__law_is_whole)
  k__law_is_whole : PySem.W.keepIn K (.ref t.a__law_is_whole) = true
  f__law_row : FunX K "_law_row" "_law_row" s__law_row t.a__law_row t.d__law_row
  b__law_row : Binds K t.d__law_row ["found", "many"] []
  g__law_row : mg "_law_row" = some (.ref t.a__law_row)
  k__law_row : PySem.W.keepIn K (.ref t.a__law_row) = true
  f__law_entry : FunX K "_law_entry" "_law_entry" s__law_entry t.a__law_entry t.d__law_entry
  b__law_entry : Binds K t.d__law_entry ["cell"] []
  g__law_entry : mg "_law_entry" = some (.ref t.a__law_entry)
  k__law_entry : PySem.W.keepIn K (.ref t.a__law_entry) = true
  f__law_table : FunX K "_law_table" "_law_table" s__law_table t.a__law_table t.d__law_table
  b__law_table : Binds K t.d__law_table ["script", "at", "many"] []
  g__law_table : mg "_law_table" = some (.ref t.a__law_table)
  k__law_table : PySem.W.keepIn K (.ref t.a__law_table) = true
  f__law_wish : FunX K "_law_wish" "_law_wish" s__law_wish t.a__law_wish t.d__law_wish
  b__law_wish : Binds K t.d__law_wish ["cell", "table"] []
  g__law_wish : mg "_law_wish" = some (.ref t.a__law_wish)
  k__law_wish : PySem.W.keepIn K (.ref t.a__law_wish) = true
  f__law_sums : FunX K "_law_sums" "_law_sums" s__law_sums t.a__law_sums t.d__law_sums
  b__law_sums : Binds K t.d__law_sums ["table", "weights"] []
  g__law_sums : mg "_law_sums" = some (.ref t.a__law_sums)
  k__law_sums : PySem.W.keepIn K (.ref t.a__law_sums) = true
  f__law_shrunk : FunX K "_law_shrunk" "_law_shrunk" s__law_shrunk t.a__law_shrunk t.d__law_shrunk
  b__law_shrunk : Binds K t.d__law_shrunk ["table", "n", "weights"] []
  g__law_shrunk : mg "_law_shrunk" = some (.ref t.a__law_shrunk)
  k__law_shrunk : PySem.W.keepIn K (.ref t.a__law_shrunk) = true
  f__law_once : FunX K "_law_once" "_law_once" s__law_once t.a__law_once t.d__law_once
  b__law_once : Binds K t.d__law_once ["table", "n", "weights"] []
  g__law_once : mg "_law_once" = some (.ref t.a__law_once)
  k__law_once : PySem.W.keepIn K (.ref t.a__law_once) = true
  f__law_rounds : FunX K "_law_rounds" "_law_rounds" s__law_rounds t.a__law_rounds t.d__law_rounds
  b__law_rounds : Binds K t.d__law_rounds ["table", "n", "weights"] []
  g__law_rounds : mg "_law_rounds" = some (.ref t.a__law_rounds)
  k__law_rounds : PySem.W.keepIn K (.ref t.a__law_rounds) = true
  f_law : FunX K "law" "law" s_law t.a_law t.d_law
  b_law : Binds K t.d_law ["script"] []
  g_law : mg "law" = some (.ref t.a_law)
  k_law : PySem.W.keepIn K (.ref t.a_law) = true
  n_all : mg "all" = none
  n_bool : mg "bool" = none
  n_int : mg "int" = none
  n_isinstance : mg "isinstance" = none
  n_len : mg "len" = none
  n_list : mg "list" = none
  n_max : mg "max" = none
  n_min : mg "min" = none
  n_range : mg "range" = none
  n_sum : mg "sum" = none
  n_zip : mg "zip" = none
  isi_bool : IsiOk K ⟨t.c, K⟩ (.type "bool") it_bool
  isi_int : IsiOk K ⟨t.c, K⟩ (.type "int") it_int
  isi_list : IsiOk K ⟨t.c, K⟩ (.type "list") it_list
end K28

namespace K28
open PySem PySem.Spec PyProof.Rows L2 DL
section
variable {P : Program} {w : World} {K : PySem.W.Frag} {mg : Str → Option Value} {base : Heap} {t : Adr}
theorem ok_borne (T : Txt K mg t) : FnOk P w K mg base CX0 1 t.a_borne t.d_borne ["table", "weights"] (spD ⟨t.c, K⟩ 2 m_borne) := by
  refine fn_DB (φ := f_borne) T.f_borne sc_borne (by conv => lhs; whnf) (by conv => lhs; whnf) (fun cdv A outer s H E hr => ?_) rfl rfl
  refine ⟨_, (pss_one (ps_ret (pe_comp (by rfl) (CompSc.mk' (tn := ["numbers"]) (cn := ["weights"]) (js := [1]) (osc := defScope s_borne) (oN := ["table", "weights"]) (by rfl) (by rfl) (by rfl) (by decide +kernel)) (k_pi (K := K) (pv 0)) (fun C s₂ H₂ fp => pg_name (i := 0) (show List.Nodup (["numbers", "weights"] : List Str) by decide +kernel) (by rfl) (by first | exact Or.inl rfl | exact Or.inr rfl)) (fun C s₂ H₂ fp => pts_nil) (fun C s₂ H₂ fp => (pe_callB (k_sumL (K := K)) (by rfl) T.n_sum boot_sum (pa_cons (pe_comp (by rfl) (CompSc.mk3 (tn := ["number", "weight"]) (by rfl) (by decide +kernel)) (pi_zip (K := K) (by rfl) T.n_zip (pv 0) (pv 1)) (fun C s₂ H₂ fp => k_tup (K := K) (n := 2) (pgs_cons (pg_name (i := 0) (show List.Nodup (["number", "weight"] : List Str) by decide +kernel) (by rfl) (by first | exact Or.inl rfl | exact Or.inr rfl)) (pgs_cons (pg_name (i := 1) (show List.Nodup (["number", "weight"] : List Str) by decide +kernel) (by rfl) (by first | exact Or.inl rfl | exact Or.inr rfl)) pgs_nil))) (fun C s₂ H₂ fp => pts_nil) (fun C s₂ H₂ fp => (pe_op op_mulW (pv 0) (pv 1)))) pa_nil)))))), [], ?_⟩
  unfold f_borne
  exact (vs_ret (VF.cl (vf_comp (by rfl) (vi_any (ve_var 0 (by rfl))) (vg_name 0 (by rfl) (by rfl)) vt_yes (ve_cb cb_sumL (va_cons (VF.cl (vf_comp (by rfl) (vi_zip (ve_var 0 (by rfl)) (ve_var 1 (by rfl))) (vg_tup (vgs_cons 0 (by rfl) (by rfl) (vgs_cons 1 (by rfl) (by rfl) vgs_nil))) vt_yes (ve_op ok_mulW (ve_var 0 (by rfl)) (ve_var 1 (by rfl))))) va_nil)))))
theorem ok_bears (T : Txt K mg t) : FnOk P w K mg base CX0 2 t.a_bears t.d_bears ["table", "n", "weights"] (spD ⟨t.c, K⟩ 3 m_bears) := by
  have G_borne : FnOk P w K mg base CX0 1 t.a_borne t.d_borne ["table", "weights"] (spD ⟨t.c, K⟩ 2 m_borne) := (ok_borne T).mono (by decide)
  refine fn_DB (φ := f_bears) T.f_bears sc_bears (by conv => lhs; whnf) (by conv => lhs; whnf) (fun cdv A outer s H E hr => ?_) rfl rfl
  refine ⟨_, (pss_one (ps_ret (pe_callB (k_all (K := K)) (by rfl) T.n_all boot_all (pa_cons (pe_comp (by rfl) (CompSc.mk' (tn := ["total", "weight"]) (cn := ["n"]) (js := [1]) (osc := defScope s_bears) (oN := ["table", "n", "weights"]) (by rfl) (by rfl) (by rfl) (by decide +kernel)) (pi_zip (K := K) (by rfl) T.n_zip (pe_call (G_borne) hr (by rfl) T.g_borne T.k_borne T.b_borne .nil pass0 (pa_cons (pv 0) (pa_cons (pv 2) pa_nil))) (pv 2)) (fun C s₂ H₂ fp => k_tup (K := K) (n := 2) (pgs_cons (pg_name (i := 0) (show List.Nodup (["total", "weight", "n"] : List Str) by decide +kernel) (by rfl) (by first | exact Or.inl rfl | exact Or.inr rfl)) (pgs_cons (pg_name (i := 1) (show List.Nodup (["total", "weight", "n"] : List Str) by decide +kernel) (by rfl) (by first | exact Or.inl rfl | exact Or.inr rfl)) pgs_nil))) (fun C s₂ H₂ fp => pts_nil) (fun C s₂ H₂ fp => (pe_cmpR op_ge (pv 0) (pe_op op_mulW (pv 2) (pv 1)) (nomark _)))) pa_nil)))), [], ?_⟩
  unfold f_bears
  exact (vs_ret (ve_cb cb_all (va_cons (VF.cl (vf_comp (by rfl) (vi_zip (ve_call [] (by rfl) (va_cons (ve_var 0 (by rfl)) (va_cons (ve_var 2 (by rfl)) va_nil))) (ve_var 2 (by rfl))) (vg_tup (vgs_cons 0 (by rfl) (by rfl) (vgs_cons 1 (by rfl) (by rfl) vgs_nil))) vt_yes (ve_op ok_cmp (ve_var 0 (by rfl)) (ve_op ok_mulW (ve_var 2 (by rfl)) (ve_var 1 (by rfl)))))) va_nil)))
theorem ok_shrunk (T : Txt K mg t) : FnOk P w K mg base CX0 2 t.a_shrunk t.d_shrunk ["table", "n", "weights"] (spL ⟨t.c, K⟩ 3 m_shrunk) := by
  have G_borne : FnOk P w K mg base CX0 1 t.a_borne t.d_borne ["table", "weights"] (spD ⟨t.c, K⟩ 2 m_borne) := (ok_borne T).mono (by decide)
  refine fn_LB (φ := f_shrunk) T.f_shrunk sc_shrunk (by conv => lhs; whnf) (by conv => lhs; whnf) (fun cdv A outer s H E hr => ?_) rfl rfl
  refine ⟨_, (pss_one (ps_ret (pe_comp (by rfl) (CompSc.mk' (tn := ["total", "weight"]) (cn := ["n"]) (js := [1]) (osc := defScope s_shrunk) (oN := ["table", "n", "weights"]) (by rfl) (by rfl) (by rfl) (by decide +kernel)) (pi_zip (K := K) (by rfl) T.n_zip (pe_call (G_borne) hr (by rfl) T.g_borne T.k_borne T.b_borne .nil pass0 (pa_cons (pv 0) (pa_cons (pv 2) pa_nil))) (pv 2)) (fun C s₂ H₂ fp => k_tup (K := K) (n := 2) (pgs_cons (pg_name (i := 0) (show List.Nodup (["total", "weight", "n"] : List Str) by decide +kernel) (by rfl) (by first | exact Or.inl rfl | exact Or.inr rfl)) (pgs_cons (pg_name (i := 1) (show List.Nodup (["total", "weight", "n"] : List Str) by decide +kernel) (by rfl) (by first | exact Or.inl rfl | exact Or.inr rfl)) pgs_nil))) (fun C s₂ H₂ fp => pts_nil) (fun C s₂ H₂ fp => (pe_callB (call_min2 (by rfl)) (by rfl) T.n_min boot_min (pa_cons (pv 1) (pa_cons (pe_op op_fdivW (pv 0) (pv 2)) pa_nil))))))), ?_⟩
  unfold f_shrunk
  exact (vsl_retF (vf_comp (by rfl) (vi_zip (ve_call [] (by rfl) (va_cons (ve_var 0 (by rfl)) (va_cons (ve_var 2 (by rfl)) va_nil))) (ve_var 2 (by rfl))) (vg_tup (vgs_cons 0 (by rfl) (by rfl) (vgs_cons 1 (by rfl) (by rfl) vgs_nil))) vt_yes (ve_cb cb_min (va_cons (ve_var 1 (by rfl)) (va_cons (ve_op ok_fdivW (ve_var 0 (by rfl)) (ve_var 2 (by rfl))) va_nil)))))
theorem ok_rounds (T : Txt K mg t) : FnOk P w K mg base CX0 3 t.a_rounds t.d_rounds ["table", "n", "weights"] (spM ⟨t.c, K⟩ 3 m_rounds) := by
  have G_shrunk : FnOk P w K mg base CX0 2 t.a_shrunk t.d_shrunk ["table", "n", "weights"] (spL ⟨t.c, K⟩ 3 m_shrunk) := (ok_shrunk T).mono (by decide)
  refine fn_MB (φ := f_rounds) T.f_rounds sc_rounds (by conv => lhs; whnf) (by conv => lhs; whnf) (fun cdv A outer s H E hr => ?_) rfl rfl
  refine ⟨_, (pss_cons (ps_set (i := 3) (show List.Nodup (["table", "n", "weights", "told", "after"] : List Str) by decide +kernel) (by rfl) (by first | exact Or.inl rfl | exact Or.inr rfl) (pe_lst (pa_cons (pe_callTy (call_listX (K := K)) (by rfl) T.n_list boot_list (pa_cons (pv 2) pa_nil)) pa_nil)))
  (pss_cons (ps_set (i := 4) (show List.Nodup (["table", "n", "weights", "told", "after"] : List Str) by decide +kernel) (by rfl) (by first | exact Or.inl rfl | exact Or.inr rfl) (pe_call (G_shrunk) hr (by rfl) T.g_shrunk T.k_shrunk T.b_shrunk .nil pass0 (pa_cons (pv 0) (pa_cons (pv 1) (pa_cons (pv 2) pa_nil)))))
  (pss_cons (ps_while PassesOwn.never (pt_cmpR (op_neD (cA := ⟨t.c, K⟩) (hr.units)) (pv 4) (pe_ix (k_ix (K := K)) (pv 3) (pe_un un_neg pe_int) (fun _ _ => rfl)) (nomark _)) (pss_cons (ps_expr (k_bm (K := K) PySem.F.plainAttrs_list PySem.F.slot_list_append PySem.F.type_list_append mt_append (pv 3) (pa_cons (pv 4) pa_nil))) (pss_one (ps_set (i := 4) (show List.Nodup (["table", "n", "weights", "told", "after"] : List Str) by decide +kernel) (by rfl) (by first | exact Or.inl rfl | exact Or.inr rfl) (pe_call (G_shrunk) hr (by rfl) T.g_shrunk T.k_shrunk T.b_shrunk .nil pass0 (pa_cons (pv 0) (pa_cons (pv 1) (pa_cons (pv 4) pa_nil))))))))
  (pss_one (ps_ret (pv 3)))))), ?_⟩
  unfold f_rounds
  exact (vsf_mat 3 (by rfl) (by rfl) (vfm_one (vf_listX (Or.inl rfl) (va_cons (ve_var 2 (by rfl)) va_nil)))
  (vmf_seq (show VM _ _ [4] _ _ _ _ _ from vm_hide (fun _ => (show VS _ _ [4] _ _ _ _ from (vs_asgO 4 (vf_callL [] (by rfl) (va_cons (ve_var 0 (by rfl)) (va_cons (ve_var 1 (by rfl)) (va_cons (ve_var 2 (by rfl)) va_nil)))) (by rfl) (by rfl) (by rfl) (by rfl)))) (by rfl))
  (vmf_seq (vm_while (vt_t (ve_op ok_ne (ve_own 4 (by rfl)) (ve_op ok_ix (ve_var 3 (by rfl)) (ve_neg (ve_c (d := (.int 1)) (by rfl) (by rfl)))))) (vm_pushF (owN := []) 4 (by decide) (by rfl) (by rfl) (by rfl) (by rfl) (by rfl) (vf_callL [] (by rfl) (va_cons (ve_var 0 (by rfl)) (va_cons (ve_var 1 (by rfl)) (va_cons (ve_var 4 (by rfl)) va_nil))))))
  vmf_ret)))
theorem ok__law_cell_at (T : Txt K mg t) : FnOk P w K mg base CX0 1 t.a__law_cell_at t.d__law_cell_at ["script", "k"] (spD ⟨t.c, K⟩ 2 m__law_cell_at) := by
  refine fn_DB (φ := f__law_cell_at) T.f__law_cell_at sc__law_cell_at (by conv => lhs; whnf) (by conv => lhs; whnf) (fun cdv A outer s H E hr => ?_) rfl rfl
  refine ⟨_, (pss_cons (ps_if (pt_cmpR op_lt (pv 1) (pe_callB (k_len (K := K)) (by rfl) T.n_len boot_len (pa_cons (pv 0) pa_nil)) (nomark _)) (pss_one (ps_ret (pe_ix (k_ix (K := K)) (pv 0) (pv 1) (fun _ _ => rfl)))) pss_nil)
  (pss_one (ps_ret pe_int))), [], ?_⟩
  unfold f__law_cell_at
  exact (vs_seq (vs_if (vt_t (ve_op ok_cmp (ve_var 1 (by rfl)) (ve_cb cb_len (va_cons (ve_var 0 (by rfl)) va_nil)))) (vs_ret (ve_op ok_ix (ve_var 0 (by rfl)) (ve_var 1 (by rfl)))) vs_next)
  (vs_ret (ve_c (d := (.int 0)) (by rfl) (by rfl))))
theorem ok__law_is_whole (T : Txt K mg t) : FnOk P w K mg base CX0 1 t.a__law_is_whole t.d__law_is_whole ["found"] (spD ⟨t.c, K⟩ 1 m__law_is_whole) := by
  refine fn_DB (φ := f__law_is_whole) T.f__law_is_whole sc__law_is_whole (by conv => lhs; whnf) (by conv => lhs; whnf) (fun cdv A outer s H E hr => ?_) rfl rfl
  refine ⟨_, (pss_one (ps_ret (pe_and (pe_callB (k_isiX (K := K)) (by rfl) T.n_isinstance boot_isinstance (pa_cons (pv 0) (pa_cons (pe_bltn (v := .ty "int") (by rfl) T.n_int boot_int rfl) pa_nil))) (pe_one (pe_not (pe_callB (k_isiX (K := K)) (by rfl) T.n_isinstance boot_isinstance (pa_cons (pv 0) (pa_cons (pe_bltn (v := .ty "bool") (by rfl) T.n_bool boot_bool rfl) pa_nil)))))))), [], ?_⟩
  unfold f__law_is_whole
  exact (vs_ret (ve_and (ve_isi (fun _ h => h) T.isi_int (ve_var 0 (by rfl))) (ve_not (ve_isi (fun _ h => h) T.isi_bool (ve_var 0 (by rfl))))))
theorem ok__law_row (T : Txt K mg t) : FnOk P w K mg base CX0 2 t.a__law_row t.d__law_row ["found", "many"] (spD ⟨t.c, K⟩ 2 m__law_row) := by
  have G__law_is_whole : FnOk P w K mg base CX0 1 t.a__law_is_whole t.d__law_is_whole ["found"] (spD ⟨t.c, K⟩ 1 m__law_is_whole) := (ok__law_is_whole T).mono (by decide)
  refine fn_DB (φ := f__law_row) T.f__law_row sc__law_row (by conv => lhs; whnf) (by conv => lhs; whnf) (fun cdv A outer s H E hr => ?_) rfl rfl
  refine ⟨_, (pss_cons (ps_if (PW.pt (pw_or (pt_not (pt_val (pe_callB (k_isiX (K := K)) (by rfl) T.n_isinstance boot_isinstance (pa_cons (pv 0) (pa_cons (pe_bltn (v := .ty "list") (by rfl) T.n_list boot_list rfl) pa_nil))))) (pw_or1 (pt_cmpR (op_neD (cA := ⟨t.c, K⟩) (hr.units)) (pe_callB (k_len (K := K)) (by rfl) T.n_len boot_len (pa_cons (pv 0) pa_nil)) (pv 1) (nomark _))))) (pss_one (ps_ret pe_bl)) pss_nil)
  (pss_cons ((ps_for PassesOwn.never (by rfl) (k_pi (K := K) (pv 0)) (pg_name (i := 2) (show List.Nodup (["found", "many", "number"] : List Str) by decide +kernel) (by rfl) (by first | exact Or.inl rfl | exact Or.inr rfl)) (pss_one (ps_if (pt_not (pt_val (pe_call (G__law_is_whole) hr (by rfl) T.g__law_is_whole T.k__law_is_whole T.b__law_is_whole .nil pass0 (pa_cons (pv 2) pa_nil)))) (pss_one (ps_ret pe_bl)) pss_nil))))
  (pss_one (ps_ret pe_bl)))), [], ?_⟩
  unfold f__law_row
  exact (vs_seq (vs_if (vt_or (vt_not (vt_b (ve_isi (fun _ h => h) T.isi_list (ve_var 0 (by rfl))))) (vt_t (ve_op ok_ne (ve_cb cb_len (va_cons (ve_var 0 (by rfl)) va_nil)) (ve_var 1 (by rfl))))) (vs_ret (ve_c (d := (.bl false)) (by rfl) (by rfl))) vs_next)
  (vs_seq (vs_for (vi_any (ve_var 0 (by rfl))) (vg_name 2 (by rfl) (by rfl)) (vs_if (vt_not (vt_b (ve_call [] (by rfl) (va_cons (ve_var 2 (by rfl)) va_nil)))) (vs_ret (ve_c (d := (.bl false)) (by rfl) (by rfl))) vs_next))
  (vs_ret (ve_c (d := (.bl true)) (by rfl) (by rfl)))))
theorem ok__law_entry (T : Txt K mg t) : FnOk P w K mg base CX0 1 t.a__law_entry t.d__law_entry ["cell"] (spD ⟨t.c, K⟩ 1 m__law_entry) := by
  refine fn_DB (φ := f__law_entry) T.f__law_entry sc__law_entry (by conv => lhs; whnf) (by conv => lhs; whnf) (fun cdv A outer s H E hr => ?_) rfl rfl
  refine ⟨_, (pss_cons (ps_set (i := 1) (show List.Nodup (["cell", "way"] : List Str) by decide +kernel) (by rfl) (by first | exact Or.inl rfl | exact Or.inr rfl) (pe_op op_modN (pv 0) pe_int))
  (pss_cons (ps_if (pt_cmpR (op_eqD (cA := ⟨t.c, K⟩) (hr.units)) (pv 1) pe_int (nomark _)) (pss_one (ps_ret pe_int)) pss_nil)
  (pss_one (ps_ret (pe_op op_modN (pe_op op_fdivW (pv 0) pe_int) (pe_ix (k_ix (K := K)) (pe_lst (pa_cons pe_int (pa_cons pe_int (pa_cons (pe_op op_pow pe_int pe_int) pa_nil)))) (pe_op op_sub (pv 1) pe_int) (fun _ _ => rfl))))))), [], ?_⟩
  unfold f__law_entry
  exact (vs_seq (show VS _ _ [] _ _ _ _ from (vs_asg 1 (ve_op ok_modW (ve_var 0 (by rfl)) (ve_c (d := (.int 4)) (by rfl) (by rfl))) (by rfl) (by rfl) (by rfl) (by rfl)))
  (vs_seq (vs_if (vt_t (ve_op ok_eq (ve_var 1 (by rfl)) (ve_c (d := (.int 0)) (by rfl) (by rfl)))) (vs_ret (ve_c (d := (.int 0)) (by rfl) (by rfl))) vs_next)
  (vs_ret (ve_op ok_modW (ve_op ok_fdivW (ve_var 0 (by rfl)) (ve_c (d := (.int 4)) (by rfl) (by rfl))) (ve_op ok_ix (VF.cl (vf_lst (va_cons (ve_c (d := (.int 3)) (by rfl) (by rfl)) (va_cons (ve_c (d := (.int 12)) (by rfl) (by rfl)) (va_cons (ve_op ok_powW (ve_c (d := (.int 10)) (by rfl) (by rfl)) (ve_c (d := (.int 12)) (by rfl) (by rfl))) va_nil))))) (ve_op ok_sub (ve_var 1 (by rfl)) (ve_c (d := (.int 1)) (by rfl) (by rfl))))))))
theorem ok__law_table (T : Txt K mg t) : FnOk P w K mg base CX0 2 t.a__law_table t.d__law_table ["script", "at", "many"] (spD ⟨t.c, K⟩ 3 m__law_table) := by
  have G__law_cell_at : FnOk P w K mg base CX0 1 t.a__law_cell_at t.d__law_cell_at ["script", "k"] (spD ⟨t.c, K⟩ 2 m__law_cell_at) := (ok__law_cell_at T).mono (by decide)
  have G__law_entry : FnOk P w K mg base CX0 1 t.a__law_entry t.d__law_entry ["cell"] (spD ⟨t.c, K⟩ 1 m__law_entry) := (ok__law_entry T).mono (by decide)
  refine fn_DB (φ := f__law_table) T.f__law_table sc__law_table (by conv => lhs; whnf) (by conv => lhs; whnf) (fun cdv A outer s H E hr => ?_) rfl rfl
  refine ⟨_, (pss_cons (ps_set (i := 3) (show List.Nodup (["script", "at", "many", "table", "k"] : List Str) by decide +kernel) (by rfl) (by first | exact Or.inl rfl | exact Or.inr rfl) (pe_lst pa_nil))
  (pss_cons ((ps_for PassesOwn.never (by rfl) (pi_range1 (by rfl) T.n_range (pa_cons (pv 2) pa_nil)) (pg_name (i := 4) (show List.Nodup (["script", "at", "many", "table", "k"] : List Str) by decide +kernel) (by rfl) (by first | exact Or.inl rfl | exact Or.inr rfl)) (pss_one (ps_expr (k_bm (K := K) PySem.F.plainAttrs_list PySem.F.slot_list_append PySem.F.type_list_append mt_append (pv 3) (pa_cons (pe_comp (by rfl) (CompSc.mk' (tn := ["j"]) (cn := ["script", "at", "k", "many"]) (js := [0, 1, 4, 2]) (osc := defScope s__law_table) (oN := ["script", "at", "many", "table", "k"]) (by rfl) (by rfl) (by rfl) (by decide +kernel)) (pi_range1 (by rfl) T.n_range (pa_cons (pv 2) pa_nil)) (fun C s₂ H₂ fp => pg_name (i := 0) (show List.Nodup (["j", "script", "at", "k", "many"] : List Str) by decide +kernel) (by rfl) (by first | exact Or.inl rfl | exact Or.inr rfl)) (fun C s₂ H₂ fp => pts_nil) (fun C s₂ H₂ fp => (pe_call (G__law_entry) hr (by rfl) T.g__law_entry T.k__law_entry T.b__law_entry .nil pass0 (pa_cons (pe_call (G__law_cell_at) hr (by rfl) T.g__law_cell_at T.k__law_cell_at T.b__law_cell_at .nil pass0 (pa_cons (pv 1) (pa_cons (pe_op op_addX (pe_op op_addX (pv 2) (pe_op op_mulW (pv 3) (pv 4))) (pv 0)) pa_nil))) pa_nil)))) pa_nil))))))
  (pss_one (ps_ret (pv 3))))), [], ?_⟩
  unfold f__law_table
  exact (vs_seq (show VS _ _ [3] _ _ _ _ from (vs_asgO 3 (vf_lst va_nil) (by rfl) (by rfl) (by rfl) (by rfl)))
  (vs_seq (vs_for (vi_rng1 (va_cons (ve_var 2 (by rfl)) va_nil) len1) (vg_name 4 (by rfl) (by rfl)) (vs_app 3 (by rfl) (VF.cl (vf_comp (by rfl) (vi_rng1 (va_cons (ve_var 2 (by rfl)) va_nil) len1) (vg_name 0 (by rfl) (by rfl)) vt_yes (ve_call [] (by rfl) (va_cons (ve_call [] (by rfl) (va_cons (ve_var 1 (by rfl)) (va_cons (ve_op ok_add (ve_op ok_add (ve_var 2 (by rfl)) (ve_op ok_mulW (ve_var 3 (by rfl)) (ve_var 4 (by rfl)))) (ve_var 0 (by rfl))) va_nil))) va_nil))))))
  (VS.frz (ow1 := []) 3 (vs_ret (ve_var 3 (by rfl))) (by rfl) (by rfl) (by rfl) (by rfl))))
theorem ok__law_wish (T : Txt K mg t) : FnOk P w K mg base CX0 1 t.a__law_wish t.d__law_wish ["cell", "table"] (spD ⟨t.c, K⟩ 2 m__law_wish) := by
  refine fn_DB (φ := f__law_wish) T.f__law_wish sc__law_wish (by conv => lhs; whnf) (by conv => lhs; whnf) (fun cdv A outer s H E hr => ?_) rfl rfl
  refine ⟨_, (pss_cons (ps_set (i := 2) (show List.Nodup (["cell", "table", "most"] : List Str) by decide +kernel) (by rfl) (by first | exact Or.inl rfl | exact Or.inr rfl) (pe_callB (k_maxL (K := K)) (by rfl) T.n_max boot_max (pa_cons (pe_comp (by rfl) (CompSc.mk' (tn := ["row"]) (cn := []) (js := []) (osc := defScope s__law_wish) (oN := ["cell", "table", "most"]) (by rfl) (by rfl) (by rfl) (by decide +kernel)) (k_pi (K := K) (pv 1)) (fun C s₂ H₂ fp => pg_name (i := 0) (show List.Nodup (["row"] : List Str) by decide +kernel) (by rfl) (by first | exact Or.inl rfl | exact Or.inr rfl)) (fun C s₂ H₂ fp => pts_nil) (fun C s₂ H₂ fp => (pe_callB (k_sumL (K := K)) (by rfl) T.n_sum boot_sum (pa_cons (pv 0) pa_nil)))) pa_nil)))
  (pss_cons (ps_if (pt_cmpR (op_eqD (cA := ⟨t.c, K⟩) (hr.units)) (pe_op op_modN (pv 0) pe_int) pe_int (nomark _)) (pss_one (ps_ret (pe_op op_addX pe_int (pe_op op_modN (pe_op op_fdivW (pv 0) pe_int) pe_int)))) pss_nil)
  (pss_one (ps_ret (pe_op op_addX pe_int (pe_op op_modN (pe_op op_fdivW (pv 0) pe_int) (pe_op op_addX (pv 2) pe_int))))))), [], ?_⟩
  unfold f__law_wish
  exact (vs_seq (show VS _ _ [] _ _ _ _ from (vs_asg 2 (ve_cb cb_maxL (va_cons (VF.cl (vf_comp (by rfl) (vi_any (ve_var 1 (by rfl))) (vg_name 0 (by rfl) (by rfl)) vt_yes (ve_cb cb_sumL (va_cons (ve_var 0 (by rfl)) va_nil)))) va_nil)) (by rfl) (by rfl) (by rfl) (by rfl)))
  (vs_seq (vs_if (vt_t (ve_op ok_eq (ve_op ok_modW (ve_var 0 (by rfl)) (ve_c (d := (.int 3)) (by rfl) (by rfl))) (ve_c (d := (.int 0)) (by rfl) (by rfl)))) (vs_ret (ve_op ok_add (ve_c (d := (.int 1)) (by rfl) (by rfl)) (ve_op ok_modW (ve_op ok_fdivW (ve_var 0 (by rfl)) (ve_c (d := (.int 3)) (by rfl) (by rfl))) (ve_c (d := (.int 5)) (by rfl) (by rfl))))) vs_next)
  (vs_ret (ve_op ok_add (ve_c (d := (.int 1)) (by rfl) (by rfl)) (ve_op ok_modW (ve_op ok_fdivW (ve_var 0 (by rfl)) (ve_c (d := (.int 3)) (by rfl) (by rfl))) (ve_op ok_add (ve_var 2 (by rfl)) (ve_c (d := (.int 2)) (by rfl) (by rfl))))))))
theorem ok__law_sums (T : Txt K mg t) : FnOk P w K mg base CX0 1 t.a__law_sums t.d__law_sums ["table", "weights"] (spL ⟨t.c, K⟩ 2 m__law_sums) := by
  refine fn_LB (φ := f__law_sums) T.f__law_sums sc__law_sums (by conv => lhs; whnf) (by conv => lhs; whnf) (fun cdv A outer s H E hr => ?_) rfl rfl
  refine ⟨_, (pss_cons (ps_set (i := 2) (show List.Nodup (["table", "weights", "found", "row", "whole", "k"] : List Str) by decide +kernel) (by rfl) (by first | exact Or.inl rfl | exact Or.inr rfl) (pe_lst pa_nil))
  (pss_cons ((ps_for PassesOwn.never (by rfl) (k_pi (K := K) (pv 0)) (pg_name (i := 3) (show List.Nodup (["table", "weights", "found", "row", "whole", "k"] : List Str) by decide +kernel) (by rfl) (by first | exact Or.inl rfl | exact Or.inr rfl)) (pss_cons (ps_set (i := 4) (show List.Nodup (["table", "weights", "found", "row", "whole", "k"] : List Str) by decide +kernel) (by rfl) (by first | exact Or.inl rfl | exact Or.inr rfl) pe_int)
  (pss_cons ((ps_for PassesOwn.never (by rfl) (pi_range1 (by rfl) T.n_range (pa_cons (pe_callB (k_len (K := K)) (by rfl) T.n_len boot_len (pa_cons (pv 3) pa_nil)) pa_nil)) (pg_name (i := 5) (show List.Nodup (["table", "weights", "found", "row", "whole", "k"] : List Str) by decide +kernel) (by rfl) (by first | exact Or.inl rfl | exact Or.inr rfl)) (pss_one (ps_set (i := 4) (show List.Nodup (["table", "weights", "found", "row", "whole", "k"] : List Str) by decide +kernel) (by rfl) (by first | exact Or.inl rfl | exact Or.inr rfl) (pe_op op_addX (pv 4) (pe_op op_mulW (pe_ix (k_ix (K := K)) (pv 3) (pv 5) (fun _ _ => rfl)) (pe_ix (k_ix (K := K)) (pv 1) (pv 5) (fun _ _ => rfl))))))))
  (pss_one (ps_expr (k_bm (K := K) PySem.F.plainAttrs_list PySem.F.slot_list_append PySem.F.type_list_append mt_append (pv 2) (pa_cons (pv 4) pa_nil))))))))
  (pss_one (ps_ret (pv 2))))), ?_⟩
  unfold f__law_sums
  exact (vsl_seq (show VS _ _ [2] _ _ _ _ from (vs_asgO 2 (vf_lst va_nil) (by rfl) (by rfl) (by rfl) (by rfl)))
  (vsl_seq (vs_for (vi_any (ve_var 0 (by rfl))) (vg_name 3 (by rfl) (by rfl)) (vs_seq (show VS _ _ [2] _ _ _ _ from (vs_asg 4 (ve_c (d := (.int 0)) (by rfl) (by rfl)) (by rfl) (by rfl) (by rfl) (by rfl)))
  (vs_seq (vs_for (vi_rng1 (va_cons (ve_cb cb_len (va_cons (ve_var 3 (by rfl)) va_nil)) va_nil) len1) (vg_name 5 (by rfl) (by rfl)) (show VS _ _ [2] _ _ _ _ from (vs_asg 4 (ve_op ok_add (ve_var 4 (by rfl)) (ve_op ok_mulW (ve_op ok_ix (ve_var 3 (by rfl)) (ve_var 5 (by rfl))) (ve_op ok_ix (ve_var 1 (by rfl)) (ve_var 5 (by rfl))))) (by rfl) (by rfl) (by rfl) (by rfl))))
  (vs_app 2 (by rfl) (ve_var 4 (by rfl))))))
  (vsl_ret 2 (by rfl))))
theorem ok__law_shrunk (T : Txt K mg t) : FnOk P w K mg base CX0 2 t.a__law_shrunk t.d__law_shrunk ["table", "n", "weights"] (spL ⟨t.c, K⟩ 3 m__law_shrunk) := by
  have G__law_sums : FnOk P w K mg base CX0 1 t.a__law_sums t.d__law_sums ["table", "weights"] (spL ⟨t.c, K⟩ 2 m__law_sums) := (ok__law_sums T).mono (by decide)
  refine fn_LB (φ := f__law_shrunk) T.f__law_shrunk sc__law_shrunk (by conv => lhs; whnf) (by conv => lhs; whnf) (fun cdv A outer s H E hr => ?_) rfl rfl
  refine ⟨_, (pss_cons (ps_set (i := 3) (show List.Nodup (["table", "n", "weights", "due", "k"] : List Str) by decide +kernel) (by rfl) (by first | exact Or.inl rfl | exact Or.inr rfl) (pe_call (G__law_sums) hr (by rfl) T.g__law_sums T.k__law_sums T.b__law_sums .nil pass0 (pa_cons (pv 0) (pa_cons (pv 2) pa_nil))))
  (pss_cons ((ps_for PassesOwn.never (by rfl) (pi_range1 (by rfl) T.n_range (pa_cons (pe_callB (k_len (K := K)) (by rfl) T.n_len boot_len (pa_cons (pv 3) pa_nil)) pa_nil)) (pg_name (i := 4) (show List.Nodup (["table", "n", "weights", "due", "k"] : List Str) by decide +kernel) (by rfl) (by first | exact Or.inl rfl | exact Or.inr rfl)) (pss_cons (ps_asg (pe_op op_fdivW (pe_ix (k_ix (K := K)) (pv 3) (pv 4) (fun _ _ => rfl)) (pv 1)) (pg_sub (pv 3) (pv 4) set_list))
  (pss_one (ps_if (pt_cmpR op_lt (pe_ix (k_ix (K := K)) (pv 2) (pv 4) (fun _ _ => rfl)) (pe_ix (k_ix (K := K)) (pv 3) (pv 4) (fun _ _ => rfl)) (nomark _)) (pss_one (ps_asg (pe_ix (k_ix (K := K)) (pv 2) (pv 4) (fun _ _ => rfl)) (pg_sub (pv 3) (pv 4) set_list))) pss_nil)))))
  (pss_one (ps_ret (pv 3))))), ?_⟩
  unfold f__law_shrunk
  exact (vsl_seq (show VS _ _ [3] _ _ _ _ from (vs_asgO 3 (vf_callL [] (by rfl) (va_cons (ve_var 0 (by rfl)) (va_cons (ve_var 2 (by rfl)) va_nil))) (by rfl) (by rfl) (by rfl) (by rfl)))
  (vsl_seq (vs_for (vi_rng1 (va_cons (ve_cb cb_len (va_cons (ve_own 3 (by rfl)) va_nil)) va_nil) len1) (vg_name 4 (by rfl) (by rfl)) (vs_seq (vs_setI 3 (by rfl) (ve_op ok_fdivW (ve_op ok_ix (ve_own 3 (by rfl)) (ve_var 4 (by rfl))) (ve_var 1 (by rfl))) (ve_var 4 (by rfl)))
  (vs_if (vt_t (ve_op ok_cmp (ve_op ok_ix (ve_var 2 (by rfl)) (ve_var 4 (by rfl))) (ve_op ok_ix (ve_own 3 (by rfl)) (ve_var 4 (by rfl))))) (vs_setI 3 (by rfl) (ve_op ok_ix (ve_var 2 (by rfl)) (ve_var 4 (by rfl))) (ve_var 4 (by rfl))) vs_next)))
  (vsl_ret 3 (by rfl))))
theorem ok__law_once (T : Txt K mg t) : FnOk P w K mg base CX0 3 t.a__law_once t.d__law_once ["table", "n", "weights"] (spD ⟨t.c, K⟩ 3 m__law_once) := by
  have G__law_row : FnOk P w K mg base CX0 2 t.a__law_row t.d__law_row ["found", "many"] (spD ⟨t.c, K⟩ 2 m__law_row) := (ok__law_row T).mono (by decide)
  have G__law_shrunk : FnOk P w K mg base CX0 2 t.a__law_shrunk t.d__law_shrunk ["table", "n", "weights"] (spL ⟨t.c, K⟩ 3 m__law_shrunk) := (ok__law_shrunk T).mono (by decide)
  have G__law_sums : FnOk P w K mg base CX0 2 t.a__law_sums t.d__law_sums ["table", "weights"] (spL ⟨t.c, K⟩ 2 m__law_sums) := (ok__law_sums T).mono (by decide)
  have G_bears : FnOk P w K mg base CX0 2 t.a_bears t.d_bears ["table", "n", "weights"] (spD ⟨t.c, K⟩ 3 m_bears) := (ok_bears T).mono (by decide)
  have G_shrunk : FnOk P w K mg base CX0 2 t.a_shrunk t.d_shrunk ["table", "n", "weights"] (spL ⟨t.c, K⟩ 3 m_shrunk) := (ok_shrunk T).mono (by decide)
  refine fn_DB (φ := f__law_once) T.f__law_once sc__law_once (by conv => lhs; whnf) (by conv => lhs; whnf) (fun cdv A outer s H E hr => ?_) rfl rfl
  refine ⟨_, (pss_cons (ps_set (i := 3) (show List.Nodup (["table", "n", "weights", "due", "lacking", "handed", "told", "found"] : List Str) by decide +kernel) (by rfl) (by first | exact Or.inl rfl | exact Or.inr rfl) (pe_call (G__law_sums) hr (by rfl) T.g__law_sums T.k__law_sums T.b__law_sums .nil pass0 (pa_cons (pv 0) (pa_cons (pv 2) pa_nil))))
  (pss_cons (ps_setC (i := 4) (show List.Nodup (["table", "n", "weights", "due", "lacking", "handed", "told", "found"] : List Str) by decide +kernel) (by rfl) (by rfl) (by rfl) (CompSc.mk' (tn := ["k"]) (cn := ["due", "n", "weights"]) (js := [3, 1, 2]) (osc := defScope s__law_once) (oN := ["table", "n", "weights", "due", "lacking", "handed", "told", "found"]) (by rfl) (by rfl) (by rfl) (by decide +kernel)) (pi_range1 (by rfl) T.n_range (pa_cons (pe_callB (k_len (K := K)) (by rfl) T.n_len boot_len (pa_cons (pv 3) pa_nil)) pa_nil)) (fun C s₂ H₂ fp => pg_name (i := 0) (show List.Nodup (["k", "due", "n", "weights"] : List Str) by decide +kernel) (by rfl) (by first | exact Or.inl rfl | exact Or.inr rfl)) (fun C s₂ H₂ fp => (pts_one (pt_cmpR op_lt (pe_ix (k_ix (K := K)) (pv 1) (pv 0) (fun _ _ => rfl)) (pe_op op_mulW (pv 2) (pe_ix (k_ix (K := K)) (pv 3) (pv 0) (fun _ _ => rfl))) (nomark _)))) (fun C s₂ H₂ fp => (pv 0)))
  (pss_cons (ps_set (i := 5) (show List.Nodup (["table", "n", "weights", "due", "lacking", "handed", "told", "found"] : List Str) by decide +kernel) (by rfl) (by first | exact Or.inl rfl | exact Or.inr rfl) (pe_callTy (call_listX (K := K)) (by rfl) T.n_list boot_list (pa_cons (pv 2) pa_nil)))
  (pss_cons (ps_set (i := 6) (show List.Nodup (["table", "n", "weights", "due", "lacking", "handed", "told", "found"] : List Str) by decide +kernel) (by rfl) (by first | exact Or.inl rfl | exact Or.inr rfl) (pe_call (G_bears) hr (by rfl) T.g_bears T.k_bears T.b_bears .nil pass0 (pa_cons (pv 0) (pa_cons (pv 1) (pa_cons (pv 5) pa_nil)))))
  (pss_cons (ps_if (PW.pt (pw_or (pt_not (pt_val (pe_callB (k_isiX (K := K)) (by rfl) T.n_isinstance boot_isinstance (pa_cons (pv 6) (pa_cons (pe_bltn (v := .ty "bool") (by rfl) T.n_bool boot_bool rfl) pa_nil))))) (pw_or1 (pt_cmpR (op_neD (cA := ⟨t.c, K⟩) (hr.units)) (pv 6) (pe_cmpR (op_eqD (cA := ⟨t.c, K⟩) (hr.units)) (pe_callB (k_len (K := K)) (by rfl) T.n_len boot_len (pa_cons (pv 4) pa_nil)) pe_int (nomark _)) (nomark _))))) (pss_one (ps_ret pe_bl)) pss_nil)
  (pss_cons (ps_set (i := 7) (show List.Nodup (["table", "n", "weights", "due", "lacking", "handed", "told", "found"] : List Str) by decide +kernel) (by rfl) (by first | exact Or.inl rfl | exact Or.inr rfl) (pe_call (G_shrunk) hr (by rfl) T.g_shrunk T.k_shrunk T.b_shrunk .nil pass0 (pa_cons (pv 0) (pa_cons (pv 1) (pa_cons (pv 5) pa_nil)))))
  (pss_cons (ps_if (PW.pt (pw_or (pt_not (pt_val (pe_call (G__law_row) hr (by rfl) T.g__law_row T.k__law_row T.b__law_row .nil pass0 (pa_cons (pv 7) (pa_cons (pe_callB (k_len (K := K)) (by rfl) T.n_len boot_len (pa_cons (pv 2) pa_nil)) pa_nil))))) (pw_or1 (pt_cmpR (op_neD (cA := ⟨t.c, K⟩) (hr.units)) (pv 7) (pe_call (G__law_shrunk) hr (by rfl) T.g__law_shrunk T.k__law_shrunk T.b__law_shrunk .nil pass0 (pa_cons (pv 0) (pa_cons (pv 1) (pa_cons (pv 2) pa_nil)))) (nomark _))))) (pss_one (ps_ret pe_bl)) pss_nil)
  (pss_cons (ps_expr (k_bm (K := K) PySem.F.plainAttrs_list PySem.F.slot_list_append PySem.F.type_list_append mt_append (pv 7) (pa_cons pe_int pa_nil)))
  (pss_one (ps_ret (pe_cmpR (op_eqD (cA := ⟨t.c, K⟩) (hr.units)) (pv 5) (pv 2) (nomark _)))))))))))), [], ?_⟩
  unfold f__law_once
  exact (vs_seq (show VS _ _ [] _ _ _ _ from (vs_asg 3 (VF.cl (vf_callL [] (by rfl) (va_cons (ve_var 0 (by rfl)) (va_cons (ve_var 2 (by rfl)) va_nil)))) (by rfl) (by rfl) (by rfl) (by rfl)))
  (vs_seq (show VS _ _ [] _ _ _ _ from (vs_asg 4 (VF.cl (vf_comp (by rfl) (vi_rng1 (va_cons (ve_cb cb_len (va_cons (ve_var 3 (by rfl)) va_nil)) va_nil) len1) (vg_name 0 (by rfl) (by rfl)) (vt_t (ve_op ok_cmp (ve_op ok_ix (ve_var 1 (by rfl)) (ve_var 0 (by rfl))) (ve_op ok_mulW (ve_var 2 (by rfl)) (ve_op ok_ix (ve_var 3 (by rfl)) (ve_var 0 (by rfl)))))) (ve_var 0 (by rfl)))) (by rfl) (by rfl) (by rfl) (by rfl)))
  (vs_seq (show VS _ _ [] _ _ _ _ from (vs_asg 5 (VF.cl (vf_listX (Or.inl rfl) (va_cons (ve_var 2 (by rfl)) va_nil))) (by rfl) (by rfl) (by rfl) (by rfl)))
  (vs_seq (show VS _ _ [] _ _ _ _ from (vs_asg 6 (ve_call [] (by rfl) (va_cons (ve_var 0 (by rfl)) (va_cons (ve_var 1 (by rfl)) (va_cons (ve_var 5 (by rfl)) va_nil)))) (by rfl) (by rfl) (by rfl) (by rfl)))
  (vs_seq (vs_if (vt_or (vt_not (vt_b (ve_isi (fun _ h => h) T.isi_bool (ve_var 6 (by rfl))))) (vt_t (ve_op ok_ne (ve_var 6 (by rfl)) (ve_op ok_eq (ve_cb cb_len (va_cons (ve_var 4 (by rfl)) va_nil)) (ve_c (d := (.int 0)) (by rfl) (by rfl)))))) (vs_ret (ve_c (d := (.bl false)) (by rfl) (by rfl))) vs_next)
  (vs_seq (show VS _ _ [7] _ _ _ _ from (vs_asgO 7 (vf_callL [] (by rfl) (va_cons (ve_var 0 (by rfl)) (va_cons (ve_var 1 (by rfl)) (va_cons (ve_var 5 (by rfl)) va_nil)))) (by rfl) (by rfl) (by rfl) (by rfl)))
  (vs_seq (vs_if (vt_or (vt_not (vt_b (ve_call [] (by rfl) (va_cons (VE.dt (ve_own 7 (by rfl))) (va_cons (VE.dt (ve_cb cb_len (va_cons (ve_var 2 (by rfl)) va_nil))) va_nil))))) (vt_t (ve_op ok_ne (ve_own 7 (by rfl)) (VF.cl (vf_callL [] (by rfl) (va_cons (ve_var 0 (by rfl)) (va_cons (ve_var 1 (by rfl)) (va_cons (ve_var 2 (by rfl)) va_nil)))))))) (vs_ret (ve_c (d := (.bl false)) (by rfl) (by rfl))) vs_next)
  (vs_seq (vs_app 7 (by rfl) (ve_c (d := (.int 1)) (by rfl) (by rfl)))
  (VS.frz (ow1 := []) 7 (vs_ret (ve_op ok_eq (ve_var 5 (by rfl)) (ve_var 2 (by rfl)))) (by rfl) (by rfl) (by rfl) (by rfl))))))))))
theorem ok__law_rounds (T : Txt K mg t) : FnOk P w K mg base CX0 4 t.a__law_rounds t.d__law_rounds ["table", "n", "weights"] (spD ⟨t.c, K⟩ 3 m__law_rounds) := by
  have G__law_once : FnOk P w K mg base CX0 3 t.a__law_once t.d__law_once ["table", "n", "weights"] (spD ⟨t.c, K⟩ 3 m__law_once) := (ok__law_once T).mono (by decide)
  have G__law_row : FnOk P w K mg base CX0 3 t.a__law_row t.d__law_row ["found", "many"] (spD ⟨t.c, K⟩ 2 m__law_row) := (ok__law_row T).mono (by decide)
  have G__law_shrunk : FnOk P w K mg base CX0 3 t.a__law_shrunk t.d__law_shrunk ["table", "n", "weights"] (spL ⟨t.c, K⟩ 3 m__law_shrunk) := (ok__law_shrunk T).mono (by decide)
  have G_rounds : FnOk P w K mg base CX0 3 t.a_rounds t.d_rounds ["table", "n", "weights"] (spM ⟨t.c, K⟩ 3 m_rounds) := (ok_rounds T).mono (by decide)
  refine fn_DB (φ := f__law_rounds) T.f__law_rounds sc__law_rounds (by conv => lhs; whnf) (by conv => lhs; whnf) (fun cdv A outer s H E hr => ?_) rfl rfl
  refine ⟨_, (pss_cons (ps_set (i := 3) (show List.Nodup (["table", "n", "weights", "handed", "found", "k", "due", "last"] : List Str) by decide +kernel) (by rfl) (by first | exact Or.inl rfl | exact Or.inr rfl) (pe_callTy (call_listX (K := K)) (by rfl) T.n_list boot_list (pa_cons (pv 2) pa_nil)))
  (pss_cons (ps_set (i := 4) (show List.Nodup (["table", "n", "weights", "handed", "found", "k", "due", "last"] : List Str) by decide +kernel) (by rfl) (by first | exact Or.inl rfl | exact Or.inr rfl) (pe_call (G_rounds) hr (by rfl) T.g_rounds T.k_rounds T.b_rounds .nil pass0 (pa_cons (pv 0) (pa_cons (pv 1) (pa_cons (pv 3) pa_nil)))))
  (pss_cons (ps_if (PW.pt (pw_or (pt_cmpR (op_neD (cA := ⟨t.c, K⟩) (hr.units)) (pv 3) (pv 2) (nomark _)) (pw_or (pt_not (pt_val (pe_callB (k_isiX (K := K)) (by rfl) T.n_isinstance boot_isinstance (pa_cons (pv 4) (pa_cons (pe_bltn (v := .ty "list") (by rfl) T.n_list boot_list rfl) pa_nil))))) (pw_or (pt_cmpR (op_eqD (cA := ⟨t.c, K⟩) (hr.units)) (pe_callB (k_len (K := K)) (by rfl) T.n_len boot_len (pa_cons (pv 4) pa_nil)) pe_int (nomark _)) (pw_or1 (pt_cmpR (op_neD (cA := ⟨t.c, K⟩) (hr.units)) (pe_ix (k_ix (K := K)) (pv 4) pe_int (fun _ _ => rfl)) (pv 2) (nomark _))))))) (pss_one (ps_ret pe_bl)) pss_nil)
  (pss_cons (ps_for PassesOwn.never (by rfl) (pi_range1 (by rfl) T.n_range (pa_cons (pe_callB (k_len (K := K)) (by rfl) T.n_len boot_len (pa_cons (pv 4) pa_nil)) pa_nil)) (pg_name (i := 5) (show List.Nodup (["table", "n", "weights", "handed", "found", "k", "due", "last"] : List Str) by decide +kernel) (by rfl) (by first | exact Or.inl rfl | exact Or.inr rfl)) (pss_cons (ps_if (pt_not (pt_val (pe_call (G__law_row) hr (by rfl) T.g__law_row T.k__law_row T.b__law_row .nil pass0 (pa_cons (pe_ix (k_ix (K := K)) (pv 4) (pv 5) (fun _ _ => rfl)) (pa_cons (pe_callB (k_len (K := K)) (by rfl) T.n_len boot_len (pa_cons (pv 2) pa_nil)) pa_nil))))) (pss_one (ps_ret pe_bl)) pss_nil)
  (pss_one (ps_if (pt_cmpR op_gt (pv 5) pe_int (nomark _)) (pss_cons (ps_set (i := 6) (show List.Nodup (["table", "n", "weights", "handed", "found", "k", "due", "last"] : List Str) by decide +kernel) (by rfl) (by first | exact Or.inl rfl | exact Or.inr rfl) (pe_call (G__law_shrunk) hr (by rfl) T.g__law_shrunk T.k__law_shrunk T.b__law_shrunk .nil pass0 (pa_cons (pv 0) (pa_cons (pv 1) (pa_cons (pe_ix (k_ix (K := K)) (pv 4) (pe_op op_sub (pv 5) pe_int) (fun _ _ => rfl)) pa_nil)))))
  (pss_one (ps_if (PW.pt (pw_or (pt_cmpR (op_eqD (cA := ⟨t.c, K⟩) (hr.units)) (pe_ix (k_ix (K := K)) (pv 4) (pv 5) (fun _ _ => rfl)) (pe_ix (k_ix (K := K)) (pv 4) (pe_op op_sub (pv 5) pe_int) (fun _ _ => rfl)) (nomark _)) (pw_or1 (pt_cmpR (op_neD (cA := ⟨t.c, K⟩) (hr.units)) (pe_ix (k_ix (K := K)) (pv 4) (pv 5) (fun _ _ => rfl)) (pv 6) (nomark _))))) (pss_one (ps_ret pe_bl)) pss_nil))) pss_nil))))
  (pss_cons (ps_set (i := 7) (show List.Nodup (["table", "n", "weights", "handed", "found", "k", "due", "last"] : List Str) by decide +kernel) (by rfl) (by first | exact Or.inl rfl | exact Or.inr rfl) (pe_callTy (call_listX (K := K)) (by rfl) T.n_list boot_list (pa_cons (pe_ix (k_ix (K := K)) (pv 4) (pe_un un_neg pe_int) (fun _ _ => rfl)) pa_nil)))
  (pss_cons (ps_if (PW.pt (pw_or (pt_cmpR (op_neD (cA := ⟨t.c, K⟩) (hr.units)) (pe_call (G__law_shrunk) hr (by rfl) T.g__law_shrunk T.k__law_shrunk T.b__law_shrunk .nil pass0 (pa_cons (pv 0) (pa_cons (pv 1) (pa_cons (pv 7) pa_nil)))) (pv 7) (nomark _)) (pw_or1 (pt_not (pt_val (pe_call (G__law_once) hr (by rfl) T.g__law_once T.k__law_once T.b__law_once .nil pass0 (pa_cons (pv 0) (pa_cons (pv 1) (pa_cons (pv 7) pa_nil))))))))) (pss_one (ps_ret pe_bl)) pss_nil)
  (pss_cons (ps_expr (k_bm (K := K) PySem.F.plainAttrs_list PySem.F.slot_list_append PySem.F.type_list_append mt_append (pe_ix (k_ix (K := K)) (pv 4) pe_int (fun _ _ => rfl)) (pa_cons pe_int pa_nil)))
  (pss_cons (ps_expr (k_bm0 (K := K) PySem.F.plainAttrs_list PySem.F.slot_list_clear PySem.F.type_list_clear mt_clear (pe_ix (k_ix (K := K)) (pv 4) (pe_un un_neg pe_int) (fun _ _ => rfl))))
  (pss_one (ps_ret (pe_cmpR (op_eqD (cA := ⟨t.c, K⟩) (hr.units)) (pv 3) (pv 2) (nomark _)))))))))))), [], ?_⟩
  unfold f__law_rounds
  exact (vs_seq (show VS _ _ [] _ _ _ _ from (vs_asg 3 (VF.cl (vf_listX (Or.inl rfl) (va_cons (ve_var 2 (by rfl)) va_nil))) (by rfl) (by rfl) (by rfl) (by rfl)))
  (vs_mat 4 (by rfl) (by rfl) (vfm_call [] (by rfl) (va_cons (ve_var 0 (by rfl)) (va_cons (ve_var 1 (by rfl)) (va_cons (ve_var 3 (by rfl)) va_nil))))
  (vm_seq (vm_if (vt_or (vt_t (ve_op ok_ne (ve_var 3 (by rfl)) (ve_var 2 (by rfl)))) (vt_or (vt_not (vt_b (ve_isi (fun _ h => h) T.isi_list (ve_var 4 (by rfl))))) (vt_or (vt_t (ve_op ok_eq (ve_cb cb_len (va_cons (ve_var 4 (by rfl)) va_nil)) (ve_c (d := (.int 0)) (by rfl) (by rfl)))) (vt_t (ve_op ok_ne (ve_op ok_ix (ve_var 4 (by rfl)) (ve_c (d := (.int 0)) (by rfl) (by rfl))) (ve_var 2 (by rfl))))))) (vm_ret (ve_c (d := (.bl false)) (by rfl) (by rfl))) vm_next)
  (vm_seq (vm_for 5 (by decide) (by rfl) (by rfl) (vir_rng1 (va_cons (ve_cb cb_len (va_cons (ve_var 4 (by rfl)) va_nil)) va_nil) len1) (vm_seq (vm_if (vt_not (vt_b (ve_call [] (by rfl) (va_cons (ve_op ok_ix (ve_var 4 (by rfl)) (ve_var 5 (by rfl))) (va_cons (ve_cb cb_len (va_cons (ve_var 2 (by rfl)) va_nil)) va_nil))))) (vm_ret (ve_c (d := (.bl false)) (by rfl) (by rfl))) vm_next)
  (vm_if (vt_t (ve_op ok_cmp (ve_var 5 (by rfl)) (ve_c (d := (.int 0)) (by rfl) (by rfl)))) (vm_seq (show VM _ _ [] _ _ _ _ _ from vm_asgL 6 (by decide) (vf_callL [] (by rfl) (va_cons (ve_var 0 (by rfl)) (va_cons (ve_var 1 (by rfl)) (va_cons (ve_op ok_ix (ve_var 4 (by rfl)) (ve_op ok_sub (ve_var 5 (by rfl)) (ve_c (d := (.int 1)) (by rfl) (by rfl)))) va_nil)))) (by rfl) (by rfl) (by rfl) (by rfl))
  (vm_if (vt_or (vt_t (ve_op ok_eq (ve_op ok_ix (ve_var 4 (by rfl)) (ve_var 5 (by rfl))) (ve_op ok_ix (ve_var 4 (by rfl)) (ve_op ok_sub (ve_var 5 (by rfl)) (ve_c (d := (.int 1)) (by rfl) (by rfl)))))) (vt_t (ve_op ok_ne (ve_op ok_ix (ve_var 4 (by rfl)) (ve_var 5 (by rfl))) (ve_var 6 (by rfl))))) (vm_ret (ve_c (d := (.bl false)) (by rfl) (by rfl))) vm_next)) vm_next)))
  (vm_seq (show VM _ _ [] _ _ _ _ _ from vm_asgL 7 (by decide) (vf_listX (Or.inl rfl) (va_cons (ve_op ok_ix (ve_var 4 (by rfl)) (ve_neg (ve_c (d := (.int 1)) (by rfl) (by rfl)))) va_nil)) (by rfl) (by rfl) (by rfl) (by rfl))
  (vm_seq (vm_if (vt_or (vt_t (ve_op ok_ne (VF.cl (vf_callL [] (by rfl) (va_cons (ve_var 0 (by rfl)) (va_cons (ve_var 1 (by rfl)) (va_cons (ve_var 7 (by rfl)) va_nil))))) (ve_var 7 (by rfl)))) (vt_not (vt_b (ve_call [] (by rfl) (va_cons (ve_var 0 (by rfl)) (va_cons (ve_var 1 (by rfl)) (va_cons (ve_var 7 (by rfl)) va_nil))))))) (vm_ret (ve_c (d := (.bl false)) (by rfl) (by rfl))) vm_next)
  (vm_seq (vm_app2 (ve_c (d := (.int 0)) (by rfl) (by rfl)) (ve_c (d := (.int 1)) (by rfl) (by rfl)))
  (vm_seq (vm_clr2 (ve_neg (ve_c (d := (.int 1)) (by rfl) (by rfl))))
  (vm_ret (ve_op ok_eq (ve_var 3 (by rfl)) (ve_var 2 (by rfl))))))))))))
theorem ok_law (T : Txt K mg t) : FnOk P w K mg base CX0 5 t.a_law t.d_law ["script"] (spD ⟨t.c, K⟩ 1 m_law) := by
  have G__law_cell_at : FnOk P w K mg base CX0 4 t.a__law_cell_at t.d__law_cell_at ["script", "k"] (spD ⟨t.c, K⟩ 2 m__law_cell_at) := (ok__law_cell_at T).mono (by decide)
  have G__law_once : FnOk P w K mg base CX0 4 t.a__law_once t.d__law_once ["table", "n", "weights"] (spD ⟨t.c, K⟩ 3 m__law_once) := (ok__law_once T).mono (by decide)
  have G__law_rounds : FnOk P w K mg base CX0 4 t.a__law_rounds t.d__law_rounds ["table", "n", "weights"] (spD ⟨t.c, K⟩ 3 m__law_rounds) := (ok__law_rounds T).mono (by decide)
  have G__law_table : FnOk P w K mg base CX0 4 t.a__law_table t.d__law_table ["script", "at", "many"] (spD ⟨t.c, K⟩ 3 m__law_table) := (ok__law_table T).mono (by decide)
  refine fn_DB (φ := f_law) T.f_law sc_law (by conv => lhs; whnf) (by conv => lhs; whnf) (fun cdv A outer s H E hr => ?_) rfl rfl
  refine ⟨_, (pss_cons (ps_set (i := 1) (show List.Nodup (["script", "many", "table", "n", "few", "great", "kept"] : List Str) by decide +kernel) (by rfl) (by first | exact Or.inl rfl | exact Or.inr rfl) (pe_op op_addX pe_int (pe_op op_modN (pe_call (G__law_cell_at) hr (by rfl) T.g__law_cell_at T.k__law_cell_at T.b__law_cell_at .nil pass0 (pa_cons (pv 0) (pa_cons pe_int pa_nil))) pe_int)))
  (pss_cons (ps_set (i := 2) (show List.Nodup (["script", "many", "table", "n", "few", "great", "kept"] : List Str) by decide +kernel) (by rfl) (by first | exact Or.inl rfl | exact Or.inr rfl) (pe_call (G__law_table) hr (by rfl) T.g__law_table T.k__law_table T.b__law_table .nil pass0 (pa_cons (pv 0) (pa_cons pe_int (pa_cons (pv 1) pa_nil)))))
  (pss_cons (ps_set (i := 3) (show List.Nodup (["script", "many", "table", "n", "few", "great", "kept"] : List Str) by decide +kernel) (by rfl) (by first | exact Or.inl rfl | exact Or.inr rfl) (pe_op op_addX pe_int (pe_op op_modN (pe_op op_fdivW (pe_call (G__law_cell_at) hr (by rfl) T.g__law_cell_at T.k__law_cell_at T.b__law_cell_at .nil pass0 (pa_cons (pv 0) (pa_cons pe_int pa_nil))) pe_int) pe_int)))
  (pss_cons (ps_if (pt_cmpR (op_eqD (cA := ⟨t.c, K⟩) (hr.units)) (pe_op op_modN (pe_call (G__law_cell_at) hr (by rfl) T.g__law_cell_at T.k__law_cell_at T.b__law_cell_at .nil pass0 (pa_cons (pv 0) (pa_cons pe_int pa_nil))) pe_int) pe_int (nomark _)) (pss_one (ps_set (i := 3) (show List.Nodup (["script", "many", "table", "n", "few", "great", "kept"] : List Str) by decide +kernel) (by rfl) (by first | exact Or.inl rfl | exact Or.inr rfl) (pe_op op_addX pe_int (pe_op op_modN (pe_op op_fdivW (pe_call (G__law_cell_at) hr (by rfl) T.g__law_cell_at T.k__law_cell_at T.b__law_cell_at .nil pass0 (pa_cons (pv 0) (pa_cons pe_int pa_nil))) pe_int) (pe_op op_addX (pe_callB (k_maxL (K := K)) (by rfl) T.n_max boot_max (pa_cons (pe_comp (by rfl) (CompSc.mk' (tn := ["row"]) (cn := []) (js := []) (osc := defScope s_law) (oN := ["script", "many", "table", "n", "few", "great", "kept"]) (by rfl) (by rfl) (by rfl) (by decide +kernel)) (k_pi (K := K) (pv 2)) (fun C s₂ H₂ fp => pg_name (i := 0) (show List.Nodup (["row"] : List Str) by decide +kernel) (by rfl) (by first | exact Or.inl rfl | exact Or.inr rfl)) (fun C s₂ H₂ fp => pts_nil) (fun C s₂ H₂ fp => (pe_callB (k_sumL (K := K)) (by rfl) T.n_sum boot_sum (pa_cons (pv 0) pa_nil)))) pa_nil)) pe_int))))) pss_nil)
  (pss_cons (ps_setC (i := 4) (show List.Nodup (["script", "many", "table", "n", "few", "great", "kept"] : List Str) by decide +kernel) (by rfl) (by rfl) (by rfl) (CompSc.mk' (tn := ["k"]) (cn := ["script"]) (js := [0]) (osc := defScope s_law) (oN := ["script", "many", "table", "n", "few", "great", "kept"]) (by rfl) (by rfl) (by rfl) (by decide +kernel)) (pi_range1 (by rfl) T.n_range (pa_cons (pv 1) pa_nil)) (fun C s₂ H₂ fp => pg_name (i := 0) (show List.Nodup (["k", "script"] : List Str) by decide +kernel) (by rfl) (by first | exact Or.inl rfl | exact Or.inr rfl)) (fun C s₂ H₂ fp => pts_nil) (fun C s₂ H₂ fp => (pe_op op_modN (pe_call (G__law_cell_at) hr (by rfl) T.g__law_cell_at T.k__law_cell_at T.b__law_cell_at .nil pass0 (pa_cons (pv 1) (pa_cons (pe_op op_addX pe_int (pv 0)) pa_nil))) pe_int)))
  (pss_cons (ps_setC (i := 5) (show List.Nodup (["script", "many", "table", "n", "few", "great", "kept"] : List Str) by decide +kernel) (by rfl) (by rfl) (by rfl) (CompSc.mk' (tn := ["k"]) (cn := ["script"]) (js := [0]) (osc := defScope s_law) (oN := ["script", "many", "table", "n", "few", "great", "kept"]) (by rfl) (by rfl) (by rfl) (by decide +kernel)) (pi_range1 (by rfl) T.n_range (pa_cons (pv 1) pa_nil)) (fun C s₂ H₂ fp => pg_name (i := 0) (show List.Nodup (["k", "script"] : List Str) by decide +kernel) (by rfl) (by first | exact Or.inl rfl | exact Or.inr rfl)) (fun C s₂ H₂ fp => pts_nil) (fun C s₂ H₂ fp => (pe_op op_modN (pe_call (G__law_cell_at) hr (by rfl) T.g__law_cell_at T.k__law_cell_at T.b__law_cell_at .nil pass0 (pa_cons (pv 1) (pa_cons (pe_op op_addX pe_int (pv 0)) pa_nil))) (pe_op op_addX (pe_op op_pow pe_int pe_int) pe_int))))
  (pss_cons (ps_setC (i := 6) (show List.Nodup (["script", "many", "table", "n", "few", "great", "kept"] : List Str) by decide +kernel) (by rfl) (by rfl) (by rfl) (CompSc.mk' (tn := ["row"]) (cn := []) (js := []) (osc := defScope s_law) (oN := ["script", "many", "table", "n", "few", "great", "kept"]) (by rfl) (by rfl) (by rfl) (by decide +kernel)) (k_pi (K := K) (pv 2)) (fun C s₂ H₂ fp => pg_name (i := 0) (show List.Nodup (["row"] : List Str) by decide +kernel) (by rfl) (by first | exact Or.inl rfl | exact Or.inr rfl)) (fun C s₂ H₂ fp => pts_nil) (fun C s₂ H₂ fp => (pe_callTy (call_listX (K := K)) (by rfl) T.n_list boot_list (pa_cons (pv 0) pa_nil))))
  (pss_cons (ps_if (PW.pt (pw_or (pt_not (pt_val (pe_call (G__law_once) hr (by rfl) T.g__law_once T.k__law_once T.b__law_once .nil pass0 (pa_cons (pv 2) (pa_cons (pv 3) (pa_cons (pv 4) pa_nil)))))) (pw_or1 (pt_not (pt_val (pe_call (G__law_once) hr (by rfl) T.g__law_once T.k__law_once T.b__law_once .nil pass0 (pa_cons (pv 2) (pa_cons (pv 3) (pa_cons (pv 5) pa_nil))))))))) (pss_one (ps_ret pe_bl)) pss_nil)
  (pss_one (ps_ret (pe_and (pe_call (G__law_rounds) hr (by rfl) T.g__law_rounds T.k__law_rounds T.b__law_rounds .nil pass0 (pa_cons (pv 2) (pa_cons (pv 3) (pa_cons (pv 4) pa_nil)))) (pe_one (pe_cmpR (op_eqD (cA := ⟨t.c, K⟩) (hr.units)) (pv 2) (pv 6) (nomark _)))))))))))))), [], ?_⟩
  unfold f_law
  exact (vs_seq (show VS _ _ [] _ _ _ _ from (vs_asg 1 (ve_op ok_add (ve_c (d := (.int 1)) (by rfl) (by rfl)) (ve_op ok_modW (ve_call [] (by rfl) (va_cons (ve_var 0 (by rfl)) (va_cons (ve_c (d := (.int 0)) (by rfl) (by rfl)) va_nil))) (ve_c (d := (.int 5)) (by rfl) (by rfl)))) (by rfl) (by rfl) (by rfl) (by rfl)))
  (vs_seq (show VS _ _ [] _ _ _ _ from (vs_asg 2 (ve_call [] (by rfl) (va_cons (ve_var 0 (by rfl)) (va_cons (ve_c (d := (.int 12)) (by rfl) (by rfl)) (va_cons (ve_var 1 (by rfl)) va_nil)))) (by rfl) (by rfl) (by rfl) (by rfl)))
  (vs_seq (show VS _ _ [] _ _ _ _ from (vs_asg 3 (ve_op ok_add (ve_c (d := (.int 1)) (by rfl) (by rfl)) (ve_op ok_modW (ve_op ok_fdivW (ve_call [] (by rfl) (va_cons (ve_var 0 (by rfl)) (va_cons (ve_c (d := (.int 1)) (by rfl) (by rfl)) va_nil))) (ve_c (d := (.int 3)) (by rfl) (by rfl))) (ve_c (d := (.int 9)) (by rfl) (by rfl)))) (by rfl) (by rfl) (by rfl) (by rfl)))
  (vs_seq (vs_if (vt_t (ve_op ok_eq (ve_op ok_modW (ve_call [] (by rfl) (va_cons (ve_var 0 (by rfl)) (va_cons (ve_c (d := (.int 1)) (by rfl) (by rfl)) va_nil))) (ve_c (d := (.int 3)) (by rfl) (by rfl))) (ve_c (d := (.int 1)) (by rfl) (by rfl)))) (show VS _ _ [] _ _ _ _ from (vs_asg 3 (ve_op ok_add (ve_c (d := (.int 1)) (by rfl) (by rfl)) (ve_op ok_modW (ve_op ok_fdivW (ve_call [] (by rfl) (va_cons (ve_var 0 (by rfl)) (va_cons (ve_c (d := (.int 1)) (by rfl) (by rfl)) va_nil))) (ve_c (d := (.int 3)) (by rfl) (by rfl))) (ve_op ok_add (ve_cb cb_maxL (va_cons (VF.cl (vf_comp (by rfl) (vi_any (ve_var 2 (by rfl))) (vg_name 0 (by rfl) (by rfl)) vt_yes (ve_cb cb_sumL (va_cons (ve_var 0 (by rfl)) va_nil)))) va_nil)) (ve_c (d := (.int 2)) (by rfl) (by rfl))))) (by rfl) (by rfl) (by rfl) (by rfl))) vs_next)
  (vs_seq (show VS _ _ [] _ _ _ _ from (vs_asg 4 (VF.cl (vf_comp (by rfl) (vi_rng1 (va_cons (ve_var 1 (by rfl)) va_nil) len1) (vg_name 0 (by rfl) (by rfl)) vt_yes (ve_op ok_modW (ve_call [] (by rfl) (va_cons (ve_var 1 (by rfl)) (va_cons (ve_op ok_add (ve_c (d := (.int 2)) (by rfl) (by rfl)) (ve_var 0 (by rfl))) va_nil))) (ve_c (d := (.int 21)) (by rfl) (by rfl))))) (by rfl) (by rfl) (by rfl) (by rfl)))
  (vs_seq (show VS _ _ [] _ _ _ _ from (vs_asg 5 (VF.cl (vf_comp (by rfl) (vi_rng1 (va_cons (ve_var 1 (by rfl)) va_nil) len1) (vg_name 0 (by rfl) (by rfl)) vt_yes (ve_op ok_modW (ve_call [] (by rfl) (va_cons (ve_var 1 (by rfl)) (va_cons (ve_op ok_add (ve_c (d := (.int 7)) (by rfl) (by rfl)) (ve_var 0 (by rfl))) va_nil))) (ve_op ok_add (ve_op ok_powW (ve_c (d := (.int 10)) (by rfl) (by rfl)) (ve_c (d := (.int 30)) (by rfl) (by rfl))) (ve_c (d := (.int 1)) (by rfl) (by rfl)))))) (by rfl) (by rfl) (by rfl) (by rfl)))
  (vs_seq (show VS _ _ [] _ _ _ _ from (vs_asg 6 (VF.cl (vf_comp (by rfl) (vi_any (ve_var 2 (by rfl))) (vg_name 0 (by rfl) (by rfl)) vt_yes (VF.cl (vf_listX (Or.inl rfl) (va_cons (ve_var 0 (by rfl)) va_nil))))) (by rfl) (by rfl) (by rfl) (by rfl)))
  (vs_seq (vs_if (vt_or (vt_not (vt_b (ve_call [] (by rfl) (va_cons (ve_var 2 (by rfl)) (va_cons (ve_var 3 (by rfl)) (va_cons (ve_var 4 (by rfl)) va_nil)))))) (vt_not (vt_b (ve_call [] (by rfl) (va_cons (ve_var 2 (by rfl)) (va_cons (ve_var 3 (by rfl)) (va_cons (ve_var 5 (by rfl)) va_nil))))))) (vs_ret (ve_c (d := (.bl false)) (by rfl) (by rfl))) vs_next)
  (vs_ret (ve_and (ve_call [] (by rfl) (va_cons (ve_var 2 (by rfl)) (va_cons (ve_var 3 (by rfl)) (va_cons (ve_var 4 (by rfl)) va_nil)))) (ve_op ok_eq (ve_var 2 (by rfl)) (ve_var 6 (by rfl)))))))))))))
end
end K28

namespace K28
open DL L2
theorem cell_at (ns : List Int) (k : Nat) : m__law_cell_at [.lst (ns.map D.int), .int k] = some (.int (ns.getD k 0)) := by
  by_cases h : k < ns.length
  · have hz : atI (ns.map D.int) (k : Int) = some (.int (ns.getD k 0)) := by
      refine atI_nat ?_
      rw [List.getElem?_map, List.getElem?_eq_getElem h, List.getD_eq_getElem?_getD, List.getElem?_eq_getElem h]
      rfl
    simp [m__law_cell_at, f__law_cell_at, h, hz, DL.run, DL.runI, sSeq, sIf, sRet, sRetN, sNext, sAsg, sExpr, sFldD, sBase, sNever, xB, bD, xNot, xAnd, xOr, eVar, eC, eOp, eAnd, eOr, eNot, eIf, eIsN, eNotN, isNon, eChain, eUn, negD, eNil, eCons, eLst, eTup, eCB, lenD, minD, maxD, eCall, eMake, eMeth, eFld, eSl, xP, xNoP, addD, subD, mulD, fdivD, modD, cmpD, ixD, isD, eBM, eIsi, isiD, kind, plainKinds, eqD_int, eqD_str, eqD_bl', eqD_nn, eqD_ni, eqD_in, neD_int, neD_str, neD_nn, neD_ni, neD_in, List.lookup, CDiv, CMul, PySem.sizeLine_eq, List.replicate]
  · have hz : ns.getD k 0 = 0 := by rw [List.getD_eq_getElem?_getD, List.getElem?_eq_none (by omega)]; rfl
    simp [m__law_cell_at, f__law_cell_at, h, hz, DL.run, DL.runI, sSeq, sIf, sRet, sRetN, sNext, sAsg, sExpr, sFldD, sBase, sNever, xB, bD, xNot, xAnd, xOr, eVar, eC, eOp, eAnd, eOr, eNot, eIf, eIsN, eNotN, isNon, eChain, eUn, negD, eNil, eCons, eLst, eTup, eCB, lenD, minD, maxD, eCall, eMake, eMeth, eFld, eSl, xP, xNoP, addD, subD, mulD, fdivD, modD, cmpD, ixD, isD, eBM, eIsi, isiD, kind, plainKinds, eqD_int, eqD_str, eqD_bl', eqD_nn, eqD_ni, eqD_in, neD_int, neD_str, neD_nn, neD_ni, neD_in, List.lookup, CDiv, CMul, PySem.sizeLine_eq, List.replicate]
abbrev IL (w : List Int) : D := .lst (w.map D.int)
abbrev TD (T : List (List Int)) : D := .lst (T.map IL)
/-! ### == of lists of ints -/
theorem eqvAll_ints : ∀ xs ys : List Int, PySem.PyData.eqvAll (toPs (xs.map D.int)) (toPs (ys.map D.int)) = decide (xs = ys)
  | [], [] => rfl
  | [], y :: ys => rfl
  | x :: xs, [] => rfl
  | x :: xs, y :: ys => by
    rw [List.map_cons, List.map_cons, toPs, toPs, PySem.PyData.eqvAll, eqvAll_ints xs ys]
    show ((x == y) && decide (xs = ys)) = decide (x :: xs = y :: ys)
    by_cases h1 : x = y
    · by_cases h2 : xs = ys
      · simp [h1, h2]
      · simp [h1, h2]
    · simp [h1]
theorem eqD_ints (xs ys : List Int) : eqD (IL xs) (IL ys) = some (.bl (decide (xs = ys))) := by
  unfold eqD
  rw [if_neg (by simp [scalar]), shaped_ints, shaped_ints, if_pos (by rfl)]
  show some (D.bl (PySem.PyData.eqvAll (toPs (xs.map D.int)) (toPs (ys.map D.int)))) = _
  rw [eqvAll_ints]
theorem neD_ints (xs ys : List Int) : neD (IL xs) (IL ys) = some (.bl (!decide (xs = ys))) := by
  unfold neD
  rw [eqD_ints]
/-! ### comprehensions -/
theorem comp_cons {γ : D → DL.Env → Option DL.Env} {ε : DL.Env → Option D} {δ0 δ1 : DL.Env} {x y : D} {r ys : List D} (h1 : γ x δ0 = some δ1) (h2 : ε δ1 = some y) (h3 : compD γ (fun _ => some true) ε δ0 r = some ys) : compD γ (fun _ => some true) ε δ0 (x :: r) = some (y :: ys) := by
  unfold compD
  rw [h1]
  dsimp only
  rw [h2, h3]
theorem comp_zip {ε : DL.Env → Option D} {δ0 : DL.Env} (g : Int → Int → D) : ∀ (as bs : List Int), (∀ p ∈ as.zip bs, ε ((δ0.set 0 (some (.int p.1))).set 1 (some (.int p.2))) = some (g p.1 p.2)) → compD (gTupD 2 (gsCons 0 (gsCons 1 gsNil))) (fun _ => some true) ε δ0 (zipD (as.map D.int) (bs.map D.int)) = some ((as.zip bs).map fun p => g p.1 p.2)
  | [], bs, _ => by cases bs <;> rfl
  | a :: as, [], _ => rfl
  | a :: as, b :: bs, h => by
    rw [List.map_cons, List.map_cons, zipD, List.zip_cons_cons, List.map_cons]
    refine comp_cons (δ1 := (δ0.set 0 (some (.int a))).set 1 (some (.int b))) rfl (h (a, b) (by rw [List.zip_cons_cons]; exact List.mem_cons_self)) (comp_zip g as bs fun p hp => h p (by rw [List.zip_cons_cons]; exact List.mem_cons_of_mem _ hp))
theorem comp_emb {α : Type} (emb g : α → D) {ε : DL.Env → Option D} {δ0 : DL.Env} : ∀ L : List α, (∀ a ∈ L, ε (δ0.set 0 (some (emb a))) = some (g a)) → compD (gSet 0) (fun _ => some true) ε δ0 (L.map emb) = some (L.map g)
  | [], _ => rfl
  | a :: L, h => by
    rw [List.map_cons, List.map_cons]
    exact comp_cons (δ1 := δ0.set 0 (some (emb a))) rfl (h a List.mem_cons_self) (comp_emb emb g L fun x hx => h x (List.mem_cons_of_mem _ hx))
theorem iotaZ_of {ε1 ε2 : DL.Env → Option D} {δ : DL.Env} {xs ys : List D} (h1 : ε1 δ = some (.lst xs)) (h2 : ε2 δ = some (.lst ys)) : iotaZ ε1 ε2 δ = some (zipD xs ys) := by
  unfold iotaZ
  rw [h1, h2]
theorem iotaA_of {ε : DL.Env → Option D} {δ : DL.Env} {xs : List D} (h : ε δ = some (.lst xs)) : iotaA ε δ = some xs := by
  unfold iotaA
  rw [h]
theorem intsD_map : ∀ ns : List Int, intsD (ns.map D.int) = some ns
  | [] => rfl
  | n :: ns => by
    rw [List.map_cons, intsD, intsD_map ns]
theorem sum_ints (ns : List Int) : sumLD [.lst (ns.map D.int)] = some (.int ns.sum) := by
  unfold sumLD
  dsimp only
  rw [intsD_map]
theorem bools_map : ∀ bs : List Bool, bools (bs.map D.bl) = some bs
  | [] => rfl
  | b :: bs => by
    rw [List.map_cons, bools, bools_map bs]
theorem all_bools (bs : List Bool) : allD (fun bs => bs.all id) [.lst (bs.map D.bl)] = some (.bl (bs.all id)) := by
  unfold allD
  dsimp only
  rw [bools_map]
theorem runF_of {n : Nat} {f : DL.Env → Option Out} {vs : List D} {δ : DL.Env} {d : D} (h1 : (vs.map some ++ List.replicate (n - vs.length) none) = δ) (h2 : f δ = some (.rt d)) : DL.runF n f vs = some d := by
  unfold DL.runF
  rw [h1, h2]
theorem seqN_nx {a b : DL.Env → Option Out} {δ δ' : DL.Env} (h : a δ = some (.nx δ')) : sSeqN a b δ = b δ' := by
  unfold sSeqN
  rw [h]
/-! ### small numbers -/
theorem mulL {i j : Int} (h0 : 0 ≤ i) (h1 : i < 10000000000000000000) : mulW (.int i) (.int j) = some (.int (i * j)) := if_pos (.inr (.inl ⟨by omega, by omega⟩))
theorem wd_n {j : Int} (h0 : 0 < j) (h1 : j < 10000000000000000000) : Wd j := by
  unfold Wd
  have : j.natAbs < 10000000000000000000 := by omega
  exact Nat.lt_trans this (by decide +kernel)
theorem fdivL {i j : Int} (h0 : 0 < j) (h1 : j < 10000000000000000000) : fdivW (.int i) (.int j) = some (.int (i.fdiv j)) := fdivW_of (by omega) (wd_n h0 h1)
theorem modL {i j : Int} (h0 : 0 < j) : modW (.int i) (.int j) = some (.int (i.fmod j)) := modW_of (by omega)
/-! ### tables -/
structure Tb (m : Nat) (T : List (List Int)) : Prop where
  m1 : 1 ≤ m
  m5 : m ≤ 5
  ln : T.length = m
  rl : ∀ r ∈ T, r.length = m
  en : ∀ r ∈ T, ∀ x ∈ r, 0 ≤ x ∧ x < 1000000000000
def dot (r w : List Int) : Int := ((r.zip w).map fun p => p.1 * p.2).sum
def sums (T : List (List Int)) (w : List Int) : List Int := T.map fun r => dot r w
def mn (t x : Int) : Int := if t < x then t else x
def shr (T : List (List Int)) (n : Int) (w : List Int) : List Int := ((sums T w).zip w).map fun p => mn (p.1.fdiv n) p.2
theorem sums_len {m : Nat} {T : List (List Int)} (h : Tb m T) (w : List Int) : (sums T w).length = m := by unfold sums; rw [List.length_map]; exact h.ln
theorem shr_len {m : Nat} {T : List (List Int)} (h : Tb m T) (n : Int) {w : List Int} (hw : w.length = m) : (shr T n w).length = m := by
  unfold shr
  rw [List.length_map, List.length_zip, sums_len h, hw]
  omega
noncomputable def inE : DL.Env → Option D := (eComp (iotaZ (eVar 0) (eVar 1)) (gTupD 2 (gsCons 0 (gsCons 1 gsNil))) (fun _ => some true) (eOp mulW (eVar 0) (eVar 1)) 2 [])
theorem in_of {r w : List Int} (hr : ∀ x ∈ r, 0 ≤ x ∧ x < 1000000000000) (hl : r.length ≤ 1000) : inE [some (IL r), some (IL w)] = some (IL ((r.zip w).map fun p => p.1 * p.2)) := by
  have hc := comp_zip (ε := eOp mulW (eVar 0) (eVar 1)) (δ0 := [none, none]) (fun a b => .int (a * b)) r w (fun p hp => by
    obtain ⟨h0, h1⟩ := hr p.1 (List.of_mem_zip (show (p.1, p.2) ∈ r.zip w from hp)).1
    exact (op_of (x := .int p.1) (y := .int p.2) rfl rfl).trans (mulL h0 (by omega)))
  have e : ((r.zip w).map fun p => p.1 * p.2).map D.int = (r.zip w).map fun p => D.int (p.1 * p.2) := by rw [List.map_map]; rfl
  unfold inE
  show _ = some (D.lst (((r.zip w).map fun p => p.1 * p.2).map D.int))
  rw [e]
  exact comp_of (iotaZ_of rfl rfl) rfl hc (by rw [List.length_map, List.length_zip]; omega)
noncomputable def boE : DL.Env → Option D := (eCB sumLD (eCons inE eNil))
theorem borne_eq : f_borne = sRet (eComp (iotaA (eVar 0)) (gSet 0) (fun _ => some true) boE 1 [1]) := rfl
theorem borne_ok {m : Nat} {T : List (List Int)} (h : Tb m T) (w : List Int) : m_borne [TD T, IL w] = some (IL (sums T w)) := by
  have m5 := h.m5
  have hc := comp_emb IL (fun r => D.int (dot r w)) (ε := boE) (δ0 := [none, some (IL w)]) T (fun r hr => by
    have hi := in_of (w := w) (h.en r hr) (by rw [h.rl r hr]; omega)
    exact (cb_of (cons_of hi nil_of)).trans (sum_ints _))
  refine run_of (δ := [some (TD T), some (IL w)]) rfl ?_
  rw [borne_eq]
  refine ret_of ?_
  have e : (sums T w).map D.int = T.map fun r => D.int (dot r w) := by unfold sums; rw [List.map_map]; rfl
  show _ = some (D.lst ((sums T w).map D.int))
  rw [e]
  exact comp_of (iotaA_of rfl) rfl hc (by rw [List.length_map, h.ln]; omega)
noncomputable def beE : DL.Env → Option D := (eOp (cmpD fun i j => decide (j ≤ i)) (eVar 0) (eOp mulW (eVar 2) (eVar 1)))
noncomputable def shE : DL.Env → Option D := (eCB minD (eCons (eVar 1) (eCons (eOp fdivW (eVar 0) (eVar 2)) eNil)))
noncomputable def zE (ε : DL.Env → Option D) : DL.Env → Option D := (eComp (iotaZ (eCall 2 m_borne [] (eCons (eVar 0) (eCons (eVar 2) eNil))) (eVar 2)) (gTupD 2 (gsCons 0 (gsCons 1 gsNil))) (fun _ => some true) ε 2 [1])
theorem bears_eq : f_bears = sRet (eCB (allD fun bs => bs.all id) (eCons (zE beE) eNil)) := rfl
theorem shrunk_eq : f_shrunk = sRet (zE shE) := rfl
theorem z_of {m : Nat} {T : List (List Int)} (h : Tb m T) (n : Int) (w : List Int) {ε : DL.Env → Option D} (g : Int → Int → D) (hg : ∀ p ∈ (sums T w).zip w, ε [some (.int p.1), some (.int p.2), some (.int n)] = some (g p.1 p.2)) : zE ε [some (TD T), some (.int n), some (IL w)] = some (.lst (((sums T w).zip w).map fun p => g p.1 p.2)) := by
  have m5 := h.m5
  have hl := sums_len h w
  unfold zE
  exact comp_of (iotaZ_of ((call_of (n := 2) (cons_of (x := TD T) rfl (cons_of (x := IL w) rfl nil_of)) rfl).trans (borne_ok h w)) rfl) rfl (comp_zip (δ0 := [none, none, some (.int n)]) g (sums T w) w hg) (by rw [List.length_map, List.length_zip]; omega)
def bear (T : List (List Int)) (n : Int) (w : List Int) : Bool := (((sums T w).zip w).map fun p => decide (n * p.2 ≤ p.1)).all id
theorem bears_ok {m : Nat} {T : List (List Int)} (h : Tb m T) {n : Int} (n0 : 0 < n) (n1 : n < 10000000000000000000) (w : List Int) : m_bears [TD T, .int n, IL w] = some (.bl (bear T n w)) := by
  have hz := z_of h n w (ε := beE) (fun t x => .bl (decide (n * x ≤ t))) (fun p _ => by
    unfold beE
    exact (op_of (x := .int p.1) (y := .int (n * p.2)) rfl ((op_of (x := .int n) (y := .int p.2) rfl rfl).trans (mulL (by omega) n1))).trans rfl)
  refine run_of (δ := [some (TD T), some (.int n), some (IL w)]) rfl ?_
  rw [bears_eq]
  refine ret_of ((cb_of (cons_of hz nil_of)).trans ?_)
  have e : (((sums T w).zip w).map fun p => D.bl (decide (n * p.2 ≤ p.1))) = (((sums T w).zip w).map fun p => decide (n * p.2 ≤ p.1)).map D.bl := by rw [List.map_map]; rfl
  rw [e, all_bools]
  rfl
theorem shrunk_ok {m : Nat} {T : List (List Int)} (h : Tb m T) {n : Int} (n0 : 0 < n) (n1 : n < 10000000000000000000) (w : List Int) : m_shrunk [TD T, .int n, IL w] = some (IL (shr T n w)) := by
  have hz := z_of h n w (ε := shE) (fun t x => .int (mn (t.fdiv n) x)) (fun p _ => by
    unfold shE
    exact (cb_of (cons_of (x := .int p.2) rfl (cons_of (x := .int (p.1.fdiv n)) ((op_of (x := .int p.1) (y := .int n) rfl rfl).trans (fdivL n0 n1)) nil_of))).trans rfl)
  refine runF_of (δ := [some (TD T), some (.int n), some (IL w)]) rfl ?_
  rw [shrunk_eq]
  refine ret_of (hz.trans ?_)
  unfold shr
  show _ = some (D.lst ((((sums T w).zip w).map fun p => mn (p.1.fdiv n) p.2).map D.int))
  rw [List.map_map]
  rfl
end K28

namespace K28
open DL L2
theorem getD_lt {M : List Int} {k : Nat} (hk : k < M.length) : M.getD k 0 = M[k] := by
  rw [List.getD_eq_getElem?_getD, List.getElem?_eq_getElem hk]
  rfl
theorem dot_take : ∀ (r w : List Int) (k : Nat), k < r.length → k < w.length → dot (r.take (k + 1)) w = dot (r.take k) w + r.getD k 0 * w.getD k 0
  | [], w, k, h, _ => by simp at h
  | a :: r, [], k, _, h => by simp at h
  | a :: r, b :: w, 0, _, _ => by simp [dot]
  | a :: r, b :: w, k + 1, h1, h2 => by
    have ih := dot_take r w k (by simpa using h1) (by simpa using h2)
    have e : ∀ r : List Int, dot (a :: r) (b :: w) = a * b + dot r w := fun r => by simp [dot]
    rw [List.take_succ_cons, List.take_succ_cons, e, e, ih]
    simp
    omega
/-! ### sums -/
noncomputable def u1 : DL.Env → Option Out := (sAsg 4 (eOp addD (eVar 4) (eOp mulW (eOp ixD (eVar 3) (eVar 5)) (eOp ixD (eVar 1) (eVar 5)))))
noncomputable def u2 : DL.Env → Option Out := (sFor (iotaR (eCons (eCB lenD (eCons (eVar 3) eNil)) eNil)) (gSet 5) u1)
noncomputable def uB : DL.Env → Option Out := (sSeq (sAsg 4 (eC (.int 0))) (sSeq u2 (sApp 2 (eVar 4))))
theorem sums_eq : f__law_sums = sSeqN (sAsg 2 (eLst eNil)) (sSeqN (sFor (iotaA (eVar 0)) (gSet 3) uB) (sRetL 2)) := rfl
abbrev UE (X : D) (w : List Int) (v2 v3 v4 v5 : Option D) : DL.Env := [some X, some (IL w), v2, v3, v4, v5]
theorem u_row (X : D) (r w : List Int) (hr : ∀ x ∈ r, 0 ≤ x ∧ x < 1000000000000) (hl : r.length ≤ w.length) (h5 : r.length ≤ 5) (v2 v5 : Option D) : ∃ w5, u2 (UE X w v2 (some (IL r)) (some (.int 0)) v5) = some (.nx (UE X w v2 (some (IL r)) (some (.int (dot r w))) w5)) := by
  obtain ⟨δ', h1, w5, e⟩ := forD_inv (γ := gSet 5) (φ := u1) (fun k δ => ∃ v5, δ = UE X w v2 (some (IL r)) (some (.int (dot (r.take k) w))) v5) (rngI 0 1 r.length) 0 (UE X w v2 (some (IL r)) (some (.int (dot (r.take 0) w))) v5) ⟨_, rfl⟩ (by
    intro j x δ hx ⟨v5, e⟩
    subst e
    obtain ⟨hj, rfl⟩ := rng_get hx
    rw [Nat.zero_add]
    refine ⟨_, rfl, _, asg_of (d := .int (dot (r.take (j + 1)) w)) ?_, _, rfl⟩
    rw [dot_take r w j hj (by omega)]
    have hm : r.getD j 0 ∈ r := by rw [getD_lt hj]; exact List.getElem_mem hj
    obtain ⟨p0, p1⟩ := hr _ hm
    refine (op_of (x := .int (dot (r.take j) w)) (y := .int (r.getD j 0 * w.getD j 0)) rfl ((op_of (x := .int (r.getD j 0)) (y := .int (w.getD j 0)) ((op_of (x := IL r) (y := .int (j : Int)) rfl rfl).trans (ix_ints hj)) ((op_of (x := IL w) (y := .int (j : Int)) rfl rfl).trans (ix_ints (by omega)))).trans (mulL p0 (by omega)))).trans rfl)
  subst e
  rw [rng_len, Nat.zero_add, List.take_length] at h1
  refine ⟨w5, ?_⟩
  unfold u2
  have hlen : eCB lenD (eCons (eVar 3) eNil) (UE X w v2 (some (IL r)) (some (.int 0)) v5) = some (.int (r.length : Int)) := by
    refine (cb_of (cons_of (x := IL r) rfl nil_of)).trans ?_
    rw [len_lst, List.length_map]
  exact for_of ((iotaR1 (j := (r.length : Int)) (cons_of hlen nil_of) (by omega) (by omega)).trans (by rw [Int.toNat_natCast])) h1
theorem for_cons {γ : D → DL.Env → Option DL.Env} {φ : DL.Env → Option Out} {x : D} {xs : List D} {δ δ1 δ2 : DL.Env} {o : Option Out} (h1 : γ x δ = some δ1) (h2 : φ δ1 = some (.nx δ2)) (h3 : forD γ φ xs δ2 = o) : forD γ φ (x :: xs) δ = o := by
  unfold forD
  rw [h1]
  dsimp only
  rw [h2]
  exact h3
theorem u_all (X : D) (w : List Int) : ∀ (T : List (List Int)) (acc : List Int) (v3 v4 v5 : Option D), (∀ r ∈ T, (∀ x ∈ r, 0 ≤ x ∧ x < 1000000000000) ∧ r.length ≤ w.length ∧ r.length ≤ 5) → acc.length + T.length ≤ 1000 →
    ∃ w3 w4 w5, forD (gSet 3) uB (T.map IL) (UE X w (some (IL acc)) v3 v4 v5) = some (.nx (UE X w (some (IL (acc ++ sums T w))) w3 w4 w5))
  | [], acc, v3, v4, v5, _, _ => ⟨v3, v4, v5, by rw [show sums [] w = [] from rfl, List.append_nil]; rfl⟩
  | r :: T, acc, v3, v4, v5, h, hl => by
    rw [List.length_cons] at hl
    obtain ⟨h1, h2, h3⟩ := h r List.mem_cons_self
    obtain ⟨w5, t⟩ := u_row X r w h1 h2 h3 (some (IL acc)) v5
    have tB : uB (UE X w (some (IL acc)) (some (IL r)) v4 v5) = some (.nx (UE X w (some (IL (acc ++ [dot r w]))) (some (IL r)) (some (.int (dot r w))) w5)) := by
      unfold uB
      rw [seq_nx (δ' := UE X w (some (IL acc)) (some (IL r)) (some (.int 0)) v5) rfl, seq_nx t]
      refine (app_of (xs := acc.map D.int) (d := .int (dot r w)) rfl rfl (by rw [List.length_map]; omega)).trans ?_
      rw [show acc.map D.int ++ [D.int (dot r w)] = (acc ++ [dot r w]).map D.int by rw [List.map_append]; rfl]
      rfl
    obtain ⟨a3, a4, a5, ih⟩ := u_all X w T (acc ++ [dot r w]) (some (IL r)) (some (.int (dot r w))) w5 (fun x hx => h x (List.mem_cons_of_mem _ hx)) (by rw [List.length_append]; simp; omega)
    refine ⟨a3, a4, a5, ?_⟩
    have es : acc ++ sums (r :: T) w = (acc ++ [dot r w]) ++ sums T w := by simp [sums]
    rw [es]
    rw [List.map_cons]
    exact for_cons (δ1 := UE X w (some (IL acc)) (some (IL r)) v4 v5) rfl tB ih
theorem retL_of {i : Nat} {δ : DL.Env} {xs : List D} (h : eVar i δ = some (.lst xs)) : sRetL i δ = some (.rt (.lst xs)) := by
  unfold sRetL
  rw [h]
theorem lsums_ok {m : Nat} {T : List (List Int)} (h : Tb m T) {w : List Int} (hw : w.length = m) : m__law_sums [TD T, IL w] = some (IL (sums T w)) := by
  have m5 := h.m5
  obtain ⟨w3, w4, w5, t⟩ := u_all (TD T) w T [] none none none (fun r hr => ⟨h.en r hr, by rw [h.rl r hr, hw]; exact Nat.le_refl _, by rw [h.rl r hr]; exact m5⟩) (by rw [h.ln]; simp; omega)
  rw [List.nil_append] at t
  refine runF_of (δ := [some (TD T), some (IL w), none, none, none, none]) rfl ?_
  rw [sums_eq]
  refine (seqN_nx (δ' := UE (TD T) w (some (IL [])) none none none) rfl).trans ?_
  exact (seqN_nx (for_of (iotaA_of rfl) t)).trans (retL_of rfl)
/-! ### shrunk, by the law -/
theorem td_set {α : Type} (as bs : List α) (k : Nat) (ha : k < as.length) (hb : k < bs.length) : (as.take k ++ bs.drop k).set k as[k] = as.take (k + 1) ++ bs.drop (k + 1) := by
  have hl : (as.take k).length = k := by rw [List.length_take]; omega
  rw [List.set_append_right _ _ (by omega), hl, Nat.sub_self, List.drop_eq_getElem_cons hb, List.set_cons_zero, ← List.take_append_getElem ha, List.append_assoc]
  rfl
theorem td_get {α : Type} (as bs : List α) (k : Nat) (ha : k ≤ as.length) : (as.take k ++ bs.drop k)[k]? = bs[k]? := by
  have hl : (as.take k).length = k := by rw [List.length_take]; omega
  rw [List.getElem?_append_right (by omega), hl, Nat.sub_self, List.getElem?_drop]
  rfl
theorem setI_ints {i : Nat} {κ ε : DL.Env → Option D} {δ : DL.Env} {xs : List Int} {k : Nat} {x : Int} (hk : k < xs.length) (hv : eVar i δ = some (IL xs)) (h1 : κ δ = some (.int (k : Int))) (h2 : ε δ = some (.int x)) : sSetI i κ ε δ = some (.nx (δ.set i (some (IL (xs.set k x))))) := by
  unfold sSetI
  rw [h2, hv, h1]
  dsimp only
  rw [List.length_map, ixN_nat hk]
  dsimp only
  rw [← List.map_set]
noncomputable def s1 : DL.Env → Option Out := (sSetI 3 (eVar 4) (eOp fdivW (eOp ixD (eVar 3) (eVar 4)) (eVar 1)))
noncomputable def s2 : DL.Env → Option Out := (sIf (xB (eOp (cmpD fun i j => decide (i < j)) (eOp ixD (eVar 2) (eVar 4)) (eOp ixD (eVar 3) (eVar 4)))) (sSetI 3 (eVar 4) (eOp ixD (eVar 2) (eVar 4))) sNext)
theorem lshr_eq : f__law_shrunk = sSeqN (sAsg 3 (eCall 2 m__law_sums [] (eCons (eVar 0) (eCons (eVar 2) eNil)))) (sSeqN (sFor (iotaR (eCons (eCB lenD (eCons (eVar 3) eNil)) eNil)) (gSet 4) (sSeq s1 s2)) (sRetL 3)) := rfl
abbrev SE (X : D) (n : Int) (w : List Int) (due : List Int) (v4 : Option D) : DL.Env := [some X, some (.int n), some (IL w), some (IL due), v4]
theorem s_turn (X : D) {n : Int} (n0 : 0 < n) (n1 : n < 10000000000000000000) (w due : List Int) (k : Nat) (hd : k < due.length) (hw : k < w.length) : sSeq s1 s2 (SE X n w due (some (.int (k : Int)))) = some (.nx (SE X n w (due.set k (mn ((due.getD k 0).fdiv n) (w.getD k 0))) (some (.int (k : Int))))) := by
  have t1 : s1 (SE X n w due (some (.int (k : Int)))) = some (.nx (SE X n w (due.set k ((due.getD k 0).fdiv n)) (some (.int (k : Int))))) := by
    unfold s1
    exact setI_ints hd rfl rfl ((op_of (x := .int (due.getD k 0)) (y := .int n) ((op_of (x := IL due) (y := .int (k : Int)) rfl rfl).trans (ix_ints hd)) rfl).trans (fdivL n0 n1))
  rw [seq_nx t1]
  generalize (due.getD k 0).fdiv n = t
  have hd2 : k < (due.set k t).length := by rw [List.length_set]; exact hd
  have eg : (due.set k t).getD k 0 = t := by rw [List.getD_eq_getElem?_getD, List.getElem?_set_self hd]; rfl
  have e1 : xB (eOp (cmpD fun i j => decide (i < j)) (eOp ixD (eVar 2) (eVar 4)) (eOp ixD (eVar 3) (eVar 4))) (SE X n w (due.set k t) (some (.int (k : Int)))) = some (decide (w.getD k 0 < t)) := by
    refine xB_of ((op_of (x := .int (w.getD k 0)) (y := .int t) ((op_of (x := IL w) (y := .int (k : Int)) rfl rfl).trans (ix_ints hw)) ((op_of (x := IL (due.set k t)) (y := .int (k : Int)) rfl rfl).trans ((ix_ints hd2).trans (by rw [eg])))).trans rfl)
  unfold s2
  by_cases hx : w.getD k 0 < t
  · rw [if_yes (by rw [e1, decide_eq_true hx])]
    refine (setI_ints hd2 rfl rfl ((op_of (x := IL w) (y := .int (k : Int)) rfl rfl).trans (ix_ints hw))).trans ?_
    rw [List.set_set]
    have : mn t (w.getD k 0) = w.getD k 0 := if_neg (by omega)
    rw [this]
    rfl
  · rw [if_no (by rw [e1, decide_eq_false hx])]
    have : mn t (w.getD k 0) = t := by
      unfold mn
      by_cases hy : t < w.getD k 0
      · rw [if_pos hy]
      · rw [if_neg hy]; omega
    rw [this]
    rfl
theorem shr_at {m : Nat} {T : List (List Int)} (h : Tb m T) (n : Int) {w : List Int} (hw : w.length = m) {k : Nat} (hk : k < m) (hk2 : k < (shr T n w).length) : (shr T n w)[k] = mn (((sums T w).getD k 0).fdiv n) (w.getD k 0) := by
  have hs : k < (sums T w).length := by rw [sums_len h]; exact hk
  have hw2 : k < w.length := by rw [hw]; exact hk
  rw [getD_lt hs, getD_lt hw2]
  have hz : k < ((sums T w).zip w).length := by rw [List.length_zip]; omega
  have e : (shr T n w)[k]? = some (mn ((sums T w)[k].fdiv n) w[k]) := by
    unfold shr
    rw [List.getElem?_map, List.getElem?_eq_getElem hz, List.getElem_zip]
    rfl
  rw [List.getElem?_eq_getElem hk2] at e
  exact Option.some.inj e
theorem lshr_ok {m : Nat} {T : List (List Int)} (h : Tb m T) {n : Int} (n0 : 0 < n) (n1 : n < 10000000000000000000) {w : List Int} (hw : w.length = m) : m__law_shrunk [TD T, .int n, IL w] = some (IL (shr T n w)) := by
  have m5 := h.m5
  have hs := sums_len h w
  have hr := shr_len h n hw
  obtain ⟨δ', h1, w4, e⟩ := forD_inv (γ := gSet 4) (φ := sSeq s1 s2) (fun k δ => ∃ v4, δ = SE (TD T) n w ((shr T n w).take k ++ (sums T w).drop k) v4) (rngI 0 1 m) 0 (SE (TD T) n w (sums T w) none) ⟨_, rfl⟩ (by
    intro j x δ hx ⟨v4, e⟩
    subst e
    obtain ⟨hj, rfl⟩ := rng_get hx
    rw [Nat.zero_add]
    have hl : j < ((shr T n w).take j ++ (sums T w).drop j).length := by rw [List.length_append, List.length_take, List.length_drop]; omega
    have t := s_turn (TD T) n0 n1 w ((shr T n w).take j ++ (sums T w).drop j) j hl (by omega)
    have eg : ((shr T n w).take j ++ (sums T w).drop j).getD j 0 = (sums T w).getD j 0 := by
      rw [List.getD_eq_getElem?_getD, td_get _ _ _ (by omega), ← List.getD_eq_getElem?_getD]
    rw [eg, ← shr_at h n hw hj (by omega), td_set _ _ _ (by omega) (by omega)] at t
    exact ⟨_, rfl, _, t, _, rfl⟩)
  subst e
  rw [rng_len, Nat.zero_add, ← hr, List.take_length, hr, ← hs, List.drop_length, List.append_nil] at h1
  refine runF_of (δ := [some (TD T), some (.int n), some (IL w), none, none]) rfl ?_
  rw [lshr_eq]
  refine (seqN_nx (δ' := SE (TD T) n w (sums T w) none) (asg_of ((call_of (n := 2) (cons_of (x := TD T) rfl (cons_of (x := IL w) rfl nil_of)) rfl).trans (lsums_ok h hw)))).trans ?_
  have hlen : eCB lenD (eCons (eVar 3) eNil) (SE (TD T) n w (sums T w) none) = some (.int (m : Int)) := by
    refine (cb_of (cons_of (x := IL (sums T w)) rfl nil_of)).trans ?_
    rw [len_lst, List.length_map, hs]
  rw [hs] at h1
  exact (seqN_nx (for_of ((iotaR1 (j := (m : Int)) (cons_of hlen nil_of) (by omega) (by omega)).trans (by rw [Int.toNat_natCast])) h1)).trans (retL_of rfl)
end K28

namespace K28
open DL L2
theorem whole (i : Int) : m__law_is_whole [.int i] = some (.bl true) := by
  simp [m__law_is_whole, f__law_is_whole, it_int, it_bool, DL.run, DL.runI, sSeq, sIf, sRet, sRetN, sNext, sAsg, sExpr, sFldD, sBase, sNever, xB, bD, xNot, xAnd, xOr, eVar, eC, eOp, eAnd, eOr, eNot, eIf, eIsN, eNotN, isNon, eChain, eUn, negD, eNil, eCons, eLst, eTup, eCB, lenD, minD, maxD, eCall, eMake, eMeth, eFld, eSl, xP, xNoP, addD, subD, mulD, fdivD, modD, cmpD, ixD, isD, eBM, eIsi, isiD, kind, plainKinds, eqD_int, eqD_str, eqD_bl', eqD_nn, eqD_ni, eqD_in, neD_int, neD_str, neD_nn, neD_ni, neD_in, List.lookup, CDiv, CMul, PySem.sizeLine_eq, List.replicate]
theorem len_of {xs : List Int} {i : Nat} {δ : DL.Env} (h : eVar i δ = some (IL xs)) : eCB lenD (eCons (eVar i) eNil) δ = some (.int (xs.length : Int)) := by
  refine (cb_of (cons_of h nil_of)).trans ?_
  rw [len_lst, List.length_map]
theorem row_ok (xs : List Int) {m : Nat} (hm : xs.length = m) : m__law_row [IL xs, .int (m : Int)] = some (.bl true) := by
  have e1 : eIsi it_list (eVar 0) [some (IL xs), some (.int (m : Int)), none] = some (.bl true) := isi_of rfl rfl
  have e2 : eOp neD (eCB lenD (eCons (eVar 0) eNil)) (eVar 1) [some (IL xs), some (.int (m : Int)), none] = some (.bl false) := by
    refine (op_of (x := .int (xs.length : Int)) (y := .int (m : Int)) (len_of rfl) rfl).trans ?_
    rw [neD_int, hm, decide_eq_true rfl]; rfl
  obtain ⟨δ', h1, v2, e⟩ := forD_keep (γ := gSet 2) (φ := sIf (xNot (xB (eCall 1 m__law_is_whole [] (eCons (eVar 2) eNil)))) (sRet (eC (.bl false))) sNext) (fun δ => ∃ v2, δ = [some (IL xs), some (.int (m : Int)), v2]) (xs.map D.int) [some (IL xs), some (.int (m : Int)), none] ⟨_, rfl⟩ (by
    intro x hx δ ⟨v2, e⟩
    subst e
    obtain ⟨t, _, rfl⟩ := List.mem_map.mp hx
    exact ⟨_, rfl, _, (if_no (xNot_of (b := true) (xB_of ((call_of (n := 1) (cons_of (x := .int t) rfl nil_of) rfl).trans (whole t))))).trans rfl, _, rfl⟩)
  subst e
  refine run_of (δ := [some (IL xs), some (.int (m : Int)), none]) rfl ?_
  refine (seq_nx ((if_no (xOr_no (xNot_of (b := true) (xB_of e1)) (xB_of e2))).trans rfl)).trans ?_
  exact (seq_nx (for_of (xs := xs.map D.int) rfl h1)).trans rfl
/-! ### bearing -/
theorem bear_iff {m : Nat} {T : List (List Int)} (h : Tb m T) (n : Int) {w : List Int} (hw : w.length = m) : bear T n w = true ↔ ∀ k, k < m → n * w.getD k 0 ≤ (sums T w).getD k 0 := by
  have hs := sums_len h w
  unfold bear
  rw [List.all_eq_true]
  constructor
  · intro hb k hk
    have hk1 : k < (sums T w).length := by omega
    have hk2 : k < w.length := by omega
    have hz : k < ((sums T w).zip w).length := by rw [List.length_zip]; omega
    have hm : ((sums T w)[k], w[k]) ∈ (sums T w).zip w := by
      have := List.getElem_mem hz
      rw [List.getElem_zip] at this
      exact this
    have := hb (decide (n * w[k] ≤ (sums T w)[k])) (List.mem_map.mpr ⟨_, hm, rfl⟩)
    rw [getD_lt hk1, getD_lt hk2]
    exact of_decide_eq_true this
  · intro hb b hx
    obtain ⟨p, hp, rfl⟩ := List.mem_map.mp hx
    obtain ⟨k, hk, e⟩ := List.mem_iff_getElem.mp hp
    rw [List.getElem_zip] at e
    rw [List.length_zip] at hk
    have := hb k (by omega)
    rw [getD_lt (show k < (sums T w).length by omega), getD_lt (show k < w.length by omega)] at this
    subst e
    exact decide_eq_true this
def lackP (S w : List Int) (n : Int) : D → Bool
  | .int k => decide (S.getD k.toNat 0 < n * w.getD k.toNat 0)
  | _ => false
theorem lack_eq {m : Nat} {T : List (List Int)} (h : Tb m T) (n : Int) {w : List Int} (hw : w.length = m) : decide (((((rngI 0 1 m).filter (lackP (sums T w) w n)).map id).length : Int) = 0) = bear T n w := by
  have hi := bear_iff h n hw
  cases hb : bear T n w with
  | true =>
    rw [hb] at hi
    have ha := hi.mp rfl
    have e : (rngI 0 1 m).filter (lackP (sums T w) w n) = [] := by
      rw [List.filter_eq_nil_iff]
      intro x hx
      obtain ⟨k, hk, rfl⟩ := rng_mem hx
      have := ha k hk
      rw [show (0 + (k : Int) * 1) = k by omega]
      show ¬ decide ((sums T w).getD ((k : Int).toNat) 0 < n * w.getD ((k : Int).toNat) 0) = true
      rw [Int.toNat_natCast, decide_eq_true_iff]
      omega
    rw [e]
    rfl
  | false =>
    rw [hb] at hi
    have hn : ¬ ∀ k, k < m → n * w.getD k 0 ≤ (sums T w).getD k 0 := fun z => by
      have := hi.mpr z
      cases this
    apply decide_eq_false
    intro hz
    apply hn
    intro k hk
    apply Classical.byContradiction
    intro hlt
    have hm : D.int (k : Int) ∈ (rngI 0 1 m).filter (lackP (sums T w) w n) := by
      rw [List.mem_filter]
      refine ⟨?_, ?_⟩
      · unfold rngI
        exact List.mem_map.mpr ⟨k, List.mem_range.mpr hk, by rw [show (0 + (k : Int) * 1) = k by omega]⟩
      · show decide ((sums T w).getD ((k : Int).toNat) 0 < n * w.getD ((k : Int).toNat) 0) = true
        rw [Int.toNat_natCast, decide_eq_true_iff]
        omega
    have hl := List.length_pos_of_mem hm
    rw [List.length_map] at hz
    omega
/-! ### once -/
noncomputable def o1 : DL.Env → Option Out := (sAsg 3 (eCall 2 m__law_sums [] (eCons (eVar 0) (eCons (eVar 2) eNil))))
noncomputable def lkT : DL.Env → Option Bool := (xB (eOp (cmpD fun i j => decide (i < j)) (eOp ixD (eVar 1) (eVar 0)) (eOp mulW (eVar 2) (eOp ixD (eVar 3) (eVar 0)))))
noncomputable def o2 : DL.Env → Option Out := (sAsg 4 (eComp (iotaR (eCons (eCB lenD (eCons (eVar 3) eNil)) eNil)) (gSet 0) lkT (eVar 0) 1 [3, 1, 2]))
noncomputable def o3 : DL.Env → Option Out := (sAsg 5 (eCB listX (eCons (eVar 2) eNil)))
noncomputable def o4 : DL.Env → Option Out := (sAsg 6 (eCall 3 m_bears [] (eCons (eVar 0) (eCons (eVar 1) (eCons (eVar 5) eNil)))))
noncomputable def o5 : DL.Env → Option Out := (sIf (xOr (xNot (xB (eIsi it_bool (eVar 6)))) (xB (eOp neD (eVar 6) (eOp eqD (eCB lenD (eCons (eVar 4) eNil)) (eC (.int 0)))))) (sRet (eC (.bl false))) sNext)
noncomputable def o6 : DL.Env → Option Out := (sAsg 7 (eCall 3 m_shrunk [] (eCons (eVar 0) (eCons (eVar 1) (eCons (eVar 5) eNil)))))
noncomputable def o7 : DL.Env → Option Out := (sIf (xOr (xNot (xB (eCall 2 m__law_row [] (eCons (eVar 7) (eCons (eCB lenD (eCons (eVar 2) eNil)) eNil))))) (xB (eOp neD (eVar 7) (eCall 3 m__law_shrunk [] (eCons (eVar 0) (eCons (eVar 1) (eCons (eVar 2) eNil))))))) (sRet (eC (.bl false))) sNext)
theorem once_eq : f__law_once = sSeq o1 (sSeq o2 (sSeq o3 (sSeq o4 (sSeq o5 (sSeq o6 (sSeq o7 (sSeq (sApp 7 (eC (.int 1))) (sRet (eOp eqD (eVar 5) (eVar 2)))))))))) := rfl
abbrev OE (T : List (List Int)) (n : Int) (w : List Int) (v3 v4 v5 v6 v7 : Option D) : DL.Env := [some (TD T), some (.int n), some (IL w), v3, v4, v5, v6, v7]
theorem once_ok {m : Nat} {T : List (List Int)} (h : Tb m T) {n : Int} (n0 : 0 < n) (n1 : n < 10000000000000000000) {w : List Int} (hw : w.length = m) : m__law_once [TD T, .int n, IL w] = some (.bl true) := by
  have m5 := h.m5
  have hs := sums_len h w
  have hlk := lack_eq h n hw
  have t1 : o1 (OE T n w none none none none none) = some (.nx (OE T n w (some (IL (sums T w))) none none none none)) := by
    unfold o1
    exact asg_of ((call_of (n := 2) (cons_of (x := TD T) rfl (cons_of (x := IL w) rfl nil_of)) rfl).trans (lsums_ok h hw))
  have hc : compD (gSet 0) lkT (eVar 0) [none, some (IL (sums T w)), some (.int n), some (IL w)] (rngI 0 1 m) = some (((rngI 0 1 m).filter (lackP (sums T w) w n)).map id) := by
    refine compD_filter (lackP (sums T w) w n) id (rngI 0 1 m) fun x hx => ?_
    obtain ⟨k, hk, rfl⟩ := rng_mem hx
    rw [show (0 + (k : Int) * 1) = k by omega]
    refine ⟨[some (.int (k : Int)), some (IL (sums T w)), some (.int n), some (IL w)], rfl, ?_, fun _ => rfl⟩
    unfold lkT
    refine xB_of ((op_of (x := .int ((sums T w).getD k 0)) (y := .int (n * w.getD k 0)) ((op_of (x := IL (sums T w)) (y := .int (k : Int)) rfl rfl).trans (ix_ints (by omega))) ((op_of (x := .int n) (y := .int (w.getD k 0)) rfl ((op_of (x := IL w) (y := .int (k : Int)) rfl rfl).trans (ix_ints (by omega)))).trans (mulL (by omega) n1))).trans ?_)
    show some (D.bl _) = some (D.bl (decide ((sums T w).getD ((k : Int).toNat) 0 < n * w.getD ((k : Int).toNat) 0)))
    rw [Int.toNat_natCast]
  have hlen0 : eCB lenD (eCons (eVar 3) eNil) (OE T n w (some (IL (sums T w))) none none none none) = some (.int (m : Int)) := by rw [← hs]; exact len_of rfl
  have hF : (((rngI 0 1 m).filter (lackP (sums T w) w n)).map id).length ≤ 1000000 := by
    have := List.length_filter_le (lackP (sums T w) w n) (rngI 0 1 m)
    rw [rng_len] at this
    rw [List.length_map]
    omega
  generalize (((rngI 0 1 m).filter (lackP (sums T w) w n)).map id) = F at *
  have t2 : o2 (OE T n w (some (IL (sums T w))) none none none none) = some (.nx (OE T n w (some (IL (sums T w))) (some (.lst F)) none none none)) := by
    unfold o2
    exact asg_of (comp_of ((iotaR1 (j := (m : Int)) (cons_of hlen0 nil_of) (by omega) (by omega)).trans (by rw [Int.toNat_natCast])) rfl hc hF)
  have t3 : o3 (OE T n w (some (IL (sums T w))) (some (.lst F)) none none none) = some (.nx (OE T n w (some (IL (sums T w))) (some (.lst F)) (some (IL w)) none none)) := by
    unfold o3
    exact asg_of ((cb_of (cons_of (x := IL w) rfl nil_of)).trans rfl)
  have t4 : o4 (OE T n w (some (IL (sums T w))) (some (.lst F)) (some (IL w)) none none) = some (.nx (OE T n w (some (IL (sums T w))) (some (.lst F)) (some (IL w)) (some (.bl (bear T n w))) none)) := by
    unfold o4
    exact asg_of ((call_of (n := 3) (cons_of (x := TD T) rfl (cons_of (x := .int n) rfl (cons_of (x := IL w) rfl nil_of))) rfl).trans (bears_ok h n0 n1 w))
  have t5 : o5 (OE T n w (some (IL (sums T w))) (some (.lst F)) (some (IL w)) (some (.bl (bear T n w))) none) = some (.nx (OE T n w (some (IL (sums T w))) (some (.lst F)) (some (IL w)) (some (.bl (bear T n w))) none)) := by
    unfold o5
    have e1 : eOp eqD (eCB lenD (eCons (eVar 4) eNil)) (eC (.int 0)) (OE T n w (some (IL (sums T w))) (some (.lst F)) (some (IL w)) (some (.bl (bear T n w))) none) = some (.bl (bear T n w)) := by
      refine (op_of (x := .int (F.length : Int)) (y := .int 0) ((cb_of (cons_of (x := .lst F) rfl nil_of)).trans rfl) rfl).trans ?_
      rw [eqD_int, hlk]
    have e2 : eOp neD (eVar 6) (eOp eqD (eCB lenD (eCons (eVar 4) eNil)) (eC (.int 0))) (OE T n w (some (IL (sums T w))) (some (.lst F)) (some (IL w)) (some (.bl (bear T n w))) none) = some (.bl false) := by
      refine (op_of (x := .bl (bear T n w)) rfl e1).trans ?_
      unfold neD
      rw [eqD_bl', decide_eq_true rfl]
      rfl
    exact (if_no (xOr_no (xNot_of (b := true) (xB_of (isi_of (d := .bl (bear T n w)) rfl rfl))) (xB_of e2))).trans rfl
  have t6 : o6 (OE T n w (some (IL (sums T w))) (some (.lst F)) (some (IL w)) (some (.bl (bear T n w))) none) = some (.nx (OE T n w (some (IL (sums T w))) (some (.lst F)) (some (IL w)) (some (.bl (bear T n w))) (some (IL (shr T n w))))) := by
    unfold o6
    exact asg_of ((call_of (n := 3) (cons_of (x := TD T) rfl (cons_of (x := .int n) rfl (cons_of (x := IL w) rfl nil_of))) rfl).trans (shrunk_ok h n0 n1 w))
  have t7 : o7 (OE T n w (some (IL (sums T w))) (some (.lst F)) (some (IL w)) (some (.bl (bear T n w))) (some (IL (shr T n w)))) = some (.nx (OE T n w (some (IL (sums T w))) (some (.lst F)) (some (IL w)) (some (.bl (bear T n w))) (some (IL (shr T n w))))) := by
    unfold o7
    have hlw : eCB lenD (eCons (eVar 2) eNil) (OE T n w (some (IL (sums T w))) (some (.lst F)) (some (IL w)) (some (.bl (bear T n w))) (some (IL (shr T n w)))) = some (.int (m : Int)) := by rw [← hw]; exact len_of rfl
    refine (if_no (xOr_no (xNot_of (b := true) (xB_of ((call_of (n := 2) (cons_of (x := IL (shr T n w)) rfl (cons_of hlw nil_of)) rfl).trans (row_ok _ (shr_len h n hw))))) (xB_of ((op_of (x := IL (shr T n w)) rfl ((call_of (n := 3) (cons_of (x := TD T) rfl (cons_of (x := .int n) rfl (cons_of (x := IL w) rfl nil_of))) rfl).trans (lshr_ok h n0 n1 hw))).trans ?_)))).trans rfl
    rw [neD_ints, decide_eq_true rfl]
    rfl
  refine run_of (δ := OE T n w none none none none none) rfl ?_
  rw [once_eq, seq_nx t1, seq_nx t2, seq_nx t3, seq_nx t4, seq_nx t5, seq_nx t6, seq_nx t7]
  refine (seq_nx (app_of (xs := (shr T n w).map D.int) (d := .int 1) rfl rfl (by rw [List.length_map, shr_len h n hw]; omega))).trans (ret_of ?_)
  refine (op_of (x := IL w) (y := IL w) rfl rfl).trans ?_
  rw [eqD_ints, decide_eq_true rfl]
end K28

namespace K28
open DL L2
/-! ### weights that go down -/
structure Wt (m : Nat) (w : List Int) : Prop where
  ln : w.length = m
  nn : ∀ x ∈ w, 0 ≤ x
theorem dot_nn : ∀ (r w : List Int), (∀ x ∈ r, 0 ≤ x) → (∀ x ∈ w, 0 ≤ x) → 0 ≤ dot r w
  | [], w, _, _ => by simp [dot]
  | a :: r, [], _, _ => by simp [dot]
  | a :: r, b :: w, h1, h2 => by
    have ih := dot_nn r w (fun x hx => h1 x (List.mem_cons_of_mem _ hx)) (fun x hx => h2 x (List.mem_cons_of_mem _ hx))
    have e : dot (a :: r) (b :: w) = a * b + dot r w := by simp [dot]
    have := Int.mul_nonneg (h1 a List.mem_cons_self) (h2 b List.mem_cons_self)
    omega
theorem mn_nn {t x : Int} (h1 : 0 ≤ t) (h2 : 0 ≤ x) : 0 ≤ mn t x := by
  unfold mn
  split <;> assumption
theorem mn_le (t x : Int) : mn t x ≤ x := by
  unfold mn
  split <;> omega
theorem sum_nn : ∀ w : List Int, (∀ x ∈ w, 0 ≤ x) → 0 ≤ w.sum
  | [], _ => by simp
  | a :: w, h => by
    have ih := sum_nn w fun x hx => h x (List.mem_cons_of_mem _ hx)
    have := h a List.mem_cons_self
    rw [List.sum_cons]
    omega
theorem shr_wt {m : Nat} {T : List (List Int)} (h : Tb m T) {n : Int} (n0 : 0 < n) {w : List Int} (hw : Wt m w) : Wt m (shr T n w) := by
  refine ⟨shr_len h n hw.ln, fun x hx => ?_⟩
  unfold shr at hx
  obtain ⟨p, hp, rfl⟩ := List.mem_map.mp hx
  obtain ⟨h1, h2⟩ := List.of_mem_zip (show (p.1, p.2) ∈ (sums T w).zip w from hp)
  unfold sums at h1
  obtain ⟨r, hr, e⟩ := List.mem_map.mp h1
  refine mn_nn ?_ (hw.nn _ h2)
  rw [← e]
  exact Int.fdiv_nonneg (dot_nn r w (fun x hx => (h.en r hr x hx).1) hw.nn) (by omega)
theorem down (f : Int → Int) : ∀ (ts ws : List Int), ts.length = ws.length → ((ts.zip ws).map fun p => mn (f p.1) p.2).sum ≤ ws.sum ∧ (((ts.zip ws).map fun p => mn (f p.1) p.2) ≠ ws → ((ts.zip ws).map fun p => mn (f p.1) p.2).sum < ws.sum)
  | [], [], _ => ⟨by simp, fun z => absurd rfl z⟩
  | [], _ :: _, h => by simp at h
  | _ :: _, [], h => by simp at h
  | t :: ts, x :: ws, h => by
    obtain ⟨i1, i2⟩ := down f ts ws (by simpa using h)
    have hle := mn_le (f t) x
    rw [List.zip_cons_cons, List.map_cons, List.sum_cons, List.sum_cons]
    show mn (f t) x + _ ≤ _ ∧ _
    refine ⟨by omega, fun hne => ?_⟩
    by_cases hx : mn (f t) x = x
    · have : ((ts.zip ws).map fun p => mn (f p.1) p.2) ≠ ws := fun z => hne (by rw [z]; show mn (f t) x :: ws = _; rw [hx])
      have := i2 this
      show mn (f t) x + _ < _
      omega
    · show mn (f t) x + _ < _
      omega
theorem shr_down {m : Nat} {T : List (List Int)} (h : Tb m T) (n : Int) {w : List Int} (hw : Wt m w) (hne : shr T n w ≠ w) : (shr T n w).sum < w.sum := (down (fun t => t.fdiv n) (sums T w) w (by rw [sums_len h, hw.ln])).2 hne
def it (T : List (List Int)) (n : Int) (w : List Int) : Nat → List Int
  | 0 => w
  | k + 1 => shr T n (it T n w k)
theorem it_wt {m : Nat} {T : List (List Int)} (h : Tb m T) {n : Int} (n0 : 0 < n) {w : List Int} (hw : Wt m w) : ∀ k, Wt m (it T n w k)
  | 0 => hw
  | k + 1 => shr_wt h n0 (it_wt h n0 hw k)
def told (T : List (List Int)) (n : Int) (w : List Int) (j : Nat) : List D := (List.range (j + 1)).map fun k => IL (it T n w k)
theorem told_len (T : List (List Int)) (n : Int) (w : List Int) (j : Nat) : (told T n w j).length = j + 1 := by unfold told; simp
theorem told_snoc (T : List (List Int)) (n : Int) (w : List Int) (j : Nat) : told T n w (j + 1) = told T n w j ++ [IL (it T n w (j + 1))] := by
  unfold told
  rw [List.range_succ, List.map_append]
  rfl
theorem told_at {T : List (List Int)} {n : Int} {w : List Int} {j k : Nat} (hk : k ≤ j) : (told T n w j)[k]? = some (IL (it T n w k)) := by
  unfold told
  rw [List.getElem?_map, List.getElem?_range (by omega)]
  rfl
theorem ixN_last (n : Nat) : ixN (n + 1) (-1) = some n := by
  unfold ixN
  rw [if_neg (by decide), if_pos (by omega)]
  exact congrArg some (by omega)
theorem last_of {κ : DL.Env → Option D} {δ : DL.Env} {T : List (List Int)} {n : Int} {w : List Int} {j : Nat} (h : κ δ = some (.lst (told T n w j))) : eOp ixD κ (eUn negD (eC (.int 1))) δ = some (IL (it T n w j)) := by
  refine (op_of (x := .lst (told T n w j)) (y := .int (-1)) h rfl).trans ?_
  refine atI_ixN (j := j) ?_ (told_at (Nat.le_refl _))
  rw [told_len]
  exact ixN_last j
theorem ints_sc (xs : List Int) : (xs.map D.int).all scalar = true := by
  rw [List.all_map]
  exact List.all_eq_true.mpr fun _ _ => rfl
theorem scalL_of {ε : DL.Env → Option D} {δ : DL.Env} {xs : List Int} (h : ε δ = some (IL xs)) : eScalL ε δ = some (IL xs) := by
  unfold eScalL
  rw [h]
  exact if_pos (ints_sc xs)
theorem pushF_of {i k : Nat} {ε : DL.Env → Option D} {δ : DL.Env} {xs : List D} {r ys : List Int} (h1 : eVar i δ = some (.lst xs)) (h2 : eVar k δ = some (IL r)) (hl : xs.length ≤ 1000) (h3 : ε (δ.set i none) = some (IL ys)) : sPushF i k ε δ = some (.nx (((δ.set k none).set i (some (.lst (xs ++ [IL r])))).set k (some (IL ys)))) := by
  unfold sPushF
  rw [h1, h2]
  dsimp only
  rw [if_pos ⟨by rw [PySem.sizeLine_eq]; omega, ints_sc r⟩, scalL_of h3]
theorem eMat_of {ε : DL.Env → Option D} {δ : DL.Env} {xs : List D} {rs : List (List D)} (h : ε δ = some (.lst xs)) (hr : rowsOf xs = some rs) : eMat ε δ = some (.lst xs) := by
  unfold eMat
  rw [h]
  dsimp only
  rw [hr]
theorem mat_of {i : Nat} {ε : DL.Env → Option D} {δ : DL.Env} {d : D} (h : ε δ = some d) (hi : i < δ.length) : sMat i ε δ = some (.nx (δ.set i (some d))) := by
  unfold sMat
  rw [h]
  exact if_pos hi
theorem hide_of {i : Nat} {φ : DL.Env → Option Out} {δ δ0 δ' δ'' : DL.Env} (e : δ.set i none = δ0) (h : φ δ0 = some (.nx δ')) (hi : δ'[i]? = some none) (hr : δ'.set i ((δ[i]?).getD none) = δ'') : sHide i φ δ = some (.nx δ'') := by
  subst e hr
  unfold sHide
  rw [h]
  dsimp only
  rw [hi]
/-! ### rounds -/
noncomputable def r1 : DL.Env → Option Out := (sMat 3 (eMat (eLst (eCons (eCB listX (eCons (eVar 2) eNil)) eNil))))
noncomputable def r2 : DL.Env → Option Out := (sHide 3 (sAsg 4 (eCall 3 m_shrunk [] (eCons (eVar 0) (eCons (eVar 1) (eCons (eVar 2) eNil))))))
noncomputable def rT : DL.Env → Option Bool := (xB (eOp neD (eVar 4) (eOp ixD (eVar 3) (eUn negD (eC (.int 1))))))
noncomputable def rB : DL.Env → Option Out := (sPushF 3 4 (eCall 3 m_shrunk [] (eCons (eVar 0) (eCons (eVar 1) (eCons (eVar 4) eNil)))))
theorem rounds_eq : f_rounds = sSeqN r1 (sSeqN r2 (sSeqN (sWhile rT rB) (sRet (eVar 3)))) := rfl
abbrev RE (T : List (List Int)) (n : Int) (w : List Int) (v3 v4 : Option D) : DL.Env := [some (TD T), some (.int n), some (IL w), v3, v4]
theorem rounds_ok {m : Nat} {T : List (List Int)} (h : Tb m T) {n : Int} (n0 : 0 < n) (n1 : n < 10000000000000000000) {w : List Int} (hw : Wt m w) (hsum : w.sum ≤ 500) : ∃ J, J ≤ 500 ∧ it T n w (J + 1) = it T n w J ∧ (∀ k, k < J → it T n w (k + 1) ≠ it T n w k) ∧ m_rounds [TD T, .int n, IL w] = some (.lst (told T n w J)) := by
  have t1 : r1 (RE T n w none none) = some (.nx (RE T n w (some (.lst (told T n w 0))) none)) := by
    have e1 : eLst (eCons (eCB listX (eCons (eVar 2) eNil)) eNil) (RE T n w none none) = some (.lst [IL w]) := lst_of (cons_of ((cb_of (cons_of (x := IL w) rfl nil_of)).trans rfl) nil_of) (by show 1 ≤ 1000; decide)
    have e2 : rowsOf [IL w] = some [w.map D.int] := by
      show (if (w.map D.int).all scalar = true then (match rowsOf [] with
        | some rs => some (w.map D.int :: rs)
        | none => none) else none) = _
      rw [if_pos (ints_sc w)]
      rfl
    unfold r1
    exact mat_of (eMat_of e1 e2) (by show 3 < 5; decide)
  have t2 : r2 (RE T n w (some (.lst (told T n w 0))) none) = some (.nx (RE T n w (some (.lst (told T n w 0))) (some (IL (it T n w 1))))) := by
    unfold r2
    exact hide_of (δ0 := RE T n w none none) (δ' := RE T n w none (some (IL (it T n w 1)))) rfl (asg_of ((call_of (n := 3) (cons_of (x := TD T) rfl (cons_of (x := .int n) rfl (cons_of (x := IL w) rfl nil_of))) rfl).trans (shrunk_ok h n0 n1 w))) rfl rfl
  obtain ⟨δ', h1, J, e, hJ, hle, hne⟩ := sWhile_inv (τ := rT) (φ := rB) (fun δ => ∃ j : Nat, δ = RE T n w (some (.lst (told T n w j))) (some (IL (it T n w (j + 1)))) ∧ (j : Int) + (it T n w j).sum ≤ w.sum ∧ ∀ k, k < j → it T n w (k + 1) ≠ it T n w k)
    (fun δ => ∃ j : Nat, δ = RE T n w (some (.lst (told T n w j))) (some (IL (it T n w (j + 1)))) ∧ it T n w (j + 1) = it T n w j ∧ j ≤ 500 ∧ ∀ k, k < j → it T n w (k + 1) ≠ it T n w k)
    (fun δ => match eVar 3 δ with | some (.lst xs) => 1000 - xs.length | _ => 0) (by
      rintro δ ⟨j, rfl, hs, hne⟩
      have wj := it_wt h n0 hw j
      have s0 := sum_nn _ wj.nn
      have e1 : rT (RE T n w (some (.lst (told T n w j))) (some (IL (it T n w (j + 1))))) = some (!decide (it T n w (j + 1) = it T n w j)) := by
        unfold rT
        exact xB_of ((op_of (x := IL (it T n w (j + 1))) rfl (last_of rfl)).trans (neD_ints _ _))
      by_cases hx : it T n w (j + 1) = it T n w j
      · exact .inl ⟨by rw [e1, decide_eq_true hx]; rfl, j, rfl, hx, by omega, hne⟩
      · have hd := shr_down h n wj hx
        have hd : (it T n w (j + 1)).sum < (it T n w j).sum := hd
        have hl := told_len T n w j
        refine .inr ⟨by rw [e1, decide_eq_false hx]; rfl, RE T n w (some (.lst (told T n w (j + 1)))) (some (IL (it T n w (j + 1 + 1)))), ?_, ⟨j + 1, rfl, by omega, fun k hk => ?_⟩, ?_⟩
        · unfold rB
          have hc : eCall 3 m_shrunk [] (eCons (eVar 0) (eCons (eVar 1) (eCons (eVar 4) eNil))) ((RE T n w (some (.lst (told T n w j))) (some (IL (it T n w (j + 1))))).set 3 none) = some (IL (it T n w (j + 1 + 1))) := (call_of (n := 3) (cons_of (x := TD T) rfl (cons_of (x := .int n) rfl (cons_of (x := IL (it T n w (j + 1))) rfl nil_of))) rfl).trans (shrunk_ok h n0 n1 _)
          refine (pushF_of rfl rfl (by rw [hl]; omega) hc).trans ?_
          rw [told_snoc]
          rfl
        · by_cases hk2 : k = j
          · rw [hk2]; exact hx
          · exact hne k (by omega)
        · show 1000 - (told T n w (j + 1)).length < 1000 - (told T n w j).length
          rw [told_len, hl]
          omega) (RE T n w (some (.lst (told T n w 0))) (some (IL (it T n w 1)))) ⟨0, rfl, by show (0 : Int) + w.sum ≤ w.sum; omega, fun k hk => absurd hk (by omega)⟩
  subst e
  refine ⟨J, hle, hJ, hne, ?_⟩
  refine runF_of (δ := RE T n w none none) rfl ?_
  rw [rounds_eq, seqN_nx t1, seqN_nx t2, seqN_nx h1]
  exact ret_of rfl
end K28

namespace K28
open DL L2
theorem scal_of' {ε : DL.Env → Option D} {δ : DL.Env} {d : D} (h : ε δ = some d) (hs : scalar d = true) : eScal ε δ = some d := by unfold eScal; rw [h]; exact if_pos hs
theorem app2_of {i : Nat} {κ ε : DL.Env → Option D} {δ : DL.Env} {xs r : List D} {j : Nat} {d : D} (hv : eVar i δ = some (.lst xs)) (hk : κ δ = some (.int (j : Int))) (he : ε δ = some d) (hs : scalar d = true) (hr : xs[j]? = some (.lst r)) (hl : r.length ≤ 1000) : sApp2 i κ ε δ = some (.nx (δ.set i (some (.lst (xs.set j (.lst (r ++ [d]))))))) := by
  have hj : j < xs.length := (List.getElem?_eq_some_iff.mp hr).1
  unfold sApp2
  rw [scal_of' he hs, hv, hk]
  dsimp only
  rw [ixN_nat hj]
  dsimp only
  rw [hr]
  exact if_pos (by rw [PySem.sizeLine_eq]; omega)
theorem clr2_of {i : Nat} {κ : DL.Env → Option D} {δ : DL.Env} {xs r : List D} {n : Int} {j : Nat} (hv : eVar i δ = some (.lst xs)) (hk : κ δ = some (.int n)) (hj : ixN xs.length n = some j) (hr : xs[j]? = some (.lst r)) : sClr2 i κ δ = some (.nx (δ.set i (some (.lst (xs.set j (.lst [])))))) := by
  unfold sClr2
  rw [hv, hk]
  dsimp only
  rw [hj]
  dsimp only
  rw [hr]
/-! ### the rounds, looked at -/
noncomputable def p1 : DL.Env → Option Out := (sAsg 3 (eCB listX (eCons (eVar 2) eNil)))
noncomputable def p2 : DL.Env → Option Out := (sMat 4 (eCall 3 m_rounds [] (eCons (eVar 0) (eCons (eVar 1) (eCons (eVar 3) eNil)))))
noncomputable def p3 : DL.Env → Option Out := (sIf (xOr (xB (eOp neD (eVar 3) (eVar 2))) (xOr (xNot (xB (eIsi it_list (eVar 4)))) (xOr (xB (eOp eqD (eCB lenD (eCons (eVar 4) eNil)) (eC (.int 0)))) (xB (eOp neD (eOp ixD (eVar 4) (eC (.int 0))) (eVar 2)))))) (sRet (eC (.bl false))) sNext)
noncomputable def q1 : DL.Env → Option Out := (sIf (xNot (xB (eCall 2 m__law_row [] (eCons (eOp ixD (eVar 4) (eVar 5)) (eCons (eCB lenD (eCons (eVar 2) eNil)) eNil))))) (sRet (eC (.bl false))) sNext)
noncomputable def pvE : DL.Env → Option D := (eOp ixD (eVar 4) (eOp subD (eVar 5) (eC (.int 1))))
noncomputable def q2 : DL.Env → Option Out := (sAsg 6 (eScalL (eCall 3 m__law_shrunk [] (eCons (eVar 0) (eCons (eVar 1) (eCons pvE eNil))))))
noncomputable def q3 : DL.Env → Option Out := (sIf (xOr (xB (eOp eqD (eOp ixD (eVar 4) (eVar 5)) pvE)) (xB (eOp neD (eOp ixD (eVar 4) (eVar 5)) (eVar 6)))) (sRet (eC (.bl false))) sNext)
noncomputable def qB : DL.Env → Option Out := (sSeq q1 (sIf (xB (eOp (cmpD fun i j => decide (j < i)) (eVar 5) (eC (.int 0)))) (sSeq q2 q3) sNext))
noncomputable def p5 : DL.Env → Option Out := (sAsg 7 (eScalL (eCB listX (eCons (eOp ixD (eVar 4) (eUn negD (eC (.int 1)))) eNil))))
noncomputable def p6 : DL.Env → Option Out := (sIf (xOr (xB (eOp neD (eCall 3 m__law_shrunk [] (eCons (eVar 0) (eCons (eVar 1) (eCons (eVar 7) eNil)))) (eVar 7))) (xNot (xB (eCall 3 m__law_once [] (eCons (eVar 0) (eCons (eVar 1) (eCons (eVar 7) eNil))))))) (sRet (eC (.bl false))) sNext)
theorem lr_eq : f__law_rounds = sSeq p1 (sSeq p2 (sSeq p3 (sSeq (sFor (iotaR (eCons (eCB lenD (eCons (eVar 4) eNil)) eNil)) (gSet 5) qB) (sSeq p5 (sSeq p6 (sSeq (sApp2 4 (eC (.int 0)) (eC (.int 1))) (sSeq (sClr2 4 (eUn negD (eC (.int 1)))) (sRet (eOp eqD (eVar 3) (eVar 2)))))))))) := rfl
abbrev PE' (T : List (List Int)) (n : Int) (w : List Int) (v3 v4 v5 v6 v7 : Option D) : DL.Env := [some (TD T), some (.int n), some (IL w), v3, v4, v5, v6, v7]
theorem q_turn {m : Nat} {T : List (List Int)} (h : Tb m T) {n : Int} (n0 : 0 < n) (n1 : n < 10000000000000000000) {w : List Int} (hw : Wt m w) {J : Nat} (hne : ∀ k, k < J → it T n w (k + 1) ≠ it T n w k) (v3 : Option D) (k : Nat) (hk : k ≤ J) (v6 v7 : Option D) : ∃ w6, qB (PE' T n w v3 (some (.lst (told T n w J))) (some (.int (k : Int))) v6 v7) = some (.nx (PE' T n w v3 (some (.lst (told T n w J))) (some (.int (k : Int))) w6 v7)) := by
  have wk := it_wt h n0 hw k
  have hat : ∀ v6, eOp ixD (eVar 4) (eVar 5) (PE' T n w v3 (some (.lst (told T n w J))) (some (.int (k : Int))) v6 v7) = some (IL (it T n w k)) := fun v6 => (op_of (x := .lst (told T n w J)) (y := .int (k : Int)) rfl rfl).trans (ix_at (told_at hk))
  have hlw : ∀ v6, eCB lenD (eCons (eVar 2) eNil) (PE' T n w v3 (some (.lst (told T n w J))) (some (.int (k : Int))) v6 v7) = some (.int (m : Int)) := fun v6 => by rw [← hw.ln]; exact len_of rfl
  have t1 : q1 (PE' T n w v3 (some (.lst (told T n w J))) (some (.int (k : Int))) v6 v7) = some (.nx (PE' T n w v3 (some (.lst (told T n w J))) (some (.int (k : Int))) v6 v7)) := by
    unfold q1
    exact (if_no (xNot_of (b := true) (xB_of ((call_of (n := 2) (cons_of (hat v6) (cons_of (hlw v6) nil_of)) rfl).trans (row_ok _ wk.ln))))).trans rfl
  have ht : xB (eOp (cmpD fun i j => decide (j < i)) (eVar 5) (eC (.int 0))) (PE' T n w v3 (some (.lst (told T n w J))) (some (.int (k : Int))) v6 v7) = some (decide ((0 : Int) < (k : Int))) := xB_of ((op_of (x := .int (k : Int)) (y := .int 0) rfl rfl).trans rfl)
  unfold qB
  rw [seq_nx t1]
  cases k with
  | zero => exact ⟨v6, (if_no (ht.trans rfl)).trans rfl⟩
  | succ k =>
    rw [if_yes (by rw [ht, decide_eq_true (by omega)])]
    have wp := it_wt h n0 hw k
    have hpv : ∀ v6, pvE (PE' T n w v3 (some (.lst (told T n w J))) (some (.int ((k + 1 : Nat) : Int))) v6 v7) = some (IL (it T n w k)) := fun v6 => by
      unfold pvE
      refine (op_of (x := .lst (told T n w J)) (y := .int (k : Int)) rfl ((op_of (x := .int ((k + 1 : Nat) : Int)) (y := .int 1) rfl rfl).trans ?_)).trans (ix_at (told_at (by omega)))
      show some (D.int (((k + 1 : Nat) : Int) - 1)) = _
      exact congrArg (fun z => some (D.int z)) (by omega)
    have t2 : q2 (PE' T n w v3 (some (.lst (told T n w J))) (some (.int ((k + 1 : Nat) : Int))) v6 v7) = some (.nx (PE' T n w v3 (some (.lst (told T n w J))) (some (.int ((k + 1 : Nat) : Int))) (some (IL (it T n w (k + 1)))) v7)) := by
      unfold q2
      exact asg_of (scalL_of ((call_of (n := 3) (cons_of (x := TD T) rfl (cons_of (x := .int n) rfl (cons_of (hpv v6) nil_of))) rfl).trans (lshr_ok h n0 n1 wp.ln)))
    refine ⟨some (IL (it T n w (k + 1))), (seq_nx t2).trans ?_⟩
    unfold q3
    refine (if_no (xOr_no (xB_of ((op_of (hat _) (hpv _)).trans ((eqD_ints _ _).trans ?_))) (xB_of ((op_of (y := IL (it T n w (k + 1))) (hat _) rfl).trans ((neD_ints _ _).trans ?_))))).trans rfl
    · rw [decide_eq_false (hne k (by omega))]
    · rw [decide_eq_true rfl]; rfl
theorem lrounds_ok {m : Nat} {T : List (List Int)} (h : Tb m T) {n : Int} (n0 : 0 < n) (n1 : n < 10000000000000000000) {w : List Int} (hw : Wt m w) (hsum : w.sum ≤ 500) : m__law_rounds [TD T, .int n, IL w] = some (.bl true) := by
  have m5 := h.m5
  obtain ⟨J, hJ, hst, hne, hr⟩ := rounds_ok h n0 n1 hw hsum
  have hl := told_len T n w J
  have wJ := it_wt h n0 hw J
  have t1 : p1 (PE' T n w none none none none none) = some (.nx (PE' T n w (some (IL w)) none none none none)) := by
    unfold p1
    exact asg_of ((cb_of (cons_of (x := IL w) rfl nil_of)).trans rfl)
  have t2 : p2 (PE' T n w (some (IL w)) none none none none) = some (.nx (PE' T n w (some (IL w)) (some (.lst (told T n w J))) none none none)) := by
    unfold p2
    exact mat_of ((call_of (n := 3) (cons_of (x := TD T) rfl (cons_of (x := .int n) rfl (cons_of (x := IL w) rfl nil_of))) rfl).trans hr) (by show 4 < 8; decide)
  have hlen : ∀ v5 v6 v7, eCB lenD (eCons (eVar 4) eNil) (PE' T n w (some (IL w)) (some (.lst (told T n w J))) v5 v6 v7) = some (.int ((J + 1 : Nat) : Int)) := fun v5 v6 v7 => by
    refine (cb_of (cons_of (x := .lst (told T n w J)) rfl nil_of)).trans ?_
    rw [len_lst, hl]
  have t3 : p3 (PE' T n w (some (IL w)) (some (.lst (told T n w J))) none none none) = some (.nx (PE' T n w (some (IL w)) (some (.lst (told T n w J))) none none none)) := by
    unfold p3
    refine (if_no (xOr_no (xB_of ((op_of (x := IL w) (y := IL w) rfl rfl).trans ((neD_ints _ _).trans ?_))) (xOr_no (xNot_of (b := true) (xB_of (isi_of (d := .lst (told T n w J)) rfl rfl))) (xOr_no (xB_of ((op_of (y := .int 0) (hlen _ _ _) rfl).trans ((eqD_int _ _).trans ?_))) (xB_of ((op_of (x := IL (it T n w 0)) (y := IL w) ((op_of (x := .lst (told T n w J)) (y := .int ((0 : Nat) : Int)) rfl rfl).trans (ix_at (told_at (Nat.zero_le _)))) rfl).trans ((neD_ints _ _).trans ?_))))))).trans rfl
    · rw [decide_eq_true rfl]; rfl
    · rw [decide_eq_false (by omega)]
    · rw [decide_eq_true (show it T n w 0 = w from rfl)]; rfl
  obtain ⟨δ', h1, w5, w6, e⟩ := forD_inv (γ := gSet 5) (φ := qB) (fun k δ => ∃ v5 v6, δ = PE' T n w (some (IL w)) (some (.lst (told T n w J))) v5 v6 none) (rngI 0 1 (J + 1)) 0 (PE' T n w (some (IL w)) (some (.lst (told T n w J))) none none none) ⟨_, _, rfl⟩ (by
    intro j x δ hx ⟨v5, v6, e⟩
    subst e
    obtain ⟨hj, rfl⟩ := rng_get hx
    obtain ⟨w6, t⟩ := q_turn h n0 n1 hw hne (some (IL w)) j (by omega) v6 none
    exact ⟨_, rfl, _, t, _, _, rfl⟩)
  subst e
  have t4 : sFor (iotaR (eCons (eCB lenD (eCons (eVar 4) eNil)) eNil)) (gSet 5) qB (PE' T n w (some (IL w)) (some (.lst (told T n w J))) none none none) = some (.nx (PE' T n w (some (IL w)) (some (.lst (told T n w J))) w5 w6 none)) := for_of ((iotaR1 (j := ((J + 1 : Nat) : Int)) (cons_of (hlen _ _ _) nil_of) (by omega) (by omega)).trans (by rw [Int.toNat_natCast])) h1
  have t5 : p5 (PE' T n w (some (IL w)) (some (.lst (told T n w J))) w5 w6 none) = some (.nx (PE' T n w (some (IL w)) (some (.lst (told T n w J))) w5 w6 (some (IL (it T n w J))))) := by
    unfold p5
    exact asg_of (scalL_of ((cb_of (cons_of (last_of rfl) nil_of)).trans rfl))
  have t6 : p6 (PE' T n w (some (IL w)) (some (.lst (told T n w J))) w5 w6 (some (IL (it T n w J)))) = some (.nx (PE' T n w (some (IL w)) (some (.lst (told T n w J))) w5 w6 (some (IL (it T n w J))))) := by
    unfold p6
    refine (if_no (xOr_no (xB_of ((op_of (x := IL (it T n w (J + 1))) (y := IL (it T n w J)) ((call_of (n := 3) (cons_of (x := TD T) rfl (cons_of (x := .int n) rfl (cons_of (x := IL (it T n w J)) rfl nil_of))) rfl).trans (lshr_ok h n0 n1 wJ.ln)) rfl).trans ((neD_ints _ _).trans ?_))) (xNot_of (b := true) (xB_of ((call_of (n := 3) (cons_of (x := TD T) rfl (cons_of (x := .int n) rfl (cons_of (x := IL (it T n w J)) rfl nil_of))) rfl).trans (once_ok h n0 n1 wJ.ln)))))).trans rfl
    rw [decide_eq_true hst]
    rfl
  refine run_of (δ := PE' T n w none none none none none) rfl ?_
  rw [lr_eq, seq_nx t1, seq_nx t2, seq_nx t3, seq_nx t4, seq_nx t5, seq_nx t6]
  have hz : (told T n w J)[0]? = some (.lst (w.map D.int)) := told_at (Nat.zero_le _)
  have t7 := app2_of (i := 4) (κ := eC (.int 0)) (ε := eC (.int 1)) (δ := PE' T n w (some (IL w)) (some (.lst (told T n w J))) w5 w6 (some (IL (it T n w J)))) (xs := told T n w J) (r := w.map D.int) (j := 0) (d := .int 1) rfl rfl rfl rfl hz (by rw [List.length_map, hw.ln]; omega)
  rw [seq_nx t7]
  have hl2 : ((told T n w J).set 0 (.lst (w.map D.int ++ [.int 1]))).length = J + 1 := by rw [List.length_set]; exact hl
  have hx : ∃ r, ((told T n w J).set 0 (.lst (w.map D.int ++ [.int 1])))[J]? = some (.lst r) := by
    cases J with
    | zero => exact ⟨_, List.getElem?_set_self (by rw [hl]; omega)⟩
    | succ J =>
      rw [List.getElem?_set_ne (by omega)]
      exact ⟨_, told_at (Nat.le_refl _)⟩
  obtain ⟨r, hx⟩ := hx
  have t8 := clr2_of (i := 4) (κ := eUn negD (eC (.int 1))) (δ := (PE' T n w (some (IL w)) (some (.lst (told T n w J))) w5 w6 (some (IL (it T n w J)))).set 4 (some (.lst ((told T n w J).set 0 (.lst (w.map D.int ++ [.int 1])))))) (xs := (told T n w J).set 0 (.lst (w.map D.int ++ [.int 1]))) (n := -1) (j := J) rfl rfl (by rw [hl2]; exact ixN_last J) hx
  rw [seq_nx t8]
  refine ret_of ((op_of (x := IL w) (y := IL w) rfl rfl).trans ?_)
  rw [eqD_ints, decide_eq_true rfl]
end K28

namespace K28
open DL L2
theorem comp_rng {ε : DL.Env → Option D} {δ0 : DL.Env} (g : Nat → D) (m : Nat) (h : ∀ j : Nat, j < m → ε (δ0.set 0 (some (.int (j : Int)))) = some (g j)) : compD (gSet 0) (fun _ => some true) ε δ0 (rngI 0 1 m) = some ((List.range m).map g) := by
  unfold rngI
  refine comp_emb (fun k : Nat => D.int (0 + (k : Int) * 1)) g (List.range m) fun j hj => ?_
  show ε (δ0.set 0 (some (.int (0 + (j : Int) * 1)))) = _
  rw [show (0 + (j : Int) * 1) = j by omega]
  exact h j (List.mem_range.mp hj)
/-! ### entries -/
def lim (w : Int) : Int := if w = 1 then 3 else if w = 2 then 12 else 1000000000000
def ent (c : Int) : Int := if c.fmod 4 = 0 then 0 else (c.fdiv 4).fmod (lim (c.fmod 4))
theorem lim_b (w : Int) : 0 < lim w ∧ lim w ≤ 1000000000000 := by
  unfold lim
  split
  · omega
  · split <;> omega
theorem ent_b (c : Int) : 0 ≤ ent c ∧ ent c < 1000000000000 := by
  obtain ⟨h0, h1⟩ := lim_b (c.fmod 4)
  unfold ent
  split
  · omega
  · have := fmod_le (a := c.fdiv 4) h0
    omega
noncomputable def liE : DL.Env → Option D := (eLst (eCons (eC (.int 3)) (eCons (eC (.int 12)) (eCons (eOp powW (eC (.int 10)) (eC (.int 12))) eNil))))
theorem li_of (δ : DL.Env) : liE δ = some (.lst [.int 3, .int 12, .int 1000000000000]) := by
  have hp : eOp powW (eC (.int 10)) (eC (.int 12)) δ = some (.int 1000000000000) := (op_of (x := .int 10) (y := .int 12) rfl rfl).trans ((powW_of ⟨by decide, by decide, by decide⟩).trans rfl)
  unfold liE
  exact lst_of (cons_of (x := .int 3) rfl (cons_of (x := .int 12) rfl (cons_of hp nil_of))) (by show 3 ≤ 1000; decide)
theorem entry_eq : f__law_entry = sSeq (sAsg 1 (eOp modW (eVar 0) (eC (.int 4)))) (sSeq (sIf (xB (eOp eqD (eVar 1) (eC (.int 0)))) (sRet (eC (.int 0))) sNext) (sRet (eOp modW (eOp fdivW (eVar 0) (eC (.int 4))) (eOp ixD liE (eOp subD (eVar 1) (eC (.int 1))))))) := rfl
theorem lim_at {w : Int} (h0 : 0 < w) (h1 : w < 4) : ixD (.lst [.int 3, .int 12, .int 1000000000000]) (.int (w - 1)) = some (.int (lim w)) := by
  have : w = 1 ∨ w = 2 ∨ w = 3 := by omega
  rcases this with rfl | rfl | rfl <;> rfl
theorem entry_ok (c : Int) : m__law_entry [.int c] = some (.int (ent c)) := by
  obtain ⟨b0, b1⟩ := fmod_le (a := c) (b := 4) (by decide)
  refine run_of (δ := [some (.int c), none]) rfl ?_
  have t1 : sAsg 1 (eOp modW (eVar 0) (eC (.int 4))) [some (.int c), none] = some (.nx [some (.int c), some (.int (c.fmod 4))]) := asg_of ((op_of (x := .int c) (y := .int 4) rfl rfl).trans (modL (by decide)))
  rw [entry_eq, seq_nx t1]
  have e1 : xB (eOp eqD (eVar 1) (eC (.int 0))) [some (.int c), some (.int (c.fmod 4))] = some (decide (c.fmod 4 = 0)) := xB_of ((op_of (x := .int (c.fmod 4)) (y := .int 0) rfl rfl).trans (eqD_int _ _))
  unfold ent
  generalize c.fmod 4 = v at *
  by_cases hv : v = 0
  · rw [if_pos hv]
    exact (seq_rt ((if_yes (by rw [e1, decide_eq_true hv])).trans (ret_of rfl)))
  · rw [if_neg hv, seq_nx ((if_no (by rw [e1, decide_eq_false hv])).trans rfl)]
    refine ret_of ((op_of (x := .int (c.fdiv 4)) (y := .int (lim v)) ((op_of (x := .int c) (y := .int 4) rfl rfl).trans (fdivL (by decide) (by decide))) ((op_of (y := .int (v - 1)) (li_of _) ((op_of (x := .int v) (y := .int 1) rfl rfl).trans rfl)).trans (lim_at (by omega) b1))).trans (modL (lim_b v).1))
/-! ### the table -/
def rowT (ns : List Int) (m k : Nat) : List Int := (List.range m).map fun j => ent (ns.getD (12 + k * m + j) 0)
def tab (ns : List Int) (m k : Nat) : List (List Int) := (List.range k).map (rowT ns m)
theorem tab_tb (ns : List Int) (m : Nat) (h1 : 1 ≤ m) (h5 : m ≤ 5) : Tb m (tab ns m m) := by
  refine ⟨h1, h5, by unfold tab; simp, fun r hr => ?_, fun r hr x hx => ?_⟩
  · obtain ⟨k, _, rfl⟩ := List.mem_map.mp hr
    unfold rowT
    simp
  · obtain ⟨k, _, rfl⟩ := List.mem_map.mp hr
    obtain ⟨j, _, rfl⟩ := List.mem_map.mp hx
    exact ent_b _
noncomputable def teE : DL.Env → Option D := (eCall 1 m__law_entry [] (eCons (eCall 2 m__law_cell_at [] (eCons (eVar 1) (eCons (eOp addD (eOp addD (eVar 2) (eOp mulW (eVar 3) (eVar 4))) (eVar 0)) eNil))) eNil))
noncomputable def tcE : DL.Env → Option D := (eComp (iotaR (eCons (eVar 2) eNil)) (gSet 0) (fun _ => some true) teE 1 [0, 1, 4, 2])
theorem table_eq : f__law_table = sSeq (sAsg 3 (eLst eNil)) (sSeq (sFor (iotaR (eCons (eVar 2) eNil)) (gSet 4) (sApp 3 tcE)) (sRet (eVar 3))) := rfl
theorem te_of (ns : List Int) (m k j : Nat) (hm : m ≤ 5) (hk : k ≤ 5) : teE [some (.int (j : Int)), some (IL ns), some (.int 12), some (.int (k : Int)), some (.int (m : Int))] = some (.int (ent (ns.getD (12 + k * m + j) 0))) := by
  have e1 : eOp addD (eOp addD (eVar 2) (eOp mulW (eVar 3) (eVar 4))) (eVar 0) [some (.int (j : Int)), some (IL ns), some (.int 12), some (.int (k : Int)), some (.int (m : Int))] = some (.int ((12 + k * m + j : Nat) : Int)) := by
    refine (op_of (x := .int (12 + (k : Int) * (m : Int))) (y := .int (j : Int)) ((op_of (x := .int 12) (y := .int ((k : Int) * (m : Int))) rfl ((op_of (x := .int (k : Int)) (y := .int (m : Int)) rfl rfl).trans (mulL (by omega) (by omega)))).trans rfl) rfl).trans ?_
    show some (D.int (12 + (k : Int) * (m : Int) + (j : Int))) = _
    rw [Int.natCast_add, Int.natCast_add, Int.natCast_mul]
    rfl
  unfold teE
  exact (call_of (n := 1) (cons_of ((call_of (n := 2) (cons_of (x := IL ns) rfl (cons_of e1 nil_of)) rfl).trans (cell_at ns _)) nil_of) rfl).trans (entry_ok _)
theorem table_ok (ns : List Int) (m : Nat) (hm : m ≤ 5) : m__law_table [IL ns, .int 12, .int (m : Int)] = some (TD (tab ns m m)) := by
  obtain ⟨δ', h1, v4, e⟩ := forD_inv (γ := gSet 4) (φ := sApp 3 tcE) (fun k δ => ∃ v4, δ = [some (IL ns), some (.int 12), some (.int (m : Int)), some (TD (tab ns m k)), v4]) (rngI 0 1 m) 0 [some (IL ns), some (.int 12), some (.int (m : Int)), some (TD (tab ns m 0)), none] ⟨_, rfl⟩ (by
    intro j x δ hx ⟨v4, e⟩
    subst e
    obtain ⟨hj, rfl⟩ := rng_get hx
    rw [Nat.zero_add]
    have hc : tcE [some (IL ns), some (.int 12), some (.int (m : Int)), some (TD (tab ns m j)), some (.int (j : Int))] = some (IL (rowT ns m j)) := by
      have e2 : (rowT ns m j).map D.int = (List.range m).map fun i => D.int (ent (ns.getD (12 + j * m + i) 0)) := by unfold rowT; rw [List.map_map]; rfl
      show _ = some (D.lst ((rowT ns m j).map D.int))
      rw [e2]
      unfold tcE
      exact comp_of ((iotaR1 (j := (m : Int)) rfl (by omega) (by omega)).trans (by rw [Int.toNat_natCast])) rfl (comp_rng (δ0 := [none, some (IL ns), some (.int 12), some (.int (j : Int)), some (.int (m : Int))]) _ m fun i _ => te_of ns m j i hm (by omega)) (by simp; omega)
    refine ⟨_, rfl, [some (IL ns), some (.int 12), some (.int (m : Int)), some (TD (tab ns m (j + 1))), some (.int (j : Int))], (app_of (xs := (tab ns m j).map IL) rfl hc (by unfold tab; simp; omega)).trans ?_, _, rfl⟩
    have es : (tab ns m j).map IL ++ [IL (rowT ns m j)] = (tab ns m (j + 1)).map IL := by
      unfold tab
      rw [List.range_succ, List.map_append, List.map_append]
      rfl
    rw [es]
    rfl)
  subst e
  rw [rng_len, Nat.zero_add] at h1
  refine run_of (δ := [some (IL ns), some (.int 12), some (.int (m : Int)), none, none]) rfl ?_
  rw [table_eq]
  refine (seq_nx (δ' := [some (IL ns), some (.int 12), some (.int (m : Int)), some (TD (tab ns m 0)), none]) rfl).trans ?_
  exact (seq_nx (for_of ((iotaR1 (j := (m : Int)) rfl (by omega) (by omega)).trans (by rw [Int.toNat_natCast])) h1)).trans (ret_of rfl)
/-! ### == of tables -/
theorem canLay_T : ∀ T : List (List Int), PySem.PyData.canLayAll0 (toPs (T.map IL)) = true
  | [] => rfl
  | r :: T => by
    rw [List.map_cons, toPs, PySem.PyData.canLayAll0, canLay_T T, Bool.and_true]
    show PySem.PyData.canLayAll0 (toPs (r.map D.int)) = true
    exact canLay_ints r
theorem depth_T : ∀ T : List (List Int), PySem.PyData.depthAll (toPs (T.map IL)) ≤ 1
  | [] => Nat.zero_le _
  | r :: T => by
    rw [List.map_cons, toPs, PySem.PyData.depthAll]
    have h1 := depth_T T
    have h2 : PySem.PyData.depth (toP (IL r)) = 1 := by
      show PySem.PyData.depthAll (toPs (r.map D.int)) + 1 = 1
      rw [depth_ints]
    rw [h2]
    omega
theorem shaped_T (T : List (List Int)) : PySem.SeqAt.shaped (toP (TD T)) = true := by
  have h := depth_T T
  unfold PySem.SeqAt.shaped
  show (PySem.PyData.canLayAll0 (toPs (T.map IL)) && decide (PySem.PyData.depthAll (toPs (T.map IL)) + 1 ≤ 64)) = true
  rw [canLay_T, Bool.true_and]
  exact decide_eq_true (by omega)
/-! ### the greatest sum -/
theorem sum_le : ∀ (w : List Int) (b : Int), (∀ x ∈ w, x ≤ b) → w.sum ≤ b * w.length
  | [], b, _ => by simp
  | a :: w, b, h => by
    have ih := sum_le w b fun x hx => h x (List.mem_cons_of_mem _ hx)
    have := h a List.mem_cons_self
    rw [List.sum_cons, List.length_cons, Int.natCast_add, Int.mul_add]
    simp
    omega
theorem max_b {xs : List Int} (hx : 0 < xs.length) {b : Int} (h : ∀ x ∈ xs, 0 ≤ x ∧ x ≤ b) : maxLD [.lst (xs.map D.int)] = some (.int (maxZ xs)) ∧ 0 ≤ maxZ xs ∧ maxZ xs ≤ b := by
  refine ⟨?_, ?_⟩
  · unfold maxLD
    dsimp only
    rw [intsD_map]
    exact if_pos hx
  · cases xs with
    | nil => simp at hx
    | cons a xs =>
      obtain ⟨h1, _, _⟩ := foldl_max_spec xs a
      have : maxZ (a :: xs) ∈ a :: xs := by
        show xs.foldl max a ∈ a :: xs
        rcases h1 with e | e
        · rw [e]; exact List.mem_cons_self
        · exact List.mem_cons_of_mem _ e
      exact h _ this
noncomputable def mxE : DL.Env → Option D := (eCB maxLD (eCons (eComp (iotaA (eVar 2)) (gSet 0) (fun _ => some true) (eCB sumLD (eCons (eVar 0) eNil)) 1 []) eNil))
theorem mx_of {m : Nat} {T : List (List Int)} (h : Tb m T) {δ : DL.Env} (hv : eVar 2 δ = some (TD T)) : ∃ b : Int, mxE δ = some (.int b) ∧ 0 ≤ b ∧ b ≤ 5000000000000 := by
  have m1 := h.m1
  have m5 := h.m5
  have hc := comp_emb IL (fun r => D.int r.sum) (ε := eCB sumLD (eCons (eVar 0) eNil)) (δ0 := [none]) T (fun r _ => (cb_of (cons_of (x := IL r) rfl nil_of)).trans (sum_ints r))
  have e : T.map (fun r => D.int r.sum) = (T.map List.sum).map D.int := by rw [List.map_map]; rfl
  rw [e] at hc
  obtain ⟨h1, h2, h3⟩ := max_b (xs := T.map List.sum) (b := 5000000000000) (by rw [List.length_map, h.ln]; omega) (fun x hx => by
    obtain ⟨r, hr, rfl⟩ := List.mem_map.mp hx
    refine ⟨sum_nn r fun x hx => (h.en r hr x hx).1, ?_⟩
    have := sum_le r 1000000000000 fun x hx => by have := (h.en r hr x hx).2; omega
    rw [h.rl r hr] at this
    omega)
  refine ⟨_, ?_, h2, h3⟩
  unfold mxE
  exact (cb_of (cons_of (comp_of (iotaA_of hv) rfl hc (by rw [List.length_map, List.length_map, h.ln]; omega)) nil_of)).trans h1
end K28

namespace K28
open DL L2
noncomputable def cE (k : Int) : DL.Env → Option D := (eCall 2 m__law_cell_at [] (eCons (eVar 0) (eCons (eC (.int k)) eNil)))
noncomputable def dE : DL.Env → Option D := (eOp fdivW (cE 1) (eC (.int 3)))
noncomputable def a1 : DL.Env → Option Out := (sAsg 1 (eOp addD (eC (.int 1)) (eOp modW (cE 0) (eC (.int 5)))))
noncomputable def a2 : DL.Env → Option Out := (sAsg 2 (eCall 3 m__law_table [] (eCons (eVar 0) (eCons (eC (.int 12)) (eCons (eVar 1) eNil)))))
noncomputable def a3 : DL.Env → Option Out := (sAsg 3 (eOp addD (eC (.int 1)) (eOp modW dE (eC (.int 9)))))
noncomputable def a4 : DL.Env → Option Out := (sIf (xB (eOp eqD (eOp modW (cE 1) (eC (.int 3))) (eC (.int 1)))) (sAsg 3 (eOp addD (eC (.int 1)) (eOp modW dE (eOp addD mxE (eC (.int 2)))))) sNext)
noncomputable def fwE (a : Int) (μ : DL.Env → Option D) : DL.Env → Option D := (eOp modW (eCall 2 m__law_cell_at [] (eCons (eVar 1) (eCons (eOp addD (eC (.int a)) (eVar 0)) eNil))) μ)
noncomputable def fcE (a : Int) (μ : DL.Env → Option D) : DL.Env → Option D := (eComp (iotaR (eCons (eVar 1) eNil)) (gSet 0) (fun _ => some true) (fwE a μ) 1 [0])
noncomputable def grE : DL.Env → Option D := (eOp addD (eOp powW (eC (.int 10)) (eC (.int 30))) (eC (.int 1)))
noncomputable def a7 : DL.Env → Option Out := (sAsg 6 (eComp (iotaA (eVar 2)) (gSet 0) (fun _ => some true) (eCB listX (eCons (eVar 0) eNil)) 1 []))
noncomputable def a8 : DL.Env → Option Out := (sIf (xOr (xNot (xB (eCall 3 m__law_once [] (eCons (eVar 2) (eCons (eVar 3) (eCons (eVar 4) eNil)))))) (xNot (xB (eCall 3 m__law_once [] (eCons (eVar 2) (eCons (eVar 3) (eCons (eVar 5) eNil))))))) (sRet (eC (.bl false))) sNext)
noncomputable def a9 : DL.Env → Option Out := (sRet (eAnd (eCall 3 m__law_rounds [] (eCons (eVar 2) (eCons (eVar 3) (eCons (eVar 4) eNil)))) (eOp eqD (eVar 2) (eVar 6))))
theorem law_eq : f_law = sSeq a1 (sSeq a2 (sSeq a3 (sSeq a4 (sSeq (sAsg 4 (fcE 2 (eC (.int 21)))) (sSeq (sAsg 5 (fcE 7 grE)) (sSeq a7 (sSeq a8 a9))))))) := rfl
theorem c_of (ns : List Int) (k : Nat) {δ : DL.Env} (h : eVar 0 δ = some (IL ns)) : cE (k : Int) δ = some (.int (ns.getD k 0)) := by
  unfold cE
  exact (call_of (n := 2) (cons_of h (cons_of (x := .int (k : Int)) rfl nil_of)) rfl).trans (cell_at ns k)
def wts (ns : List Int) (a : Nat) (b : Int) (m : Nat) : List Int := (List.range m).map fun k => (ns.getD (a + k) 0).fmod b
theorem fc_of (ns : List Int) (a m : Nat) (hm : m ≤ 5) {μ : DL.Env → Option D} {b : Int} (hb : 0 < b) (hμ : ∀ δ, μ δ = some (.int b)) {δ : DL.Env} (h0 : eVar 0 δ = some (IL ns)) (h1 : eVar 1 δ = some (.int (m : Int))) : fcE (a : Int) μ δ = some (IL (wts ns a b m)) := by
  have e2 : (wts ns a b m).map D.int = (List.range m).map fun k => D.int ((ns.getD (a + k) 0).fmod b) := by unfold wts; rw [List.map_map]; rfl
  show _ = some (D.lst ((wts ns a b m).map D.int))
  rw [e2]
  have hd : blkD 1 δ [0] = [none, some (IL ns)] := by
    show [none, (δ[0]?).getD none] = _
    rw [eVar_some h0]
    rfl
  unfold fcE
  refine comp_of ((iotaR1 (j := (m : Int)) (cons_of h1 nil_of) (by omega) (by omega)).trans (by rw [Int.toNat_natCast])) hd (comp_rng _ m fun k _ => ?_) (by simp; omega)
  have e1 : eOp addD (eC (.int (a : Int))) (eVar 0) [some (.int (k : Int)), some (IL ns)] = some (.int ((a + k : Nat) : Int)) := by
    refine (op_of (x := .int (a : Int)) (y := .int (k : Int)) rfl rfl).trans ?_
    rw [Int.natCast_add]
    rfl
  unfold fwE
  exact (op_of (x := .int (ns.getD (a + k) 0)) (y := .int b) ((call_of (n := 2) (cons_of (x := IL ns) rfl (cons_of e1 nil_of)) rfl).trans (cell_at ns _)) (hμ _)).trans (modL hb)
abbrev LE (ns : List Int) (v1 v2 v3 v4 v5 v6 : Option D) : DL.Env := [some (IL ns), v1, v2, v3, v4, v5, v6]
theorem body (ns : List Int) (hl : ns.length ≤ 63) : f_law (LE ns none none none none none none) = some (.rt (.bl true)) := by
  obtain ⟨b0, b1⟩ := fmod_le (a := ns.getD 0 0) (b := 5) (by decide)
  obtain ⟨m, hm⟩ := nat_of (show 0 ≤ 1 + (ns.getD 0 0).fmod 5 by omega)
  have hm5 : m ≤ 5 := by omega
  have hm1 : 1 ≤ m := by omega
  have hT := tab_tb ns m hm1 hm5
  have htab := table_ok ns m hm5
  have t1 : a1 (LE ns none none none none none none) = some (.nx (LE ns (some (.int (m : Int))) none none none none none)) := by
    unfold a1
    refine asg_of ((op_of (x := .int 1) (y := .int ((ns.getD 0 0).fmod 5)) rfl ((op_of (y := .int 5) (c_of ns 0 rfl) rfl).trans (modL (by decide)))).trans ?_)
    show some (D.int (1 + (ns.getD 0 0).fmod 5)) = _
    rw [hm]
  have t2 : a2 (LE ns (some (.int (m : Int))) none none none none none) = some (.nx (LE ns (some (.int (m : Int))) (some (TD (tab ns m m))) none none none none)) := by
    unfold a2
    exact asg_of ((call_of (n := 3) (cons_of (x := IL ns) rfl (cons_of (x := .int 12) rfl (cons_of (x := .int (m : Int)) rfl nil_of))) rfl).trans htab)
  have hd : ∀ v1 v2 v3, dE (LE ns v1 v2 v3 none none none) = some (.int ((ns.getD 1 0).fdiv 3)) := fun v1 v2 v3 => by
    unfold dE
    exact (op_of (y := .int 3) (c_of ns 1 rfl) rfl).trans (fdivL (by decide) (by decide))
  generalize tab ns m m = T at *
  have t34 : ∃ n : Int, 0 < n ∧ n < 10000000000000000000 ∧ ∀ φ, sSeq a3 (sSeq a4 φ) (LE ns (some (.int (m : Int))) (some (TD T)) none none none none) = φ (LE ns (some (.int (m : Int))) (some (TD T)) (some (.int n)) none none none) := by
    obtain ⟨c0, c1⟩ := fmod_le (a := (ns.getD 1 0).fdiv 3) (b := 9) (by decide)
    have t3 : a3 (LE ns (some (.int (m : Int))) (some (TD T)) none none none none) = some (.nx (LE ns (some (.int (m : Int))) (some (TD T)) (some (.int (1 + ((ns.getD 1 0).fdiv 3).fmod 9))) none none none)) := by
      unfold a3
      exact asg_of ((op_of (x := .int 1) (y := .int (((ns.getD 1 0).fdiv 3).fmod 9)) rfl ((op_of (y := .int 9) (hd _ _ _) rfl).trans (modL (by decide)))).trans rfl)
    have e1 : xB (eOp eqD (eOp modW (cE 1) (eC (.int 3))) (eC (.int 1))) (LE ns (some (.int (m : Int))) (some (TD T)) (some (.int (1 + ((ns.getD 1 0).fdiv 3).fmod 9))) none none none) = some (decide ((ns.getD 1 0).fmod 3 = 1)) := xB_of ((op_of (x := .int ((ns.getD 1 0).fmod 3)) (y := .int 1) ((op_of (y := .int 3) (c_of ns 1 rfl) rfl).trans (modL (by decide))) rfl).trans (eqD_int _ _))
    by_cases hc : (ns.getD 1 0).fmod 3 = 1
    · obtain ⟨b, hb, hb0, hb1⟩ := mx_of hT (δ := LE ns (some (.int (m : Int))) (some (TD T)) (some (.int (1 + ((ns.getD 1 0).fdiv 3).fmod 9))) none none none) rfl
      obtain ⟨d0, d1⟩ := fmod_le (a := (ns.getD 1 0).fdiv 3) (b := b + 2) (by omega)
      refine ⟨1 + ((ns.getD 1 0).fdiv 3).fmod (b + 2), by omega, by omega, fun φ => ?_⟩
      have t4 : a4 (LE ns (some (.int (m : Int))) (some (TD T)) (some (.int (1 + ((ns.getD 1 0).fdiv 3).fmod 9))) none none none) = some (.nx (LE ns (some (.int (m : Int))) (some (TD T)) (some (.int (1 + ((ns.getD 1 0).fdiv 3).fmod (b + 2)))) none none none)) := by
        unfold a4
        rw [if_yes (by rw [e1, decide_eq_true hc])]
        exact asg_of ((op_of (x := .int 1) (y := .int (((ns.getD 1 0).fdiv 3).fmod (b + 2))) rfl ((op_of (y := .int (b + 2)) (hd _ _ _) ((op_of (y := .int 2) hb rfl).trans rfl)).trans (modL (by omega)))).trans rfl)
      rw [seq_nx t3, seq_nx t4]
    · refine ⟨1 + ((ns.getD 1 0).fdiv 3).fmod 9, by omega, by omega, fun φ => ?_⟩
      have t4 : a4 (LE ns (some (.int (m : Int))) (some (TD T)) (some (.int (1 + ((ns.getD 1 0).fdiv 3).fmod 9))) none none none) = some (.nx (LE ns (some (.int (m : Int))) (some (TD T)) (some (.int (1 + ((ns.getD 1 0).fdiv 3).fmod 9))) none none none)) := by
        unfold a4
        exact (if_no (by rw [e1, decide_eq_false hc])).trans rfl
      rw [seq_nx t3, seq_nx t4]
  obtain ⟨n, n0, n1, t34⟩ := t34
  rw [law_eq, seq_nx t1, seq_nx t2, t34]
  have t5 : sAsg 4 (fcE 2 (eC (.int 21))) (LE ns (some (.int (m : Int))) (some (TD T)) (some (.int n)) none none none) = some (.nx (LE ns (some (.int (m : Int))) (some (TD T)) (some (.int n)) (some (IL (wts ns 2 21 m))) none none)) := asg_of (fc_of ns 2 m hm5 (by decide) (fun _ => rfl) rfl rfl)
  have hgr : ∀ δ, grE δ = some (.int (10 ^ (30 : Int).toNat + 1)) := fun δ => by
    unfold grE
    exact (op_of (y := .int 1) ((op_of (x := .int 10) (y := .int 30) rfl rfl).trans (powW_of ⟨by decide, by decide, by decide⟩)) rfl).trans rfl
  have t6 : sAsg 5 (fcE 7 grE) (LE ns (some (.int (m : Int))) (some (TD T)) (some (.int n)) (some (IL (wts ns 2 21 m))) none none) = some (.nx (LE ns (some (.int (m : Int))) (some (TD T)) (some (.int n)) (some (IL (wts ns 2 21 m))) (some (IL (wts ns 7 (10 ^ (30 : Int).toNat + 1) m))) none)) := asg_of (fc_of ns 7 m hm5 (by decide) hgr rfl rfl)
  have hwl : ∀ a b, (wts ns a b m).length = m := fun a b => by unfold wts; simp
  have hW : Wt m (wts ns 2 21 m) := ⟨hwl _ _, fun x hx => by
    unfold wts at hx
    obtain ⟨k, _, rfl⟩ := List.mem_map.mp hx
    exact (fmod_le (by decide)).1⟩
  have hsum : (wts ns 2 21 m).sum ≤ 500 := by
    have := sum_le (wts ns 2 21 m) 20 fun x hx => by
      unfold wts at hx
      obtain ⟨k, _, rfl⟩ := List.mem_map.mp hx
      have := (fmod_le (a := ns.getD (2 + k) 0) (b := 21) (by decide)).2
      omega
    rw [hwl] at this
    omega
  have hwg := hwl 7 (10 ^ (30 : Int).toNat + 1)
  generalize wts ns 2 21 m = w at *
  generalize wts ns 7 (10 ^ (30 : Int).toNat + 1) m = g at *
  have t7 : a7 (LE ns (some (.int (m : Int))) (some (TD T)) (some (.int n)) (some (IL w)) (some (IL g)) none) = some (.nx (LE ns (some (.int (m : Int))) (some (TD T)) (some (.int n)) (some (IL w)) (some (IL g)) (some (TD T)))) := by
    unfold a7
    exact asg_of (comp_of (iotaA_of rfl) rfl (comp_emb IL IL (δ0 := [none]) T fun r _ => (cb_of (cons_of (x := IL r) rfl nil_of)).trans rfl) (by rw [List.length_map, hT.ln]; omega))
  have t8 : a8 (LE ns (some (.int (m : Int))) (some (TD T)) (some (.int n)) (some (IL w)) (some (IL g)) (some (TD T))) = some (.nx (LE ns (some (.int (m : Int))) (some (TD T)) (some (.int n)) (some (IL w)) (some (IL g)) (some (TD T)))) := by
    unfold a8
    exact (if_no (xOr_no (xNot_of (b := true) (xB_of ((call_of (n := 3) (cons_of (x := TD T) rfl (cons_of (x := .int n) rfl (cons_of (x := IL w) rfl nil_of))) rfl).trans (once_ok hT n0 n1 hW.ln)))) (xNot_of (b := true) (xB_of ((call_of (n := 3) (cons_of (x := TD T) rfl (cons_of (x := .int n) rfl (cons_of (x := IL g) rfl nil_of))) rfl).trans (once_ok hT n0 n1 hwg)))))).trans rfl
  rw [seq_nx t5, seq_nx t6, seq_nx t7, seq_nx t8]
  unfold a9
  refine ret_of (and_yes ((call_of (n := 3) (cons_of (x := TD T) rfl (cons_of (x := .int n) rfl (cons_of (x := IL w) rfl nil_of))) rfl).trans (lrounds_ok hT n0 n1 hW hsum)) ((op_of (x := TD T) (y := TD T) rfl rfl).trans (eqD_self rfl (shaped_T T))))
theorem all_true : ∀ ns : List Int, ns.length ≤ 63 → m_law [.lst (ns.map D.int)] = some (.bl true) := fun ns hl => run_of rfl (body ns hl)
end K28

namespace K28
open PySem PySem.Spec L2 DL
def spLaw (K : PySem.W.Frag) : Sp := fun vs H Q _ => ∃ (a : Addr) (ns : List Int), vs = [.ref a] ∧ SqL K H a (ns.map V.int) ∧ ns.length ≤ 63 ∧ ∀ H', Q (.bl true) H'
theorem ok_top (hall : ∀ ns : List Int, ns.length ≤ 63 → m_law [.lst (ns.map D.int)] = some (.bl true)) {P : Program} {w : World} {K : PySem.W.Frag} {mg : Str → Option Value} {base : Heap} {t : Adr} (T : Txt K mg t) : FnOk P w K mg base CX0 5 t.a_law t.d_law ["script"] (spLaw K) :=
  (ok_law T).imp fun vs H Q E ⟨a, ns, hv, hr, hl, q⟩ => by
    subst hv
    refine ⟨fun _ => False, [.lst (ns.map D.int)], .bl true, fun _ z => z.elim, .cons ?_ .nil, rfl, hall ns hl, fun v H' _ r => ?_⟩
    · unfold Rep
      refine ⟨a, _, rfl, fun z => z.elim, hr, ?_⟩
      have := RepL.of_vals (cA := ⟨t.c, K⟩) (av := fun _ => False) (H := H) (xs := ns.map D.int) (by rw [List.all_map]; exact List.all_eq_true.mpr fun _ _ => rfl)
      rw [List.map_map] at this
      exact this
    · cases (show v = _ from r)
      exact q H'
theorem all_mk (hall : ∀ ns : List Int, ns.length ≤ 63 → m_law [.lst (ns.map D.int)] = some (.bl true)) {l : PySem.W.OpenLaw} {w : World} {K : PySem.W.Frag} {h : Heap} {mg : Str → Option Value} {fa : Addr} (X : K.In h) (G : h.Ns mainGlobals mg) (hfa : mg "law" = some (.ref fa))
    {f0 : Addr} {od0 an0 : Option Addr} {sl0 : Array (Option Value)} {oc0 kV0 dc0 pm0 cd0 ct0 : Value}
    {f1 : Addr} {od1 an1 : Option Addr} {sl1 : Array (Option Value)} {oc1 kV1 dc1 pm1 cd1 ct1 : Value}
    {f2 : Addr} {od2 an2 : Option Addr} {sl2 : Array (Option Value)} {oc2 kV2 dc2 pm2 cd2 ct2 : Value}
    {f3 : Addr} {od3 an3 : Option Addr} {sl3 : Array (Option Value)} {oc3 kV3 dc3 pm3 cd3 ct3 : Value}
    {f4 : Addr} {od4 an4 : Option Addr} {sl4 : Array (Option Value)} {oc4 kV4 dc4 pm4 cd4 ct4 : Value}
    {f5 : Addr} {od5 an5 : Option Addr} {sl5 : Array (Option Value)} {oc5 kV5 dc5 pm5 cd5 ct5 : Value}
    {f6 : Addr} {od6 an6 : Option Addr} {sl6 : Array (Option Value)} {oc6 kV6 dc6 pm6 cd6 ct6 : Value}
    {f7 : Addr} {od7 an7 : Option Addr} {sl7 : Array (Option Value)} {oc7 kV7 dc7 pm7 cd7 ct7 : Value}
    {f8 : Addr} {od8 an8 : Option Addr} {sl8 : Array (Option Value)} {oc8 kV8 dc8 pm8 cd8 ct8 : Value}
    {f9 : Addr} {od9 an9 : Option Addr} {sl9 : Array (Option Value)} {oc9 kV9 dc9 pm9 cd9 ct9 : Value}
    {f10 : Addr} {od10 an10 : Option Addr} {sl10 : Array (Option Value)} {oc10 kV10 dc10 pm10 cd10 ct10 : Value}
    {f11 : Addr} {od11 an11 : Option Addr} {sl11 : Array (Option Value)} {oc11 kV11 dc11 pm11 cd11 ct11 : Value}
    {f12 : Addr} {od12 an12 : Option Addr} {sl12 : Array (Option Value)} {oc12 kV12 dc12 pm12 cd12 ct12 : Value}
    {f13 : Addr} {od13 an13 : Option Addr} {sl13 : Array (Option Value)} {oc13 kV13 dc13 pm13 cd13 ct13 : Value}
    {f14 : Addr} {od14 an14 : Option Addr} {sl14 : Array (Option Value)} {oc14 kV14 dc14 pm14 cd14 ct14 : Value}
    (a0 : PySem.W.nsIn K mainGlobals "borne" = some (some (.ref f0)))
    (l0 : K.lookup f0 = some ⟨oc0, od0, .func (PySem.W.fnOf "borne" "borne" (defArgs s_borne) (defBody s_borne) (defScope s_borne) .none kV0 dc0 pm0 an0 cd0 ct0), sl0⟩)
    (c0 : PySem.W.codeIn K cd0 "borne" = true)
    (k0 : PySem.W.keepIn K (.ref f0) = true)
    (a1 : PySem.W.nsIn K mainGlobals "bears" = some (some (.ref f1)))
    (l1 : K.lookup f1 = some ⟨oc1, od1, .func (PySem.W.fnOf "bears" "bears" (defArgs s_bears) (defBody s_bears) (defScope s_bears) .none kV1 dc1 pm1 an1 cd1 ct1), sl1⟩)
    (c1 : PySem.W.codeIn K cd1 "bears" = true)
    (k1 : PySem.W.keepIn K (.ref f1) = true)
    (a2 : PySem.W.nsIn K mainGlobals "shrunk" = some (some (.ref f2)))
    (l2 : K.lookup f2 = some ⟨oc2, od2, .func (PySem.W.fnOf "shrunk" "shrunk" (defArgs s_shrunk) (defBody s_shrunk) (defScope s_shrunk) .none kV2 dc2 pm2 an2 cd2 ct2), sl2⟩)
    (c2 : PySem.W.codeIn K cd2 "shrunk" = true)
    (k2 : PySem.W.keepIn K (.ref f2) = true)
    (a3 : PySem.W.nsIn K mainGlobals "rounds" = some (some (.ref f3)))
    (l3 : K.lookup f3 = some ⟨oc3, od3, .func (PySem.W.fnOf "rounds" "rounds" (defArgs s_rounds) (defBody s_rounds) (defScope s_rounds) .none kV3 dc3 pm3 an3 cd3 ct3), sl3⟩)
    (c3 : PySem.W.codeIn K cd3 "rounds" = true)
    (k3 : PySem.W.keepIn K (.ref f3) = true)
    (a4 : PySem.W.nsIn K mainGlobals "_law_cell_at" = some (some (.ref f4)))
    (l4 : K.lookup f4 = some ⟨oc4, od4, .func (PySem.W.fnOf "_law_cell_at" "_law_cell_at" (defArgs s__law_cell_at) (defBody s__law_cell_at) (defScope s__law_cell_at) .none kV4 dc4 pm4 an4 cd4 ct4), sl4⟩)
    (c4 : PySem.W.codeIn K cd4 "_law_cell_at" = true)
    (k4 : PySem.W.keepIn K (.ref f4) = true)
    (a5 : PySem.W.nsIn K mainGlobals "_law_is_whole" = some (some (.ref f5)))
    (l5 : K.lookup f5 = some ⟨oc5, od5, .func (PySem.W.fnOf "_law_is_whole" "_law_is_whole" (defArgs s__law_is_whole) (defBody s__law_is_whole) (defScope s__law_is_whole) .none kV5 dc5 pm5 an5 cd5 ct5), sl5⟩)
    (c5 : PySem.W.codeIn K cd5 "_law_is_whole" = true)
    (k5 : PySem.W.keepIn K (.ref f5) = true)
    (a6 : PySem.W.nsIn K mainGlobals "_law_row" = some (some (.ref f6)))
    (l6 : K.lookup f6 = some ⟨oc6, od6, .func (PySem.W.fnOf "_law_row" "_law_row" (defArgs s__law_row) (defBody s__law_row) (defScope s__law_row) .none kV6 dc6 pm6 an6 cd6 ct6), sl6⟩)
    (c6 : PySem.W.codeIn K cd6 "_law_row" = true)
    (k6 : PySem.W.keepIn K (.ref f6) = true)
    (a7 : PySem.W.nsIn K mainGlobals "_law_entry" = some (some (.ref f7)))
    (l7 : K.lookup f7 = some ⟨oc7, od7, .func (PySem.W.fnOf "_law_entry" "_law_entry" (defArgs s__law_entry) (defBody s__law_entry) (defScope s__law_entry) .none kV7 dc7 pm7 an7 cd7 ct7), sl7⟩)
    (c7 : PySem.W.codeIn K cd7 "_law_entry" = true)
    (k7 : PySem.W.keepIn K (.ref f7) = true)
    (a8 : PySem.W.nsIn K mainGlobals "_law_table" = some (some (.ref f8)))
    (l8 : K.lookup f8 = some ⟨oc8, od8, .func (PySem.W.fnOf "_law_table" "_law_table" (defArgs s__law_table) (defBody s__law_table) (defScope s__law_table) .none kV8 dc8 pm8 an8 cd8 ct8), sl8⟩)
    (c8 : PySem.W.codeIn K cd8 "_law_table" = true)
    (k8 : PySem.W.keepIn K (.ref f8) = true)
    (a9 : PySem.W.nsIn K mainGlobals "_law_wish" = some (some (.ref f9)))
    (l9 : K.lookup f9 = some ⟨oc9, od9, .func (PySem.W.fnOf "_law_wish" "_law_wish" (defArgs s__law_wish) (defBody s__law_wish) (defScope s__law_wish) .none kV9 dc9 pm9 an9 cd9 ct9), sl9⟩)
    (c9 : PySem.W.codeIn K cd9 "_law_wish" = true)
    (k9 : PySem.W.keepIn K (.ref f9) = true)
    (a10 : PySem.W.nsIn K mainGlobals "_law_sums" = some (some (.ref f10)))
    (l10 : K.lookup f10 = some ⟨oc10, od10, .func (PySem.W.fnOf "_law_sums" "_law_sums" (defArgs s__law_sums) (defBody s__law_sums) (defScope s__law_sums) .none kV10 dc10 pm10 an10 cd10 ct10), sl10⟩)
    (c10 : PySem.W.codeIn K cd10 "_law_sums" = true)
    (k10 : PySem.W.keepIn K (.ref f10) = true)
    (a11 : PySem.W.nsIn K mainGlobals "_law_shrunk" = some (some (.ref f11)))
    (l11 : K.lookup f11 = some ⟨oc11, od11, .func (PySem.W.fnOf "_law_shrunk" "_law_shrunk" (defArgs s__law_shrunk) (defBody s__law_shrunk) (defScope s__law_shrunk) .none kV11 dc11 pm11 an11 cd11 ct11), sl11⟩)
    (c11 : PySem.W.codeIn K cd11 "_law_shrunk" = true)
    (k11 : PySem.W.keepIn K (.ref f11) = true)
    (a12 : PySem.W.nsIn K mainGlobals "_law_once" = some (some (.ref f12)))
    (l12 : K.lookup f12 = some ⟨oc12, od12, .func (PySem.W.fnOf "_law_once" "_law_once" (defArgs s__law_once) (defBody s__law_once) (defScope s__law_once) .none kV12 dc12 pm12 an12 cd12 ct12), sl12⟩)
    (c12 : PySem.W.codeIn K cd12 "_law_once" = true)
    (k12 : PySem.W.keepIn K (.ref f12) = true)
    (a13 : PySem.W.nsIn K mainGlobals "_law_rounds" = some (some (.ref f13)))
    (l13 : K.lookup f13 = some ⟨oc13, od13, .func (PySem.W.fnOf "_law_rounds" "_law_rounds" (defArgs s__law_rounds) (defBody s__law_rounds) (defScope s__law_rounds) .none kV13 dc13 pm13 an13 cd13 ct13), sl13⟩)
    (c13 : PySem.W.codeIn K cd13 "_law_rounds" = true)
    (k13 : PySem.W.keepIn K (.ref f13) = true)
    (a14 : PySem.W.nsIn K mainGlobals "law" = some (some (.ref f14)))
    (l14 : K.lookup f14 = some ⟨oc14, od14, .func (PySem.W.fnOf "law" "law" (defArgs s_law) (defBody s_law) (defScope s_law) .none kV14 dc14 pm14 an14 cd14 ct14), sl14⟩)
    (c14 : PySem.W.codeIn K cd14 "law" = true)
    (k14 : PySem.W.keepIn K (.ref f14) = true)
    (z_all : PySem.W.nsIn K mainGlobals "all" = some none)
    (z_bool : PySem.W.nsIn K mainGlobals "bool" = some none)
    (z_int : PySem.W.nsIn K mainGlobals "int" = some none)
    (z_isinstance : PySem.W.nsIn K mainGlobals "isinstance" = some none)
    (z_len : PySem.W.nsIn K mainGlobals "len" = some none)
    (z_list : PySem.W.nsIn K mainGlobals "list" = some none)
    (z_max : PySem.W.nsIn K mainGlobals "max" = some none)
    (z_min : PySem.W.nsIn K mainGlobals "min" = some none)
    (z_range : PySem.W.nsIn K mainGlobals "range" = some none)
    (z_sum : PySem.W.nsIn K mainGlobals "sum" = some none)
    (z_zip : PySem.W.nsIn K mainGlobals "zip" = some none)
    (i_NoneType_bool : PySem.W.kitOne K (.type "NoneType") (.type "bool") = some false)
    (i_bool_bool : PySem.W.kitOne K (.type "bool") (.type "bool") = some true)
    (i_int_bool : PySem.W.kitOne K (.type "int") (.type "bool") = some false)
    (i_str_bool : PySem.W.kitOne K (.type "str") (.type "bool") = some false)
    (i_list_bool : PySem.W.kitOne K (.type "list") (.type "bool") = some false)
    (i_tuple_bool : PySem.W.kitOne K (.type "tuple") (.type "bool") = some false)
    (i_NoneType_int : PySem.W.kitOne K (.type "NoneType") (.type "int") = some false)
    (i_bool_int : PySem.W.kitOne K (.type "bool") (.type "int") = some true)
    (i_int_int : PySem.W.kitOne K (.type "int") (.type "int") = some true)
    (i_str_int : PySem.W.kitOne K (.type "str") (.type "int") = some false)
    (i_list_int : PySem.W.kitOne K (.type "list") (.type "int") = some false)
    (i_tuple_int : PySem.W.kitOne K (.type "tuple") (.type "int") = some false)
    (i_NoneType_list : PySem.W.kitOne K (.type "NoneType") (.type "list") = some false)
    (i_bool_list : PySem.W.kitOne K (.type "bool") (.type "list") = some false)
    (i_int_list : PySem.W.kitOne K (.type "int") (.type "list") = some false)
    (i_str_list : PySem.W.kitOne K (.type "str") (.type "list") = some false)
    (i_list_list : PySem.W.kitOne K (.type "list") (.type "list") = some true)
    (i_tuple_list : PySem.W.kitOne K (.type "tuple") (.type "list") = some false)
    : ∃ fd : FuncData, (∀ (s : Shared) (v : Value), BindsTo s fd ⟨[v], []⟩ [("script", v)]) ∧ ∀ base : Heap, K.In base → base.Ns mainGlobals mg → FnOk l.prog w K mg base CX0 5 fa fd ["script"] (spLaw K) := by
  have e := hfa.symm.trans (PySem.W.mg_of X G a14)
  cases e
  have F0 : FunX K "borne" "borne" s_borne f0 _ := (fun_mk (st := s_borne) l0 c0 k0).x
  have b0 := (fun_mk (st := s_borne) l0 c0 k0).binds (ps := ["table", "weights"]) fun _ _ _ _ _ _ us hl => match us, hl with | [_, _], _ => rfl
  have F1 : FunX K "bears" "bears" s_bears f1 _ := (fun_mk (st := s_bears) l1 c1 k1).x
  have b1 := (fun_mk (st := s_bears) l1 c1 k1).binds (ps := ["table", "n", "weights"]) fun _ _ _ _ _ _ us hl => match us, hl with | [_, _, _], _ => rfl
  have F2 : FunX K "shrunk" "shrunk" s_shrunk f2 _ := (fun_mk (st := s_shrunk) l2 c2 k2).x
  have b2 := (fun_mk (st := s_shrunk) l2 c2 k2).binds (ps := ["table", "n", "weights"]) fun _ _ _ _ _ _ us hl => match us, hl with | [_, _, _], _ => rfl
  have F3 : FunX K "rounds" "rounds" s_rounds f3 _ := (fun_mk (st := s_rounds) l3 c3 k3).x
  have b3 := (fun_mk (st := s_rounds) l3 c3 k3).binds (ps := ["table", "n", "weights"]) fun _ _ _ _ _ _ us hl => match us, hl with | [_, _, _], _ => rfl
  have F4 : FunX K "_law_cell_at" "_law_cell_at" s__law_cell_at f4 _ := (fun_mk (st := s__law_cell_at) l4 c4 k4).x
  have b4 := (fun_mk (st := s__law_cell_at) l4 c4 k4).binds (ps := ["script", "k"]) fun _ _ _ _ _ _ us hl => match us, hl with | [_, _], _ => rfl
  have F5 : FunX K "_law_is_whole" "_law_is_whole" s__law_is_whole f5 _ := (fun_mk (st := s__law_is_whole) l5 c5 k5).x
  have b5 := (fun_mk (st := s__law_is_whole) l5 c5 k5).binds (ps := ["found"]) fun _ _ _ _ _ _ us hl => match us, hl with | [_], _ => rfl
  have F6 : FunX K "_law_row" "_law_row" s__law_row f6 _ := (fun_mk (st := s__law_row) l6 c6 k6).x
  have b6 := (fun_mk (st := s__law_row) l6 c6 k6).binds (ps := ["found", "many"]) fun _ _ _ _ _ _ us hl => match us, hl with | [_, _], _ => rfl
  have F7 : FunX K "_law_entry" "_law_entry" s__law_entry f7 _ := (fun_mk (st := s__law_entry) l7 c7 k7).x
  have b7 := (fun_mk (st := s__law_entry) l7 c7 k7).binds (ps := ["cell"]) fun _ _ _ _ _ _ us hl => match us, hl with | [_], _ => rfl
  have F8 : FunX K "_law_table" "_law_table" s__law_table f8 _ := (fun_mk (st := s__law_table) l8 c8 k8).x
  have b8 := (fun_mk (st := s__law_table) l8 c8 k8).binds (ps := ["script", "at", "many"]) fun _ _ _ _ _ _ us hl => match us, hl with | [_, _, _], _ => rfl
  have F9 : FunX K "_law_wish" "_law_wish" s__law_wish f9 _ := (fun_mk (st := s__law_wish) l9 c9 k9).x
  have b9 := (fun_mk (st := s__law_wish) l9 c9 k9).binds (ps := ["cell", "table"]) fun _ _ _ _ _ _ us hl => match us, hl with | [_, _], _ => rfl
  have F10 : FunX K "_law_sums" "_law_sums" s__law_sums f10 _ := (fun_mk (st := s__law_sums) l10 c10 k10).x
  have b10 := (fun_mk (st := s__law_sums) l10 c10 k10).binds (ps := ["table", "weights"]) fun _ _ _ _ _ _ us hl => match us, hl with | [_, _], _ => rfl
  have F11 : FunX K "_law_shrunk" "_law_shrunk" s__law_shrunk f11 _ := (fun_mk (st := s__law_shrunk) l11 c11 k11).x
  have b11 := (fun_mk (st := s__law_shrunk) l11 c11 k11).binds (ps := ["table", "n", "weights"]) fun _ _ _ _ _ _ us hl => match us, hl with | [_, _, _], _ => rfl
  have F12 : FunX K "_law_once" "_law_once" s__law_once f12 _ := (fun_mk (st := s__law_once) l12 c12 k12).x
  have b12 := (fun_mk (st := s__law_once) l12 c12 k12).binds (ps := ["table", "n", "weights"]) fun _ _ _ _ _ _ us hl => match us, hl with | [_, _, _], _ => rfl
  have F13 : FunX K "_law_rounds" "_law_rounds" s__law_rounds f13 _ := (fun_mk (st := s__law_rounds) l13 c13 k13).x
  have b13 := (fun_mk (st := s__law_rounds) l13 c13 k13).binds (ps := ["table", "n", "weights"]) fun _ _ _ _ _ _ us hl => match us, hl with | [_, _, _], _ => rfl
  have F14 : FunX K "law" "law" s_law fa _ := (fun_mk (st := s_law) l14 c14 k14).x
  have b14 := (fun_mk (st := s_law) l14 c14 k14).binds (ps := ["script"]) fun _ _ _ _ _ _ us hl => match us, hl with | [_], _ => rfl
  have T : Txt K mg { a_borne := f0, d_borne := _, a_bears := f1, d_bears := _, a_shrunk := f2, d_shrunk := _, a_rounds := f3, d_rounds := _, a__law_cell_at := f4, d__law_cell_at := _, a__law_is_whole := f5, d__law_is_whole := _, a__law_row := f6, d__law_row := _, a__law_entry := f7, d__law_entry := _, a__law_table := f8, d__law_table := _, a__law_wish := f9, d__law_wish := _, a__law_sums := f10, d__law_sums := _, a__law_shrunk := f11, d__law_shrunk := _, a__law_once := f12, d__law_once := _, a__law_rounds := f13, d__law_rounds := _, a_law := fa, d_law := _ } := { f_borne := F0, b_borne := b0, g_borne := PySem.W.mg_of X G a0, k_borne := k0, f_bears := F1, b_bears := b1, g_bears := PySem.W.mg_of X G a1, k_bears := k1, f_shrunk := F2, b_shrunk := b2, g_shrunk := PySem.W.mg_of X G a2, k_shrunk := k2, f_rounds := F3, b_rounds := b3, g_rounds := PySem.W.mg_of X G a3, k_rounds := k3, f__law_cell_at := F4, b__law_cell_at := b4, g__law_cell_at := PySem.W.mg_of X G a4, k__law_cell_at := k4, f__law_is_whole := F5, b__law_is_whole := b5, g__law_is_whole := PySem.W.mg_of X G a5, k__law_is_whole := k5, f__law_row := F6, b__law_row := b6, g__law_row := PySem.W.mg_of X G a6, k__law_row := k6, f__law_entry := F7, b__law_entry := b7, g__law_entry := PySem.W.mg_of X G a7, k__law_entry := k7, f__law_table := F8, b__law_table := b8, g__law_table := PySem.W.mg_of X G a8, k__law_table := k8, f__law_wish := F9, b__law_wish := b9, g__law_wish := PySem.W.mg_of X G a9, k__law_wish := k9, f__law_sums := F10, b__law_sums := b10, g__law_sums := PySem.W.mg_of X G a10, k__law_sums := k10, f__law_shrunk := F11, b__law_shrunk := b11, g__law_shrunk := PySem.W.mg_of X G a11, k__law_shrunk := k11, f__law_once := F12, b__law_once := b12, g__law_once := PySem.W.mg_of X G a12, k__law_once := k12, f__law_rounds := F13, b__law_rounds := b13, g__law_rounds := PySem.W.mg_of X G a13, k__law_rounds := k13, f_law := F14, b_law := b14, g_law := PySem.W.mg_of X G a14, k_law := k14, n_all := PySem.W.mg_none_of X G z_all, n_bool := PySem.W.mg_none_of X G z_bool, n_int := PySem.W.mg_none_of X G z_int, n_isinstance := PySem.W.mg_none_of X G z_isinstance, n_len := PySem.W.mg_none_of X G z_len, n_list := PySem.W.mg_none_of X G z_list, n_max := PySem.W.mg_none_of X G z_max, n_min := PySem.W.mg_none_of X G z_min, n_range := PySem.W.mg_none_of X G z_range, n_sum := PySem.W.mg_none_of X G z_sum, n_zip := PySem.W.mg_none_of X G z_zip, isi_bool := isi_tab (by intro p hp; simp only [it_bool, List.mem_cons, List.mem_nil_iff, or_false] at hp; rcases hp with rfl | rfl | rfl | rfl | rfl | rfl <;> first | exact i_NoneType_bool | exact i_bool_bool | exact i_int_bool | exact i_str_bool | exact i_list_bool | exact i_tuple_bool), isi_int := isi_tab (by intro p hp; simp only [it_int, List.mem_cons, List.mem_nil_iff, or_false] at hp; rcases hp with rfl | rfl | rfl | rfl | rfl | rfl <;> first | exact i_NoneType_int | exact i_bool_int | exact i_int_int | exact i_str_int | exact i_list_int | exact i_tuple_int), isi_list := isi_tab (by intro p hp; simp only [it_list, List.mem_cons, List.mem_nil_iff, or_false] at hp; rcases hp with rfl | rfl | rfl | rfl | rfl | rfl <;> first | exact i_NoneType_list | exact i_bool_list | exact i_int_list | exact i_str_list | exact i_list_list | exact i_tuple_list) }
  exact ⟨PySem.W.fnOf "law" "law" (defArgs s_law) (defBody s_law) (defScope s_law) .none kV14 dc14 pm14 an14 cd14 ct14, fun s v => .of_eq rfl, fun base _ _ => ok_top hall T⟩
theorem walk {l : PySem.W.OpenLaw} {q : Program} {loose : List Str} {XP : (Str → Option Value) → Heap → Prop} {YP : World → Heap → Prop} {d : DefRec} {K : Params → PySem.W.Frag} (hn : l.most = some 63) (hdf : d.params.defaults = [])
    (hY : ∀ (w : World) (h : Heap), YP w h → (K w.params).In h)
    (F : ∀ (w : World) (mg : Str → Option Value) (fa : Addr) (h : Heap), (K w.params).In h → h.Ns mainGlobals mg → mg d.name = some (.ref fa) →
      ∃ fd : FuncData, (∀ (s : Shared) (u : Value), BindsTo s fd ⟨[u], []⟩ [("script", u)]) ∧ ∀ base : Heap, (K w.params).In base → base.Ns mainGlobals mg → FnOk l.prog w (K w.params) mg base CX0 5 fa fd ["script"] (spLaw (K w.params))) :
    PySem.W.WalkO q loose XP YP l.row.toRowW d [] (fun f vs => PySem.call f vs) :=
  L2.walk_of (n := 63) (k := 5) (x := "script") (CX := fun _ => CX0) (sp := fun w => spLaw (K w.params)) hn (by decide) hdf ⟨rfl, by decide, by decide⟩ hY F (fun _ _ a ns hl _ hS => ⟨a, ns, rfl, hS, hl, fun _ => rfl⟩) fun _ _ _ _ _ z => z
end K28
open PySem PySem.W PyProof.Rows
set_option maxRecDepth 100000 in
set_option maxHeartbeats 0 in
theorem PySem.Challenge.cw_grooveway_k28_weights_shrunk_holds : PySem.Challenge.rw_grooveway_k28_weights_shrunk.Holds := by
  w_on; o_law; k_head; (case hw => w_witness2)
  k_fill
  refine K28.walk (l := PySem.Challenge.rw_grooveway_k28_weights_shrunk) rfl rfl (fun w h Y => PySem.W.kIn_of Y) ?F
  case F =>
    intro w mg fa h KX G hmg
    refine' K28.all_mk K28.all_true KX G hmg ?a0 ?l0 ?c0 ?k0 ?a1 ?l1 ?c1 ?k1 ?a2 ?l2 ?c2 ?k2 ?a3 ?l3 ?c3 ?k3 ?a4 ?l4 ?c4 ?k4 ?a5 ?l5 ?c5 ?k5 ?a6 ?l6 ?c6 ?k6 ?a7 ?l7 ?c7 ?k7 ?a8 ?l8 ?c8 ?k8 ?a9 ?l9 ?c9 ?k9 ?a10 ?l10 ?c10 ?k10 ?a11 ?l11 ?c11 ?k11 ?a12 ?l12 ?c12 ?k12 ?a13 ?l13 ?c13 ?k13 ?a14 ?l14 ?c14 ?k14 ?z_all ?z_bool ?z_int ?z_isinstance ?z_len ?z_list ?z_max ?z_min ?z_range ?z_sum ?z_zip ?i_NoneType_bool ?i_bool_bool ?i_int_bool ?i_str_bool ?i_list_bool ?i_tuple_bool ?i_NoneType_int ?i_bool_int ?i_int_int ?i_str_int ?i_list_int ?i_tuple_int ?i_NoneType_list ?i_bool_list ?i_int_list ?i_str_list ?i_list_list ?i_tuple_list
    (case a0 => k_is)
    (case l0 => k_is)
    (case c0 => k_is)
    (case k0 => k_is)
    (case a1 => k_is)
    (case l1 => k_is)
    (case c1 => k_is)
    (case k1 => k_is)
    (case a2 => k_is)
    (case l2 => k_is)
    (case c2 => k_is)
    (case k2 => k_is)
    (case a3 => k_is)
    (case l3 => k_is)
    (case c3 => k_is)
    (case k3 => k_is)
    (case a4 => k_is)
    (case l4 => k_is)
    (case c4 => k_is)
    (case k4 => k_is)
    (case a5 => k_is)
    (case l5 => k_is)
    (case c5 => k_is)
    (case k5 => k_is)
    (case a6 => k_is)
    (case l6 => k_is)
    (case c6 => k_is)
    (case k6 => k_is)
    (case a7 => k_is)
    (case l7 => k_is)
    (case c7 => k_is)
    (case k7 => k_is)
    (case a8 => k_is)
    (case l8 => k_is)
    (case c8 => k_is)
    (case k8 => k_is)
    (case a9 => k_is)
    (case l9 => k_is)
    (case c9 => k_is)
    (case k9 => k_is)
    (case a10 => k_is)
    (case l10 => k_is)
    (case c10 => k_is)
    (case k10 => k_is)
    (case a11 => k_is)
    (case l11 => k_is)
    (case c11 => k_is)
    (case k11 => k_is)
    (case a12 => k_is)
    (case l12 => k_is)
    (case c12 => k_is)
    (case k12 => k_is)
    (case a13 => k_is)
    (case l13 => k_is)
    (case c13 => k_is)
    (case k13 => k_is)
    (case a14 => k_is)
    (case l14 => k_is)
    (case c14 => k_is)
    (case k14 => k_is)
    (case z_all => k_is)
    (case z_bool => k_is)
    (case z_int => k_is)
    (case z_isinstance => k_is)
    (case z_len => k_is)
    (case z_list => k_is)
    (case z_max => k_is)
    (case z_min => k_is)
    (case z_range => k_is)
    (case z_sum => k_is)
    (case z_zip => k_is)
    (case i_NoneType_bool => kit_is)
    (case i_bool_bool => kit_is)
    (case i_int_bool => kit_is)
    (case i_str_bool => kit_is)
    (case i_list_bool => kit_is)
    (case i_tuple_bool => kit_is)
    (case i_NoneType_int => kit_is)
    (case i_bool_int => kit_is)
    (case i_int_int => kit_is)
    (case i_str_int => kit_is)
    (case i_list_int => kit_is)
    (case i_tuple_int => kit_is)
    (case i_NoneType_list => kit_is)
    (case i_bool_list => kit_is)
    (case i_int_list => kit_is)
    (case i_str_list => kit_is)
    (case i_list_list => kit_is)
    (case i_tuple_list => kit_is)

