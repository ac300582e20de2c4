import PyProof.Rows.All
import Wide.All
import OpenK.AllK
import Wide.FinOn
import Lean
import PyProof.EqAt
import PyProof.EqKinds
import PyProof.TupleCall
import PyProof.Rows.StrCountLaw
import PyProof.Rows.StrFirst
import PyProof.Rows.StrLast
import PyProof.Rows.StrNews2
import PyProof.Rows.StrSplitCount
import PyProof.StrBlockI
import PyProof.StrLawsIn
import PyProof.StrLawsLast
import PyProof.EnumMake
import PyProof.FString
import PyProof.ReprStr
import PyProof.StrLawsRepr
import PyProof.ListStr
import PySem.Challenge.RW_grooveway_k12_rooms_walked
set_option Elab.async false
set_option linter.all false
set_option maxRecDepth 100000
set_option maxHeartbeats 4000000
/-! THE HAND LAYER, for ints, bools, texts, own classes, LISTS and tuples (index, slices, in, append, pop ..), calls, loops. Paste it whole ahead of your own text; what your proof does not reach may be deleted. -/
namespace L2
open PySem PySem.Spec PyProof.Rows

/-- a key: an int or a str -/
abbrev Key := Sum Int Str
def keyIs : Key → Value → Bool
  | .inl k, v => Value.isInt k v
  | .inr x, v => Value.isStrOf x v
def keyH (w : World) : Key → Int
  | .inl k => hashInt k
  | .inr x => hashStr w x
theorem keyIs_shape : ∀ {k : Key} {v : Value}, keyIs k v = true → (∃ i t, k = Sum.inl i ∧ v = Value.int i t) ∨ (∃ x t, k = Sum.inr x ∧ v = Value.str x t)
  | .inl i, v, h => by
    obtain ⟨t, e⟩ := Value.isInt_shape (k := i) (v := v) h
    exact .inl ⟨i, t, rfl, e⟩
  | .inr x, v, h => by
    obtain ⟨t, e⟩ := Value.isStrOf_shape (x := x) (v := v) h
    exact .inr ⟨x, t, rfl, e⟩
theorem keyIs_int (i : Int) (t : Tok) : keyIs (.inl i) (.int i t) = true := by simp [keyIs, Value.isInt]
theorem keyIs_str (x : Str) (t : Tok) : keyIs (.inr x) (.str x t) = true := by simp [keyIs, Value.isStrOf]
theorem key_ll (a b : Int) : decide ((Sum.inl a : Key) = Sum.inl b) = (a == b) := by
  by_cases e : a = b
  · subst e; simp
  · have h : ¬ (Sum.inl a : Key) = Sum.inl b := fun q => e (Sum.inl.inj q)
    rw [decide_eq_false h]
    exact (beq_eq_false_iff_ne.mpr e).symm
theorem key_rr (a b : Str) : decide ((Sum.inr a : Key) = Sum.inr b) = decide (a = b) := by
  by_cases e : a = b
  · subst e; simp
  · have h : ¬ (Sum.inr a : Key) = Sum.inr b := fun q => e (Sum.inr.inj q)
    rw [decide_eq_false h, decide_eq_false e]
theorem key_lr (a : Int) (b : Str) : decide ((Sum.inl a : Key) = Sum.inr b) = false := decide_eq_false (fun q => nomatch q)
theorem key_rl (a : Str) (b : Int) : decide ((Sum.inr a : Key) = Sum.inl b) = false := decide_eq_false (fun q => nomatch q)

def mixKind (prog : Program) (w : World) : PySem.KeyKind prog w Key where
  is := keyIs
  hash := keyH w
  inj := fun v a b ha hb => by
    rcases keyIs_shape ha with ⟨i, t, rfl, rfl⟩ | ⟨x, t, rfl, rfl⟩
    · rcases keyIs_shape hb with ⟨j, u, rfl, e⟩ | ⟨y, u, rfl, e⟩
      · injection e with e1 _; rw [e1]
      · exact nomatch e
    · rcases keyIs_shape hb with ⟨j, u, rfl, e⟩ | ⟨y, u, rfl, e⟩
      · exact nomatch e
      · injection e with e1 _; rw [e1]
  byValue := fun k v h => by
    rcases keyIs_shape h with ⟨i, t, rfl, rfl⟩ | ⟨x, t, rfl, rfl⟩ <;> rfl
  pyHash := fun hv h => by
    rcases keyIs_shape hv with ⟨i, t, rfl, rfl⟩ | ⟨x, t, rfl, rfl⟩
    · exact wpAny_pyHash_int h
    · exact wpAny_pyHash_str h
  eqBool := fun hu hv h => by
    rcases keyIs_shape hu with ⟨i, t, rfl, rfl⟩ | ⟨x, t, rfl, rfl⟩
    · rcases keyIs_shape hv with ⟨j, u, rfl, rfl⟩ | ⟨y, u, rfl, rfl⟩
      · rw [key_ll] at h; exact wpAny_eqBool_int h
      · rw [key_lr] at h; exact SeqAt.EqAt.int_str i t y u _ _ _ _ h
    · rcases keyIs_shape hv with ⟨j, u, rfl, rfl⟩ | ⟨y, u, rfl, rfl⟩
      · rw [key_rl] at h; exact SeqAt.EqAt.str_int x t j u _ _ _ _ h
      · rw [key_rr] at h; exact wpAny_eqBool_str h
  «strs» := fun k x t v h => by
    rcases keyIs_shape h with ⟨i, u, rfl, e⟩ | ⟨y, u, rfl, e⟩
    · exact nomatch e
    · injection e with e1 _
      subst e1
      cases v <;> rfl

theorem mixKind_is (prog : Program) (w : World) (k : Key) (v : Value) : (mixKind prog w).is k v = keyIs k v := rfl
theorem mixKind_int (prog : Program) (w : World) (i : Int) (t : Tok) : (mixKind prog w).is (.inl i) (.int i t) = true := keyIs_int i t
theorem mixKind_str (prog : Program) (w : World) (x : Str) (t : Tok) : (mixKind prog w).is (.inr x) (.str x t) = true := keyIs_str x t
end L2

namespace L2
open PySem PySem.Spec PyProof.Rows

/-- a value, without the heap -/
inductive V where
  | non | bl (b : Bool) | int (i : Int) | str (x : Str) | byt (b : Array UInt8) | flt (b : UInt64) | ref (a : Addr) | ty (n : String)
  deriving DecidableEq

def RelV : V → Value → Prop
  | .non, u => u = Value.none
  | .bl b, u => u = Value.bool b
  | .int i, u => ∃ t, u = Value.int i t
  | .str x, u => ∃ t, u = Value.str x t
  | .byt b, u => ∃ t, u = Value.bytes b t
  | .flt b, u => ∃ t, u = Value.float b t
  | .ref a, u => u = Value.ref a
  | .ty n, u => u = Value.type n

abbrev Vals : List V → List Value → Prop := Paired RelV
theorem Vals.length {xs : List V} {us : List Value} (r : Vals xs us) : xs.length = us.length := Paired.length r
theorem Vals.get : ∀ {xs : List V} {us : List Value} {i : Nat} {x : V}, Vals xs us → xs[i]? = some x → ∃ u, us[i]? = some u ∧ RelV x u
  | _, _, _, _, .nil, e => by simp at e
  | _, _, 0, _, .cons r _, e => by simp at e; subst e; exact ⟨_, rfl, r⟩
  | _, _, i + 1, x, .cons _ t, e => by
    obtain ⟨u, h1, h2⟩ := Vals.get (i := i) (x := x) t (by simpa using e)
    exact ⟨u, by simpa using h1, h2⟩
theorem Vals.set {x : V} {u : Value} (r : RelV x u) : ∀ {xs : List V} {us : List Value} (i : Nat), Vals xs us → Vals (xs.set i x) (us.set i u)
  | _, _, _, .nil => .nil
  | _, _, 0, .cons _ t => .cons r t
  | _, _, i + 1, .cons q t => .cons q (Vals.set r i t)
theorem Vals.append : ∀ {xs ys : List V} {us ws : List Value}, Vals xs us → Vals ys ws → Vals (xs ++ ys) (us ++ ws)
  | _, _, _, _, .nil, s => s
  | _, _, _, _, .cons r t, s => .cons r (Vals.append t s)
theorem Vals.take : ∀ {xs : List V} {us : List Value} (n : Nat), Vals xs us → Vals (xs.take n) (us.take n)
  | _, _, 0, _ => .nil
  | _, _, _ + 1, .nil => .nil
  | _, _, n + 1, .cons r t => .cons r (Vals.take n t)
theorem Vals.drop : ∀ {xs : List V} {us : List Value} (n : Nat), Vals xs us → Vals (xs.drop n) (us.drop n)
  | _, _, 0, r => r
  | _, _, _ + 1, .nil => .nil
  | _, _, n + 1, .cons _ t => Vals.drop n t
theorem Vals.none_of : ∀ {xs : List V} {us : List Value} {i : Nat}, Vals xs us → xs[i]? = none → us[i]? = none := fun {xs us i} r e => by
  have h1 := r.length
  have h2 : xs.length ≤ i := List.getElem?_eq_none_iff.mp e
  exact List.getElem?_eq_none_iff.mpr (by omega)

def RelO : Option V → Option Value → Prop
  | some v, some u => RelV v u
  | none, none => True
  | _, _ => False
def KV {κ : Type} : List (κ × V) → List (κ × Value) → Prop := Paired fun (p : κ × V) (q : κ × Value) => p.1 = q.1 ∧ RelV p.2 q.2

/-- a key of a dict (00_mix): an int or a text -/
def kV : Key → V
  | .inl i => .int i
  | .inr x => .str x

/-- what stands at a tracked address -/
inductive HO where
  /-- a list -/
  | lst (xs : List V)
  /-- a tuple (never changes) -/
  | tup (xs : List V)
  /-- a dict whose keys are ints and texts; one whose keys are tuples of ints and texts (the empty one is both) -/
  | dK (kvs : List (Key × V)) | dT (kvs : List (List Key × V))
  /-- a set of ints: its members, its size -/
  | set (S : Int → Bool) (n : Nat)
  /-- an instance of the class at C, its dict at dx, its attributes -/
  | ins (C dx : Addr) (fs : List (Str × V))
  /-- the dict of the instance at x -/
  | own (x : Addr)
  /-- the dict of an exception -/
  | xd (fs : List (Str × V))
  /-- a bound method, f of x -/
  | met (f x : Addr)
  /-- a range object lo, lo + 1, .. below hi -/
  | rng (lo hi : Int)
  /-- a thing that is known to the object (the script; a dict while a loop walks it): read, never written while it is so -/
  | frz (o : Obj) (u : HO)
  /-- a code object's table -/
  | tbl (ps : Array Value)
  /-- any other thing, by what is true of its one object (a def of one's own: SetO a S n := HO.ext fun h => ..) -/
  | ext (φ : Heap → Prop)

abbrev Hp := Addr → Option HO
def upd (H : Hp) (a : Addr) (o : HO) : Hp := fun b => if b = a then some o else H b
theorem upd_same {H : Hp} {a : Addr} {o : HO} : upd H a o a = some o := by unfold upd; rw [if_pos rfl]
theorem upd_ne {H : Hp} {a b : Addr} {o : HO} (h : b ≠ a) : upd H a o b = H b := by unfold upd; rw [if_neg h]
theorem upd_upd {H : Hp} {a : Addr} {o u : HO} : upd (upd H a o) a u = upd H a u := by
  funext b; unfold upd; split <;> rfl
/-- two objects of different content stand apart -/
theorem ne_of {H : Hp} {a b : Addr} {o u : HO} (h : H a = some o) (h' : H b = some u) (d : o ≠ u) : a ≠ b := by
  intro e; subst e; rw [h] at h'; exact d (Option.some.inj h')
theorem ne_of_none {H : Hp} {a b : Addr} {o : HO} (h : H a = some o) (h' : H b = none) : a ≠ b := by
  intro e; subst e; rw [h] at h'; cases h'

section
variable (P : Program) (w : World)
def ObjOk (H : Hp) (h : Heap) (a : Addr) : HO → Prop
  | .lst xs => xs.length ≤ sizeLine ∧ ∃ (its : List Value) (n : Nat), Vals xs its ∧ h.get? a = some { cls := .type "list", data := .seq its.toArray n }
  | .tup xs => xs.length ≤ sizeLine ∧ ∃ its : List Value, Vals xs its ∧ IsTup h a its.toArray
  | .dK kvs => kvs.length ≤ sizeLine ∧ (a == sysModules) = false ∧ ∃ vs, KV kvs vs ∧ h.DictOf (mixKind P w) a vs
  | .dT kvs => kvs.length ≤ sizeLine ∧ (a == sysModules) = false ∧ ∃ xs : List (List Key × Addr × Value),
      Paired (fun (p : List Key × V) (q : List Key × Addr × Value) => p.1 = q.1 ∧ H q.2.1 = some (.tup (p.1.map kV)) ∧ RelV p.2 q.2.2) kvs xs ∧
      ∃ o es ep, h.get? a = some o ∧ o.ExactDict ∧ o.data = .dict es ep ∧ es.toList = xs.map (entryOfKey (tupleKind (mixKind P w))) ∧ (xs.map (·.1)).Nodup
  | .set S n => h.SetOf (intKind P w) a S n
  | .ins C dx fs => H dx = some (.own a) ∧ fs.length ≤ 1000 ∧ dx ≠ a ∧ h.get? a = some (PySem.W.instObj C dx) ∧
      ∃ mA, h.Ns1 dx mA ∧ (∀ f, RelO (fs.lookup f) (mA f)) ∧ PySem.Within mA (fs.map (·.1))
  | .own _ => ∃ o, h.get? a = some o
  | .xd fs => ∃ mA, h.Ns1 a mA ∧ ∀ f, RelO (fs.lookup f) (mA f)
  | .rng lo hi => ∃ t u v, h.get? a = some { cls := .type "range", data := .fields #[.int lo t, .int hi u, .int 1 v] }
  | .frz o u => h.get? a = some o ∧ ObjOk H h a u
  | .tbl ps => h.get? a = some { cls := .none, data := .fields ps }
  | .met f x => h.get? a = some (PySem.W.methodObj (.ref f) (.ref x))
  | .ext φ => φ h ∧ (∃ o, h.get? a = some o) ∧ ∀ h1 h2 : Heap, φ h1 → (∀ o, h1.get? a = some o → h2.get? a = some o) → φ h2
/-- the abstract heap is held -/
def HOk (H : Hp) (h : Heap) : Prop := ∀ a o, H a = some o → ObjOk P w H h a o
end

section
variable {P : Program} {w : World} {H H' : Hp} {h h' : Heap} {a : Addr} {o : HO}
theorem ObjOk.lt (x : ObjOk P w H h a o) : a < h.objs.size := by
  cases o with
  | lst xs => obtain ⟨_, _, _, _, e⟩ := x; exact Heap.lt_size e
  | tup xs => obtain ⟨_, _, _, p⟩ := x; exact p.lt
  | dK kvs => obtain ⟨_, _, _, _, o, _, _, e, _⟩ := x; exact Heap.lt_size e
  | dT kvs => obtain ⟨_, _, _, _, o, _, _, e, _⟩ := x; exact Heap.lt_size e
  | set S n => obtain ⟨o, _, _, _, e, _⟩ := x; exact Heap.lt_size e
  | ins C dx fs => obtain ⟨_, _, _, e, _⟩ := x; exact Heap.lt_size e
  | own y => obtain ⟨_, e⟩ := x; exact Heap.lt_size e
  | xd fs => obtain ⟨_, ⟨_, _, _, e, _⟩, _⟩ := x; exact Heap.lt_size e
  | rng lo hi => obtain ⟨_, _, _, e⟩ := x; exact Heap.lt_size e
  | frz ob u => obtain ⟨e, _⟩ := x; exact Heap.lt_size e
  | tbl ps => exact Heap.lt_size (show h.get? a = some _ from x)
  | met f y => exact Heap.lt_size (show h.get? a = some _ from x)
  | ext φ => obtain ⟨_, ⟨_, e⟩, _⟩ := x; exact Heap.lt_size e
theorem Paired.mapP {α β : Type} {F G : α → β → Prop} : ∀ {l₁ : List α} {l₂ : List β}, Paired F l₁ l₂ → (∀ a b, F a b → G a b) → Paired G l₁ l₂
  | _, _, .nil, _ => .nil
  | _, _, .cons r t, f => .cons (f _ _ r) (Paired.mapP t f)
theorem Paired.imp' {α β : Type} {F G : α → β → Prop} (f : ∀ a b, F a b → G a b) {l₁ : List α} {l₂ : List β} (r : Paired F l₁ l₂) : Paired G l₁ l₂ := Paired.mapP r f
/-- what an object's description leans on: its own object, its own dict, the tuples -/
theorem ObjOk.stay (x : ObjOk P w H h a o) (k : ∀ b u, (b = a ∨ H b = some (.own a)) → h.get? b = some u → h'.get? b = some u)
    (ho : ∀ b, H b = some (.own a) → H' b = some (.own a)) (ht : ∀ b xs, H b = some (.tup xs) → H' b = some (.tup xs)) : ObjOk P w H' h' a o := by
  induction o with
  | lst xs => obtain ⟨z, its, n, r, e⟩ := x; exact ⟨z, its, n, r, k _ _ (.inl rfl) e⟩
  | tup xs => obtain ⟨z, its, r, ob, e, c⟩ := x; exact ⟨z, its, r, ob, k _ _ (.inl rfl) e, c⟩
  | dK kvs => obtain ⟨z, y, vs, r, ob, es, ep, e, c⟩ := x; exact ⟨z, y, vs, r, ob, es, ep, k _ _ (.inl rfl) e, c⟩
  | dT kvs =>
    obtain ⟨z, y, xs, r, ob, es, ep, e, c⟩ := x
    exact ⟨z, y, xs, Paired.mapP r fun p q z => ⟨z.1, ht _ _ z.2.1, z.2.2⟩, ob, es, ep, k _ _ (.inl rfl) e, c⟩
  | set S n => obtain ⟨ob, es, ep, t, e, c⟩ := x; exact ⟨ob, es, ep, t, k _ _ (.inl rfl) e, c⟩
  | ins C dx fs =>
    obtain ⟨d, z, ne, e, mA, ⟨od, es, ep, e2, c⟩, r⟩ := x
    exact ⟨ho _ d, z, ne, k _ _ (.inl rfl) e, mA, ⟨od, es, ep, k _ _ (.inr d) e2, c⟩, r⟩
  | own y => obtain ⟨ob, e⟩ := x; exact ⟨ob, k _ _ (.inl rfl) e⟩
  | xd fs => obtain ⟨mA, ⟨od, es, ep, e, c⟩, r⟩ := x; exact ⟨mA, ⟨od, es, ep, k _ _ (.inl rfl) e, c⟩, r⟩
  | rng lo hi => obtain ⟨t, u, v, e⟩ := x; exact ⟨t, u, v, k _ _ (.inl rfl) e⟩
  | frz ob u ih => obtain ⟨e, q⟩ := x; exact ⟨k _ _ (.inl rfl) e, ih q⟩
  | tbl ps =>
    have e : h.get? a = some { cls := .none, data := .fields ps } := x
    show h'.get? a = some { cls := .none, data := .fields ps }
    exact k a _ (.inl rfl) e
  | met f y =>
    have e : h.get? a = some (PySem.W.methodObj (.ref f) (.ref y)) := x
    show h'.get? a = some (PySem.W.methodObj (.ref f) (.ref y))
    exact k a _ (.inl rfl) e
  | ext φ => obtain ⟨p, ⟨o, e⟩, st⟩ := x; exact ⟨st _ _ p fun o q => k _ _ (.inl rfl) q, ⟨o, k _ _ (.inl rfl) e⟩, st⟩
theorem HOk.lt (x : HOk P w H h) (e : H a = some o) : a < h.objs.size := (x a o e).lt
theorem HOk.fresh (x : HOk P w H h) (e : h.objs.size ≤ a) : H a = none := by
  cases q : H a with
  | none => rfl
  | some u => exact absurd (Nat.lt_of_lt_of_le (x.lt q) e) (Nat.lt_irrefl _)
/-- every object of the heap is kept -/
theorem HOk.kept (x : HOk P w H h) (k : ∀ b u, h.get? b = some u → h'.get? b = some u) : HOk P w H h' := fun a o e =>
  (x a o e).stay (fun b u _ q => k b u q) (fun _ q => q) fun _ _ q => q
/-- a new object is laid and tracked -/
theorem HOk.laid (x : HOk P w H h) (k : ∀ b u, h.get? b = some u → h'.get? b = some u) (hp : h.objs.size ≤ a) (new : ObjOk P w (upd H a o) h' a o) : HOk P w (upd H a o) h' := fun b u e => by
  have hn := x.fresh hp
  by_cases hb : b = a
  · subst hb; rw [upd_same] at e; cases e; exact new
  · rw [upd_ne hb] at e
    exact (x b u e).stay (fun c v _ q => k c v q) (fun c q => by rw [upd_ne (ne_of_none q hn)]; exact q) fun c xs q => by rw [upd_ne (ne_of_none q hn)]; exact q
end

/-- what may be read as u: it is u, or a known u -/
def Rd (H : Hp) (a : Addr) (u : HO) : Prop := H a = some u ∨ ∃ o, H a = some (.frz o u)
theorem Rd.of {H : Hp} {a : Addr} {u : HO} (h : H a = some u) : Rd H a u := .inl h
theorem Rd.ok {P : Program} {w : World} {H : Hp} {h : Heap} {a : Addr} {u : HO} (r : Rd H a u) (x : HOk P w H h) : ObjOk P w H h a u := by
  rcases r with r | ⟨o, r⟩
  · exact x a u r
  · obtain ⟨_, q⟩ := x a _ r
    exact q
/-- what may be written -/
def Mut : Option HO → Prop
  | some (.lst _) => True
  | some (.dK _) => True
  | some (.dT _) => True
  | some (.set _ _) => True
  | some (.ins _ _ _) => True
  | some (.ext _) => True
  | _ => False
section
variable {P : Program} {w : World} {H : Hp} {h h' : Heap} {x e : Addr} {o' : HO}
/-- the object at e is changed: x itself, or the dict of the instance x -/
theorem HOk.write (ok : HOk P w H h) (mu : Mut (H x)) (he : e = x ∨ H e = some (.own x)) (k : ∀ b u, b ≠ e → h.get? b = some u → h'.get? b = some u) (heo : ∃ u, h'.get? e = some u)
    (new : ObjOk P w (upd H x o') h' x o') : HOk P w (upd H x o') h' := fun b u q => by
  have nown : ∀ c y, H c = some (.own y) → c ≠ x := fun c y r z => by subst z; rw [r] at mu; exact mu
  have ntup : ∀ c xs, H c = some (.tup xs) → c ≠ x := fun c xs r z => by subst z; rw [r] at mu; exact mu
  by_cases hb : b = x
  · subst hb; rw [upd_same] at q; cases q; exact new
  · rw [upd_ne hb] at q
    by_cases hbe : b = e
    · have q' : H b = some (.own x) := by
        rcases he with z | z
        · exact absurd (hbe.trans z) hb
        · rw [hbe]; exact z
      rw [q] at q'; cases q'
      obtain ⟨v, hv⟩ := heo
      exact ⟨v, by rw [hbe]; exact hv⟩
    · refine (ok b u q).stay (fun c v hc r => k c v ?_ r) (fun c r => by rw [upd_ne (nown c b r)]; exact r) fun c xs r => by rw [upd_ne (ntup c xs r)]; exact r
      rcases hc with rfl | hc
      · exact hbe
      · rintro rfl
        rcases he with z | z
        · exact nown c b hc z
        · rw [hc] at z; cases z; exact hb rfl
end

/-! ### kept unless tracked; of the frames at fs (the callers') the slots may change (an exception that passes writes there); of the records at ex (iterators) nothing is said -/
structure Un (fs ex : List Addr) (H H' : Hp) (h h' : Heap) : Prop where
  keep : ∀ b o, h.get? b = some o → H b = none → b ∉ fs → b ∉ ex → h'.get? b = some o
  slot : ∀ b o, h.get? b = some o → H b = none → b ∈ fs → b ∉ ex → ∃ sl, h'.get? b = some { o with slots := sl }
  free : ∀ b o, h.get? b = some o → H b = none → b ∉ ex → H' b = none
  there : ∀ b o, h.get? b = some o → b ∉ ex → ∃ o', h'.get? b = some o'
  tups : ∀ b xs, H b = some (.tup xs) → H' b = some (.tup xs)
  frzs : ∀ b o u, H b = some (.frz o u) → H' b = some (.frz o u)
  tbls : ∀ b ps, H b = some (.tbl ps) → ∃ more, H' b = some (.tbl (ps ++ more))
section
variable {fs fs' ex ex' : List Addr} {H H1 H2 : Hp} {h h1 h2 h' : Heap} {a x e : Addr} {o : HO}
theorem Un.any (u : Un fs ex H H1 h h1) {b : Addr} {ob : Obj} (q : h.get? b = some ob) (n : H b = none) (hx : b ∉ ex) : ∃ sl, h1.get? b = some { ob with slots := sl } := by
  by_cases hb : b ∈ fs
  · exact u.slot b ob q n hb hx
  · exact ⟨ob.slots, u.keep b ob q n hb hx⟩
theorem Un.trans (a : Un fs ex H H1 h h1) (b : Un fs ex H1 H2 h1 h2) : Un fs ex H H2 h h2 where
  keep := fun c ob q n hc hx => b.keep c ob (a.keep c ob q n hc hx) (a.free c ob q n hx) hc hx
  slot := fun c ob q n hc hx => by
    obtain ⟨sl, e1⟩ := a.slot c ob q n hc hx
    obtain ⟨sl', e2⟩ := b.slot c _ e1 (a.free c ob q n hx) hc hx
    exact ⟨sl', e2⟩
  free := fun c ob q n hx => by
    obtain ⟨o', e1⟩ := a.there c ob q hx
    exact b.free c o' e1 (a.free c ob q n hx) hx
  there := fun c ob q hx => by
    obtain ⟨o', e1⟩ := a.there c ob q hx
    exact b.there c o' e1 hx
  tups := fun c xs q => b.tups c xs (a.tups c xs q)
  frzs := fun c ob xs q => b.frzs c ob xs (a.frzs c ob xs q)
  tbls := fun c ps q => by
    obtain ⟨m1, e1⟩ := a.tbls c ps q
    obtain ⟨m2, e2⟩ := b.tbls c _ e1
    exact ⟨m1 ++ m2, by rw [e2, Array.append_assoc]⟩
theorem Un.kept (k : ∀ b u, h.get? b = some u → h'.get? b = some u) : Un fs ex H H h h' :=
  ⟨fun b ob q _ _ _ => k b ob q, fun b ob q _ _ _ => ⟨ob.slots, k b ob q⟩, fun _ _ _ n _ => n, fun b ob q _ => ⟨ob, k b ob q⟩, fun _ _ q => q, fun _ _ _ q => q, fun _ ps q => ⟨#[], by rw [q]; simp⟩⟩
theorem Un.refl : Un fs ex H H h h := Un.kept fun _ _ q => q
theorem Un.laid (k : ∀ b u, h.get? b = some u → h'.get? b = some u) (hp : h.objs.size ≤ a) (hn : H a = none) : Un fs ex H (upd H a o) h h' where
  keep := fun b u q _ _ _ => k b u q
  slot := fun b u q _ _ _ => ⟨u.slots, k b u q⟩
  free := fun b u q n _ => by rw [upd_ne (Nat.ne_of_lt (Nat.lt_of_lt_of_le (Heap.lt_size q) hp))]; exact n
  there := fun b u q _ => ⟨u, k b u q⟩
  tups := fun b xs q => by rw [upd_ne (ne_of_none q hn)]; exact q
  frzs := fun b u xs q => by rw [upd_ne (ne_of_none q hn)]; exact q
  tbls := fun b ps q => ⟨#[], by rw [upd_ne (ne_of_none q hn), q]; simp⟩
theorem Un.write (mu : Mut (H x)) (he : e = x ∨ H e = some (.own x)) (k : ∀ b u, b ≠ e → h.get? b = some u → h'.get? b = some u) (heo : ∃ u, h'.get? e = some u) : Un fs ex H (upd H x o) h h' := by
  have hx : ∀ b, H b = none → b ≠ x := fun b n z => by subst z; rw [n] at mu; exact mu
  have hb : ∀ b, H b = none → b ≠ e := fun b n z => by
    subst z
    rcases he with r | r
    · exact hx b n r
    · rw [n] at r; cases r
  have hm : ∀ b u, H b = some u → ¬ Mut (some u) → b ≠ x := fun b u q nm z => by subst z; rw [q] at mu; exact nm mu
  refine ⟨fun b u q n _ _ => k b u (hb b n) q, fun b u q n _ _ => ⟨u.slots, k b u (hb b n) q⟩, fun b u q n _ => by rw [upd_ne (hx b n)]; exact n, fun b u q _ => ?_,
    fun b xs q => by rw [upd_ne (hm b _ q fun z => z)]; exact q, fun b u xs q => by rw [upd_ne (hm b _ q fun z => z)]; exact q, fun b ps q => ⟨#[], by rw [upd_ne (hm b _ q fun z => z), q]; simp⟩⟩
  by_cases hbe : b = e
  · subst hbe; exact heo
  · exact ⟨u, k b u hbe q⟩
theorem Un.mono (u : Un fs ex H H1 h h1) (hs : ∀ b ∈ fs, b ∈ fs') (hx : ∀ b ∈ ex, b ∈ ex') : Un fs' ex' H H1 h h1 :=
  ⟨fun b ob q n hb he => u.keep b ob q n (fun z => hb (hs b z)) fun z => he (hx b z), fun _ _ q n _ he => u.any q n fun z => he (hx _ z), fun b ob q n he => u.free b ob q n fun z => he (hx b z), fun b ob q he => u.there b ob q fun z => he (hx b z), u.tups, u.frzs, u.tbls⟩
end

/-! ### the heap without what is tracked -/
def trk (h : Heap) (H : Hp) : List Addr := (List.range h.objs.size).filter fun a => (H a).isSome
def hidT (h : Heap) (H : Hp) : Heap := PySem.W.hideAll h (trk h H)
theorem hidT_size (h : Heap) (H : Hp) : (hidT h H).objs.size = h.objs.size := PySem.W.hideAll_size _ _
theorem hidT_get {h : Heap} {H : Hp} {b : Addr} {o : Obj} (e : h.get? b = some o) (n : H b = none) : (hidT h H).get? b = some o :=
  PySem.W.hideAll_get _ e fun hm => by
    have q : (H b).isSome = true := (List.mem_filter.mp hm).2
    rw [n] at q; simp at q
theorem of_hidT {h : Heap} {H : Hp} {b : Addr} {o : Obj} (e : (hidT h H).get? b = some o) : h.get? b = some o ∧ H b = none := by
  have e' : h.get? b = some o := PySem.W.of_hideAll (trk h H) e
  refine ⟨e', ?_⟩
  cases q : H b with
  | none => rfl
  | some x =>
    have hm : b ∈ trk h H := List.mem_filter.mpr ⟨List.mem_range.mpr (Heap.lt_size e'), by simp [q]⟩
    have z : (hidT h H).get? b = none := PySem.W.hideAll_none (trk h H) hm
    rw [z] at e; cases e

/-! ### OpenK's ledger, filled with every new object but one -/
def allNews (g h : Heap) (L : Addr) : List (Addr × Obj) := (List.range h.objs.size).filterMap fun a => if a = L ∨ (g.get? a).isSome = true then none else (h.get? a).map fun o => (a, o)
theorem mem_allNews {g h : Heap} {L a : Addr} {o : Obj} (h1 : a ≠ L) (h2 : g.get? a = none) (h3 : h.get? a = some o) : (a, o) ∈ allNews g h L :=
  List.mem_filterMap.mpr ⟨a, List.mem_range.mpr (Heap.lt_size h3), by simp [h1, h2, h3]⟩
theorem of_mem_allNews {g h : Heap} {L : Addr} {p : Addr × Obj} (hp : p ∈ allNews g h L) : p.1 ≠ L ∧ g.get? p.1 = none ∧ h.get? p.1 = some p.2 := by
  obtain ⟨b, _, e⟩ := List.mem_filterMap.mp hp
  split at e
  · cases e
  · rename_i hn
    cases q : h.get? b with
    | none => rw [q] at e; simp at e
    | some u =>
      rw [q] at e
      simp only [Option.map_some, Option.some.injEq] at e
      subst e
      refine ⟨fun z => hn (.inl z), ?_, q⟩
      show g.get? b = none
      cases r : g.get? b with
      | none => rfl
      | some v => exact (hn (.inr (by simp [r]))).elim
def rest (g h : Heap) (L d : Addr) : List (Addr × Obj) := (allNews g h L).filter fun p => decide (p.1 ≠ d)
theorem rest_ne {g h : Heap} {L d : Addr} : ∀ p ∈ rest g h L d, p.1 ≠ d := fun p hp => of_decide_eq_true (List.mem_filter.mp hp).2
theorem mem_rest {g h : Heap} {L d a : Addr} {o : Obj} (h1 : a ≠ L) (h2 : g.get? a = none) (h3 : h.get? a = some o) (h4 : a ≠ d) : (a, o) ∈ rest g h L d :=
  List.mem_filter.mpr ⟨mem_allNews h1 h2 h3, decide_eq_true h4⟩
theorem news_all {g h : Heap} {L : Addr} : News g L h (allNews g h L) := fun p hp => let ⟨a, b, c⟩ := of_mem_allNews hp; ⟨c, a, b⟩
theorem news_at {g h : Heap} {L d : Addr} {o : Obj} (h1 : d ≠ L) (h2 : g.get? d = none) (h3 : h.get? d = some o) : News g L h ((d, o) :: rest g h L d) := fun p hp => by
  rcases List.mem_cons.mp hp with rfl | hp
  · exact ⟨h3, h1, h2⟩
  · exact news_all p (List.mem_filter.mp hp).1
/-- behind a rule that changed d alone: all else but the frame is kept -/
theorem kept_of_news {g h h' : Heap} {L d : Addr} {m : Str → Option Value} (k : ∀ b o, g.get? b = some o → h.get? b = some o) (F : Fr g L h' m) (N : News g L h' (rest g h L d)) :
    ∀ b o, b ≠ L → b ≠ d → h.get? b = some o → h'.get? b = some o := fun b o h1 h2 e => by
  cases q : g.get? b with
  | some u =>
    have := k b u q
    rw [e] at this; cases this
    exact F.keep b _ q
  | none => exact (N (b, o) (mem_rest h1 q e h2)).1
end L2

namespace L2
open PySem PySem.Spec PyProof.Rows

/-- the module's facts, over the base: the heap at the law's entry without what is tracked there -/
structure Mod (K : PySem.W.Frag) (mg : Str → Option Value) (base : Heap) : Prop where
  kin : K.In base
  glob : base.Ns mainGlobals mg
  blt : ∃ mb, base.Ns builtinsNs mb ∧ ∀ x : Str, x ≠ "__name__" → mb x = bootBuiltins x
  nolimit : base.NoLimit

/-- the context: a def's body (or a comprehension's block) running. base: fixed through the whole law; s₀, H₀: the entry; outer: the frames whose slots others may change (a def's callers); stack: all frames that run;
   ex: iterators that were made ahead of the entry and are walked here (a comprehension's); fn: the names whose cells were made at the entry (a def: all; a comprehension's block: its own); calm: not within an except suite; pn: pins that every state bears; xe: what is wanted of an exception that leaves the code -/
structure Cx where
  prog : Program
  w : World
  K : PySem.W.Frag
  mg : Str → Option Value
  base : Heap
  A : Around
  N : List Str
  s₀ : Shared
  H₀ : Hp
  env : Env
  outer : List Env
  stack : List Env
  ex : List Addr
  fn : Str → Bool
  calm : Bool
  pn : List (Addr × Obj)
  xe : Value → Shared → Prop
/-- the callers' frames -/
def frs (l : List Env) : List Addr := l.filterMap (·.frame)
abbrev Cx.fs (X : Cx) : List Addr := frs X.outer

def Vis (sc : Scope) (x : Str) : Prop := sc.names.lookup x = some .local ∨ sc.names.lookup x = some .cell ∨ sc.names.lookup x = some .free
def Loc (sc : Scope) (x : Str) : Prop := sc.names.lookup x = some .local ∨ sc.names.lookup x = some .cell
def Look (env : Env) (h : Heap) (m : Str → Option Value) (x : Str) (u : Value) : Prop :=
  (env.kindOf x = some .local ∧ m x = some u) ∨ ((env.kindOf x = some .cell ∨ env.kindOf x = some .free) ∧ ∃ c, env.cells.lookup x = some c ∧ h.IsCell c (some u))

structure Cx.Ok (X : Cx) : Prop where
  mod : Mod X.K X.mg X.base
  kind : X.env.scope.kind = .function
  glob : X.env.globals = mainGlobals
  blt : X.env.builtins = builtinsNs
  above : X.s₀.heap.objs.size ≤ X.env.locals
  inj : ∀ x y c, X.env.cells.lookup x = some c → X.env.cells.lookup y = some c → x = y
  has : ∀ x, (X.env.kindOf x = some .cell ∨ X.env.kindOf x = some .free) → ∃ c, X.env.cells.lookup x = some c
  cab : ∀ x c, X.fn x = true → X.env.cells.lookup x = some c → X.s₀.heap.objs.size ≤ c
  hd : X.calm = true → X.A.handled = none
  frames : X.A.frames = some X.stack
  stk : X.stack = X.outer ∨ (X.stack = X.env :: X.outer ∧ X.env.frame = some X.env.locals)
  exf : ∀ b ∈ X.ex, b ≠ X.env.locals ∧ ∀ x c, X.env.cells.lookup x = some c → c ≠ b
  bs : ∀ b o, X.base.get? b = some o → X.s₀.heap.get? b = some o ∧ X.H₀ b = none
  bsz : X.base.objs.size ≤ X.s₀.heap.objs.size
  noex : ∀ b o, X.base.get? b = some o → b ∉ X.ex
  exfs : ∀ b ∈ X.ex, b ∉ X.fs
  funs : X.s₀.heap.FunFrames X.base X.outer
  frf : ∀ b ∈ X.fs, X.H₀ b = none

structure Inv (X : Cx) (pins : List (Addr × Obj)) (σ : List (Option V)) (H : Hp) (s : Shared) : Prop where
  ok : X.Ok
  os : s.os = X.s₀.os
  bare : AllBare s.gens
  base : Un X.fs X.ex X.H₀ H X.s₀.heap s.heap
  loc : ∃ m, s.heap.Ns X.env.locals m ∧ ∀ (i : Nat) (x : Str) (v : V), X.N[i]? = some x → σ[i]? = some (some v) → Vis X.env.scope x → ∃ u, RelV v u ∧ Look X.env s.heap m x u
  cell : ∀ x c, X.env.cells.lookup x = some c → ∃ v, s.heap.IsCell c v
  free : H X.env.locals = none
  freeC : ∀ x c, X.env.cells.lookup x = some c → H c = none
  pin : ∀ p ∈ X.pn ++ pins, s.heap.get? p.1 = some p.2 ∧ H p.1 = none ∧ p.1 ≠ X.env.locals ∧ p.1 ∉ X.fs ∧ ∀ v, p.2.data ≠ .cell v
  hok : HOk X.prog X.w H s.heap
  len : σ.length = X.N.length

section
variable {X : Cx} {pins : List (Addr × Obj)} {σ : List (Option V)} {H H' : Hp} {s : Shared} {h' : Heap}

theorem Cx.Ok.nofr (ok : X.Ok) {b : Addr} {o : Obj} (e : X.base.get? b = some o) : b ∉ X.fs := fun hb => by
  have := (ok.funs.mem hb).1
  rw [e] at this; cases this
theorem Inv.bs (I : Inv X pins σ H s) : ∀ b o, X.base.get? b = some o → s.heap.get? b = some o ∧ H b = none := fun b o e =>
  ⟨I.base.keep b o (I.ok.bs b o e).1 (I.ok.bs b o e).2 (I.ok.nofr e) (I.ok.noex b o e), I.base.free b o (I.ok.bs b o e).1 (I.ok.bs b o e).2 (I.ok.noex b o e)⟩
theorem Inv.bk (I : Inv X pins σ H s) : ∀ b o, X.base.get? b = some o → s.heap.get? b = some o := fun b o e => (I.bs b o e).1
theorem Inv.mod (I : Inv X pins σ H s) : Mod X.K X.mg X.base := I.ok.mod
theorem Inv.kIn (I : Inv X pins σ H s) : X.K.In s.heap := I.ok.mod.kin.keeps I.bk
theorem Inv.nolimit (I : Inv X pins σ H s) : s.heap.NoLimit := I.ok.mod.nolimit.keeps I.bk
/-- the frame over the base: for OpenK's rules (K.In X.base is I.mod.kin) -/
theorem Inv.fr (I : Inv X pins σ H s) : ∃ m, Fr X.base X.env.locals s.heap m :=
  let ⟨m, hn, _⟩ := I.loc
  ⟨m, hn, I.bk, Nat.le_trans I.ok.bsz I.ok.above⟩
theorem Inv.lt (I : Inv X pins σ H s) : X.env.locals < s.heap.objs.size := let ⟨_, hn, _⟩ := I.loc; hn.lt
theorem Inv.sz (I : Inv X pins σ H s) : X.s₀.heap.objs.size ≤ s.heap.objs.size := Nat.le_trans I.ok.above (Nat.le_of_lt I.lt)
theorem Inv.nofs (I : Inv X pins σ H s) {a : Addr} (h : s.heap.objs.size ≤ a) : a ∉ X.fs := fun hb => by
  obtain ⟨_, o, ho, _⟩ := I.ok.funs.mem hb
  exact absurd (Nat.lt_of_lt_of_le (Heap.lt_size ho) (Nat.le_trans I.sz h)) (Nat.lt_irrefl _)
theorem Inv.cne (I : Inv X pins σ H s) : ∀ x c, X.env.cells.lookup x = some c → c ≠ X.env.locals := fun x c e z => by
  obtain ⟨v, o, ho, hd⟩ := I.cell x c e
  obtain ⟨m, ⟨o', es, ep, ho', hd', _⟩, _⟩ := I.loc
  rw [z, ho'] at ho; cases ho; rw [hd'] at hd; cases hd
theorem Inv.funs (I : Inv X pins σ H s) : s.heap.FunFrames X.base X.outer := by
  have all : ∀ (l : List Env), (∀ b ∈ frs l, b ∈ X.fs) → X.s₀.heap.FunFrames X.base l → s.heap.FunFrames X.base l := by
    intro l
    induction l with
    | nil => intro _ _; trivial
    | cons env r ih =>
      intro hs hl
      obtain ⟨hk, ⟨L, o, hf, hn, ho, hd⟩, hr⟩ := hl
      have hL : L ∈ X.fs := hs L (by unfold frs; rw [List.filterMap_cons, hf]; exact List.mem_cons_self)
      obtain ⟨sl, e⟩ := I.base.slot L o ho (I.ok.frf L hL) hL fun z => I.ok.exfs L z hL
      exact ⟨hk, ⟨L, _, hf, hn, e, hd⟩, ih (fun b hb => hs b (by unfold frs; rw [List.filterMap_cons, hf]; exact List.mem_cons_of_mem _ hb)) hr⟩
  exact all X.outer (fun _ hb => hb) I.ok.funs

/-- the frames that run, for a call -/
theorem Inv.stack (I : Inv X pins σ H s) : s.heap.FunFrames X.base X.stack := by
  rcases I.ok.stk with e | ⟨e, hf⟩
  · rw [e]; exact I.funs
  · rw [e]
    obtain ⟨m, hn, _⟩ := I.loc
    refine .cons (by rw [I.ok.kind]; decide) hf hn ?_ I.funs
    exact Heap.get?_none_of_le (Nat.le_trans I.ok.bsz I.ok.above)
theorem Inv.stkSub (I : Inv X pins σ H s) : ∀ b ∈ frs X.stack, b ∈ X.env.locals :: X.fs := fun b hb => by
  rcases I.ok.stk with e | ⟨e, hf⟩
  · rw [e] at hb; exact List.mem_cons_of_mem _ hb
  · rw [e] at hb
    unfold frs at hb
    rw [List.filterMap_cons, hf] at hb
    exact hb
theorem Inv.stkFree (I : Inv X pins σ H s) : ∀ b ∈ frs X.stack, H b = none := fun b hb => by
  rcases List.mem_cons.mp (I.stkSub b hb) with e | hb
  · rw [e]; exact I.free
  · obtain ⟨_, o, ho, _⟩ := I.ok.funs.mem hb
    exact I.base.free b o ho (I.ok.frf b hb) fun z => I.ok.exfs b z hb

/-- THE STEP: the untracked objects but the frame and the records at ch are kept (the callers' frames up to slots), the frame's map is kept, the new abstract heap is held -/
theorem Inv.step {g' : Array GenState} {t' : Nat} {d' : Drawn} {ch : List Addr} (I : Inv X pins σ H s)
    (hch : ∀ b ∈ ch, (b ∈ X.ex ∨ X.s₀.heap.objs.size ≤ b) ∧ b ≠ X.env.locals ∧ (∀ x c, X.env.cells.lookup x = some c → c ≠ b) ∧ ∀ p ∈ X.pn ++ pins, p.1 ≠ b)
    (keep : ∀ b o, b ≠ X.env.locals → b ∉ X.fs → b ∉ ch → s.heap.get? b = some o → H b = none → h'.get? b = some o)
    (slot : ∀ b o, b ≠ X.env.locals → b ∈ X.fs → b ∉ ch → s.heap.get? b = some o → H b = none → ∃ sl, h'.get? b = some { o with slots := sl }) (free : ∀ b o, b ∉ ch → s.heap.get? b = some o → H b = none → H' b = none)
    (there : ∀ b o, b ∉ ch → s.heap.get? b = some o → ∃ o', h'.get? b = some o')
    (tups : ∀ b xs, H b = some (.tup xs) → H' b = some (.tup xs)) (frzs : ∀ b o u, H b = some (.frz o u) → H' b = some (.frz o u)) (tbls : ∀ b ps, H b = some (.tbl ps) → ∃ more, H' b = some (.tbl (ps ++ more)))
    (ns : ∀ m, s.heap.Ns X.env.locals m → h'.Ns X.env.locals m) (hok : HOk X.prog X.w H' h') (hg : AllBare g') :
    Inv X pins σ H' { s with heap := h', gens := g', drawn := d', toks := t' } := by
  have neL : ∀ b o, X.s₀.heap.get? b = some o → b ≠ X.env.locals := fun b o e => Nat.ne_of_lt (Nat.lt_of_lt_of_le (Heap.lt_size e) I.ok.above)
  have neC : ∀ b o, X.s₀.heap.get? b = some o → b ∉ X.ex → b ∉ ch := fun b o e hx hb => by
    rcases (hch b hb).1 with z | z
    · exact hx z
    · exact absurd (Nat.lt_of_lt_of_le (Heap.lt_size e) z) (Nat.lt_irrefl _)
  have cellK : ∀ x c, X.env.cells.lookup x = some c → ∀ v, s.heap.IsCell c v → h'.IsCell c v := fun x c e v ⟨o, ho, hd⟩ => by
    have nch : c ∉ ch := fun z => (hch c z).2.2.1 x c e rfl
    by_cases hc : c ∈ X.fs
    · obtain ⟨sl, q⟩ := slot c o (I.cne x c e) hc nch ho (I.freeC x c e)
      exact ⟨_, q, hd⟩
    · exact ⟨o, keep c o (I.cne x c e) hc nch ho (I.freeC x c e), hd⟩
  refine ⟨I.ok, I.os, hg, ⟨fun b o e n hb hx => ?_, fun b o e n hb hx => ?_, fun b o e n hx => ?_, fun b o e hx => ?_, fun b xs e => tups b xs (I.base.tups b xs e), fun b o xs e => frzs b o xs (I.base.frzs b o xs e), fun b ps e => ?_⟩, ?_, fun x c e => ?_, ?_, fun x c e => ?_, fun p hp => ?_, hok, I.len⟩
  · exact keep b o (neL b o e) hb (neC b o e hx) (I.base.keep b o e n hb hx) (I.base.free b o e n hx)
  · obtain ⟨sl, e1⟩ := I.base.slot b o e n hb hx
    obtain ⟨sl', e2⟩ := slot b _ (neL b o e) hb (neC b o e hx) e1 (I.base.free b o e n hx)
    exact ⟨sl', e2⟩
  · obtain ⟨o', e1⟩ := I.base.there b o e hx
    exact free b o' (neC b o e hx) e1 (I.base.free b o e n hx)
  · obtain ⟨o', e1⟩ := I.base.there b o e hx
    exact there b o' (neC b o e hx) e1
  · obtain ⟨m1, e1⟩ := I.base.tbls b ps e
    obtain ⟨m2, e2⟩ := tbls b _ e1
    exact ⟨m1 ++ m2, by rw [e2, Array.append_assoc]⟩
  · obtain ⟨m, hn, hl⟩ := I.loc
    refine ⟨m, ns m hn, fun i x v e1 e2 e3 => ?_⟩
    obtain ⟨u, r, l⟩ := hl i x v e1 e2 e3
    refine ⟨u, r, ?_⟩
    rcases l with l | ⟨k, c, e, z⟩
    · exact .inl l
    · exact .inr ⟨k, c, e, cellK x c e _ z⟩
  · obtain ⟨v, z⟩ := I.cell x c e
    exact ⟨v, cellK x c e v z⟩
  · obtain ⟨m, ⟨o, _, _, ho, _⟩, _⟩ := I.loc
    exact free _ o (fun z => (hch _ z).2.1 rfl) ho I.free
  · obtain ⟨v, o, ho, hd⟩ := I.cell x c e
    exact free c o (fun z => (hch c z).2.2.1 x c e rfl) ho (I.freeC x c e)
  · obtain ⟨e, n, ne, nf, d⟩ := I.pin p hp
    have nch : p.1 ∉ ch := fun z => (hch p.1 z).2.2.2 p hp rfl
    exact ⟨keep p.1 p.2 ne nf nch e n, free p.1 p.2 nch e n, ne, nf, d⟩
/-- .. where the frame's own object is kept too -/
theorem Inv.un {t' : Nat} (I : Inv X pins σ H s) (u : Un X.fs [] H H' s.heap h') (hok : HOk X.prog X.w H' h') : Inv X pins σ H' { s with heap := h', toks := t' } := by
  obtain ⟨m, ⟨o, es, ep, ho, r⟩, _⟩ := id I.loc
  obtain ⟨sl, hL⟩ := u.any ho I.free (by simp)
  exact I.step (g' := s.gens) (d' := s.drawn) (ch := []) (fun _ z => nomatch z) (fun b o _ hb _ e n => u.keep b o e n hb (by simp)) (fun b o _ hb _ e n => u.slot b o e n hb (by simp)) (fun b o _ e n => u.free b o e n (by simp)) (fun b o _ e => u.there b o e (by simp)) u.tups u.frzs u.tbls (fun m' hm => by
    obtain ⟨o', es', ep', ho', r'⟩ := hm
    rw [ho] at ho'; cases ho'
    exact ⟨_, es', ep', hL, r'⟩) hok I.bare
/-- behind a call (or a comprehension's block): the slots of this frame may have changed too, the records at ch may have turned -/
theorem Inv.call {g' : Array GenState} {t' : Nat} {d' : Drawn} {ch : List Addr} (I : Inv X pins σ H s) (u : Un (frs X.stack) ch H H' s.heap h') (hok : HOk X.prog X.w H' h') (hg : AllBare g')
    (hch : ∀ b ∈ ch, (b ∈ X.ex ∨ X.s₀.heap.objs.size ≤ b) ∧ b ≠ X.env.locals ∧ (∀ x c, X.env.cells.lookup x = some c → c ≠ b) ∧ ∀ p ∈ X.pn ++ pins, p.1 ≠ b) :
    Inv X pins σ H' { s with heap := h', gens := g', drawn := d', toks := t' } := by
  obtain ⟨m, ⟨o, es, ep, ho, r⟩, _⟩ := id I.loc
  obtain ⟨sl, hL⟩ := u.any ho I.free fun z => (hch _ z).2.1 rfl
  exact I.step (ch := ch) hch (fun b o hL hb hc e n => u.keep b o e n (fun z => (List.mem_cons.mp (I.stkSub b z)).elim hL hb) hc) (fun b o _ _ hc e n => u.any e n hc) (fun b o hc e n => u.free b o e n hc) (fun b o hc e => u.there b o e hc) u.tups u.frzs u.tbls (fun m' hm => by
    obtain ⟨o', es', ep', ho', r'⟩ := hm
    rw [ho] at ho'; cases ho'
    exact ⟨_, es', ep', hL, r'⟩) hok hg
/-- an untracked record of ours (an iterator) has turned -/
theorem Inv.turned {t' : Nat} {it : Addr} (I : Inv X pins σ H s) (k : ∀ b o, b ≠ it → s.heap.get? b = some o → h'.get? b = some o) (hn : H it = none) (hL : it ≠ X.env.locals)
    (h1 : it ∈ X.ex ∨ X.s₀.heap.objs.size ≤ it) (h2 : ∀ x c, X.env.cells.lookup x = some c → c ≠ it) (h3 : ∀ p ∈ X.pn ++ pins, p.1 ≠ it) : Inv X pins σ H { s with heap := h', toks := t' } := by
  have nit : ∀ b u, H b = some u → b ≠ it := fun b u e z => by rw [z, hn] at e; cases e
  refine I.step (g' := s.gens) (d' := s.drawn) (ch := [it]) (fun b hb => ?_) (fun b o _ _ hc e _ => k b o (fun z => hc (by simp [z])) e) (fun b o _ _ hc e _ => ⟨o.slots, k b o (fun z => hc (by simp [z])) e⟩) (fun _ _ _ _ n => n)
    (fun b o hc e => ⟨o, k b o (fun z => hc (by simp [z])) e⟩) (fun _ _ e => e) (fun _ _ _ e => e) (fun b ps e => ⟨#[], by rw [e]; simp⟩) (fun m hm => ?_) (fun b u e => ?_) I.bare
  · have e : b = it := by simpa using hb
    subst e
    exact ⟨h1, hL, h2, h3⟩
  · obtain ⟨o, es, ep, ho, r⟩ := hm
    exact ⟨o, es, ep, k _ o (Ne.symm hL) ho, r⟩
  · refine (I.hok b u e).stay (fun c v hc q => k c v ?_ q) (fun _ q => q) fun _ _ q => q
    rcases hc with z | z
    · rw [z]; exact nit b u e
    · exact nit c _ z
theorem Inv.tok (I : Inv X pins σ H s) (t : Nat) : Inv X pins σ H { s with toks := t } := I.un (h' := s.heap) (t' := t) Un.refl I.hok
/-- all objects kept -/
theorem Inv.kept {t' : Nat} (I : Inv X pins σ H s) (k : ∀ b u, s.heap.get? b = some u → h'.get? b = some u) : Inv X pins σ H { s with heap := h', toks := t' } := I.un (Un.kept k) (I.hok.kept k)
/-- a new object laid and tracked -/
theorem Inv.laid {a : Addr} {o : HO} {t' : Nat} (I : Inv X pins σ H s) (k : ∀ b u, s.heap.get? b = some u → h'.get? b = some u) (hp : s.heap.objs.size ≤ a) (new : ObjOk X.prog X.w (upd H a o) h' a o) :
    Inv X pins σ (upd H a o) { s with heap := h', toks := t' } := I.un (Un.laid k hp (I.hok.fresh hp)) (I.hok.laid k hp new)
/-- an object written -/
theorem Inv.write {x e : Addr} {o : HO} {t' : Nat} (I : Inv X pins σ H s) (mu : Mut (H x)) (he : e = x ∨ H e = some (.own x)) (k : ∀ b u, b ≠ e → s.heap.get? b = some u → h'.get? b = some u) (heo : ∃ u, h'.get? e = some u)
    (new : ObjOk X.prog X.w (upd H x o) h' x o) : Inv X pins σ (upd H x o) { s with heap := h', toks := t' } := I.un (Un.write mu he k heo) (I.hok.write mu he k heo new)
/-- forgetting slots, pins -/
theorem Inv.weak {σ' : List (Option V)} (I : Inv X pins σ H s) (hl : σ'.length = σ.length) (w : ∀ (i : Nat) v, σ'[i]? = some (some v) → σ[i]? = some (some v)) : Inv X pins σ' H s :=
  ⟨I.ok, I.os, I.bare, I.base, let ⟨m, hn, hl'⟩ := I.loc; ⟨m, hn, fun i x v e1 e2 e3 => hl' i x v e1 (w i v e2) e3⟩, I.cell, I.free, I.freeC, I.pin, I.hok, hl.trans I.len⟩
theorem Inv.pins_of {pins' : List (Addr × Obj)} (I : Inv X pins σ H s) (h : ∀ p ∈ pins', s.heap.get? p.1 = some p.2 ∧ H p.1 = none ∧ p.1 ≠ X.env.locals ∧ p.1 ∉ X.fs ∧ ∀ v, p.2.data ≠ .cell v) : Inv X pins' σ H s :=
  ⟨I.ok, I.os, I.bare, I.base, I.loc, I.cell, I.free, I.freeC, fun p hp => (List.mem_append.mp hp).elim (fun z => I.pin p (List.mem_append_left _ z)) (h p), I.hok, I.len⟩

theorem nodup_ix {N : List Str} (hN : N.Nodup) {i j : Nat} {x : Str} (a : N[i]? = some x) (b : N[j]? = some x) : i = j := by
  obtain ⟨h1, e1⟩ := List.getElem?_eq_some_iff.mp a
  obtain ⟨h2, e2⟩ := List.getElem?_eq_some_iff.mp b
  exact (List.getElem_inj hN).mp (e1.trans e2.symm)

/-- a name is stored; what changed -/
theorem store_ok2 {M : Model} {A : Around} {E : Value → Shared → Prop} {i : Nat} {x : Str} {v : V} {u : Value} {Q : Unit → Shared → Prop} (I : Inv X pins σ H s) (hN : X.N.Nodup) (hi : X.N[i]? = some x) (hx : Loc X.env.scope x) (r : RelV v u)
    (h : ∀ s', Inv X pins (σ.set i (some v)) H s' → (∃ a, Heap.SameBut a s.heap s'.heap ∧ (a = X.env.locals ∨ X.env.cells.lookup x = some a)) → Q () s') (hf : X.fn x = true ∨ X.env.scope.names.lookup x = some .local := by first | exact .inl rfl | exact .inr rfl | assumption) : wpAny M A (storeName X.env x u) Q E s := by
  obtain ⟨m, hn, hl⟩ := id I.loc
  have hcls : (X.env.scope.kind == .class || (X.env.scope.kind == .module && X.env.locals != X.env.globals)) = false := by rw [I.ok.kind]; rfl
  have hiσ : i < σ.length := by rw [I.len]; exact (List.getElem?_eq_some_iff.mp hi).1
  have cne := I.cne
  have tracked : ∀ {a : Addr} {h' : Heap}, (∃ o, s.heap.get? a = some o ∧ H a = none) → Heap.SameBut a s.heap h' → HOk X.prog X.w H h' := fun {a h'} ha hs b ob e => by
    obtain ⟨_, _, hfree⟩ := ha
    refine (I.hok b ob e).stay (fun c w' hc q => (hs.2 c ?_).trans q) (fun _ q => q) fun _ _ q => q
    rintro rfl
    rcases hc with rfl | hc
    · rw [hfree] at e; cases e
    · rw [hfree] at hc; cases hc
  rcases hx with hk | hk
  · refine wpAny_storeName_local hk hn (fun h' hn' hs => ?_) hcls
    obtain ⟨oL, _, _, hoL, _⟩ := id hn
    refine h _ ⟨I.ok, I.os, I.bare, ⟨fun b o e n hb hx => ?_, fun b o e n hb hx => ?_, I.base.free, fun b o e hx => ?_, I.base.tups, I.base.frzs, I.base.tbls⟩, ⟨_, hn', fun j y v' e1 e2 e3 => ?_⟩, fun y c e => ?_, I.free, I.freeC, fun p hp => ?_, tracked ⟨oL, hoL, I.free⟩ hs, by simpa using I.len⟩ ⟨_, hs, .inl rfl⟩
    · exact (hs.2 b (Nat.ne_of_lt (Nat.lt_of_lt_of_le (Heap.lt_size e) I.ok.above))).trans (I.base.keep b o e n hb hx)
    · obtain ⟨sl, e1⟩ := I.base.slot b o e n hb hx
      exact ⟨sl, (hs.2 b (Nat.ne_of_lt (Nat.lt_of_lt_of_le (Heap.lt_size e) I.ok.above))).trans e1⟩
    · obtain ⟨o', e1⟩ := I.base.there b o e hx
      exact ⟨o', (hs.2 b (Nat.ne_of_lt (Nat.lt_of_lt_of_le (Heap.lt_size e) I.ok.above))).trans e1⟩
    · by_cases hj : j = i
      · subst hj
        rw [hi] at e1; cases e1
        rw [List.getElem?_set_self hiσ] at e2
        cases e2
        exact ⟨u, r, .inl ⟨hk, by simp⟩⟩
      · rw [List.getElem?_set_ne (Ne.symm hj)] at e2
        obtain ⟨u', r', q⟩ := hl j y v' e1 e2 e3
        refine ⟨u', r', ?_⟩
        rcases q with ⟨k, e⟩ | ⟨k, c, e, z⟩
        · refine .inl ⟨k, ?_⟩
          have : y ≠ x := fun e => hj (nodup_ix hN e1 (e ▸ hi))
          simp [this, e]
        · exact .inr ⟨k, c, e, z.sameBut hs (cne y c e)⟩
    · obtain ⟨w', z⟩ := I.cell y c e
      exact ⟨w', z.sameBut hs (cne y c e)⟩
    · obtain ⟨e, n, ne, nf, d⟩ := I.pin p hp
      exact ⟨(hs.2 p.1 ne).trans e, n, ne, nf, d⟩
  · have hfn : X.fn x = true := by
      rcases hf with z | z
      · exact z
      · rw [z] at hk; cases hk
    obtain ⟨c, hc⟩ := I.ok.has x (.inl hk)
    obtain ⟨w', z⟩ := I.cell x c hc
    refine wpAny_storeName_cell I.ok.kind hk hc z (fun h' hc' hs => ?_)
    obtain ⟨oc, hoc, hocd⟩ := id z
    refine h { s with heap := h' } ⟨I.ok, I.os, I.bare, ⟨fun b o e n hb hx => ?_, fun b o e n hb hx => ?_, I.base.free, fun b o e hx => ?_, I.base.tups, I.base.frzs, I.base.tbls⟩, ⟨m, hn.sameBut hs (Ne.symm (cne x c hc)), fun j y v' e1 e2 e3 => ?_⟩, fun y c' e => ?_, I.free, I.freeC, fun p hp => ?_, tracked ⟨oc, hoc, I.freeC x c hc⟩ hs, by simpa using I.len⟩ ⟨c, hs, .inr hc⟩
    · exact (hs.2 b (Nat.ne_of_lt (Nat.lt_of_lt_of_le (Heap.lt_size e) (I.ok.cab x c hfn hc)))).trans (I.base.keep b o e n hb hx)
    · obtain ⟨sl, e1⟩ := I.base.slot b o e n hb hx
      exact ⟨sl, (hs.2 b (Nat.ne_of_lt (Nat.lt_of_lt_of_le (Heap.lt_size e) (I.ok.cab x c hfn hc)))).trans e1⟩
    · obtain ⟨o', e1⟩ := I.base.there b o e hx
      exact ⟨o', (hs.2 b (Nat.ne_of_lt (Nat.lt_of_lt_of_le (Heap.lt_size e) (I.ok.cab x c hfn hc)))).trans e1⟩
    · by_cases hj : j = i
      · subst hj
        rw [hi] at e1; cases e1
        rw [List.getElem?_set_self hiσ] at e2
        cases e2
        exact ⟨u, r, .inr ⟨.inl hk, c, hc, hc'⟩⟩
      · rw [List.getElem?_set_ne (Ne.symm hj)] at e2
        obtain ⟨u', r', q⟩ := hl j y v' e1 e2 e3
        refine ⟨u', r', ?_⟩
        rcases q with q | ⟨k, c', e, z'⟩
        · exact .inl q
        · refine .inr ⟨k, c', e, z'.sameBut hs ?_⟩
          rintro rfl
          exact hj (nodup_ix hN e1 (I.ok.inj _ _ _ e hc ▸ hi))
    · by_cases hcc : c' = c
      · subst hcc; exact ⟨_, hc'⟩
      · obtain ⟨w2, z2⟩ := I.cell y c' e
        exact ⟨w2, z2.sameBut hs hcc⟩
    · obtain ⟨e, n, ne, nf, d⟩ := I.pin p hp
      refine ⟨(hs.2 p.1 ?_).trans e, n, ne, nf, d⟩
      intro q
      rw [q, hoc] at e
      have q' : oc = p.2 := Option.some.inj e
      exact d w' (by rw [← q']; exact hocd)
theorem store_ok {M : Model} {A : Around} {E : Value → Shared → Prop} {i : Nat} {x : Str} {v : V} {u : Value} {Q : Unit → Shared → Prop} (I : Inv X pins σ H s) (hN : X.N.Nodup) (hi : X.N[i]? = some x) (hx : Loc X.env.scope x) (r : RelV v u)
    (h : ∀ s', Inv X pins (σ.set i (some v)) H s' → Q () s') (hf : X.fn x = true ∨ X.env.scope.names.lookup x = some .local := by first | exact .inl rfl | exact .inr rfl | assumption) : wpAny M A (storeName X.env x u) Q E s :=
  store_ok2 I hN hi hx r (fun s' I' _ => h s' I') hf
/-- behind a call or a block, the state as it is -/
theorem Inv.call' {s' : Shared} {ch : List Addr} (I : Inv X pins σ H s) (ho : s'.os = s.os) (u : Un (frs X.stack) ch H H' s.heap s'.heap) (hok : HOk X.prog X.w H' s'.heap) (hg : AllBare s'.gens)
    (hch : ∀ b ∈ ch, (b ∈ X.ex ∨ X.s₀.heap.objs.size ≤ b) ∧ b ≠ X.env.locals ∧ (∀ x c, X.env.cells.lookup x = some c → c ≠ b) ∧ ∀ p ∈ X.pn ++ pins, p.1 ≠ b) : Inv X pins σ H' s' := by
  obtain ⟨h', g', d', t', o'⟩ := s'
  have e : o' = s.os := ho
  subst e
  exact I.call (g' := g') (t' := t') (d' := d') u hok hg hch
end

/-! ### the judgements -/
/-- an exception: its class, its own dict's address (where it has one), the abstract heap behind it -/
abbrev XK := Value → Option Addr → Hp → Prop
abbrev St := List (Option V)
abbrev VK := V → Hp → Prop
/-- an expression's reading; a test's; an argument list's -/
abbrev TE := St → Hp → VK → Prop
abbrev TT := St → Hp → (Bool → Hp → Prop) → Prop
abbrev TA := St → Hp → (List V → Hp → Prop) → Prop
/-- what is wanted behind a statement -/
structure Ends where
  nx : St → Hp → Prop
  rt : VK
  bk : St → Hp → Prop := fun _ _ => False
  ct : St → Hp → Prop := fun _ _ => False
abbrev TS := Ends → St → Hp → Prop

def EP (X : Cx) (pins : List (Addr × Obj)) (σ : St) (Q : VK) (u : Value) (s' : Shared) : Prop := ∃ v H', Inv X pins σ H' s' ∧ RelV v u ∧ Q v H'
def TP (X : Cx) (pins : List (Addr × Obj)) (σ : St) (Q : Bool → Hp → Prop) (b : Bool) (s' : Shared) : Prop := ∃ H', Inv X pins σ H' s' ∧ Q b H'
def AP (X : Cx) (pins : List (Addr × Obj)) (σ : St) (Q : List V → Hp → Prop) (us : List Value) (s' : Shared) : Prop := ∃ vs H', Inv X pins σ H' s' ∧ Vals vs us ∧ Q vs H'
def SP (X : Cx) (pins : List (Addr × Obj)) (D : Ends) (f : Flow) (s' : Shared) : Prop :=
  match f with
  | .next => ∃ σ' H', Inv X pins σ' H' s' ∧ D.nx σ' H'
  | .brk => ∃ σ' H', Inv X pins σ' H' s' ∧ D.bk σ' H'
  | .cont => ∃ σ' H', Inv X pins σ' H' s' ∧ D.ct σ' H'
  | .ret u => ∃ v σ' H', Inv X pins σ' H' s' ∧ RelV v u ∧ D.rt v H'

def PE (X : Cx) (e : Expr) (t : TE) : Prop :=
  ∀ (pins : List (Addr × Obj)) (s : Shared) (σ : St) (H : Hp) (Q : VK), Inv X pins σ H s → t σ H Q → wpAny (model X.prog X.w) X.A (eval e X.env) (EP X pins σ Q) X.xe s
def PT (X : Cx) (e : Expr) (t : TT) : Prop :=
  ∀ (pins : List (Addr × Obj)) (s : Shared) (σ : St) (H : Hp) (Q : Bool → Hp → Prop), Inv X pins σ H s → t σ H Q → wpAny (model X.prog X.w) X.A (isTrue e X.env (eval e X.env)) (TP X pins σ Q) X.xe s
/-- a test whatever its 'whole' is (and, or) -/
def PW (X : Cx) (e : Expr) (t : TT) : Prop :=
  ∀ (whole : Sem Value) (pins : List (Addr × Obj)) (s : Shared) (σ : St) (H : Hp) (Q : Bool → Hp → Prop), Inv X pins σ H s → t σ H Q → wpAny (model X.prog X.w) X.A (isTrue e X.env whole) (TP X pins σ Q) X.xe s
theorem PW.pt {X : Cx} {e : Expr} {t : TT} (h : PW X e t) : PT X e t := h _
/-- an argument list (no star), from the left -/
def PA (X : Cx) (es : List Expr) (t : TA) : Prop :=
  ∀ (pos : Pos) (pins : List (Addr × Obj)) (s : Shared) (σ : St) (H : Hp) (Q : List V → Hp → Prop), Inv X pins σ H s → t σ H Q → wpAny (model X.prog X.w) X.A (spliced (backTo pos (starEach es X.env))) (AP X pins σ Q) X.xe s
def PS (X : Cx) (st : Stmt) (t : TS) : Prop :=
  ∀ (pins : List (Addr × Obj)) (s : Shared) (σ : St) (H : Hp) (D : Ends), Inv X pins σ H s → t D σ H → wpAny (model X.prog X.w) X.A (exec st X.env) (SP X pins D) X.xe s
def PSs (X : Cx) (st : List Stmt) (t : TS) : Prop :=
  ∀ (pins : List (Addr × Obj)) (s : Shared) (σ : St) (H : Hp) (D : Ends), Inv X pins σ H s → t D σ H → wpAny (model X.prog X.w) X.A (execs st X.env) (SP X pins D) X.xe s
/-- weaken the end -/
theorem thn {α : Type} {t : Sem α} {Q Q' : α → Shared → Prop} {M : Model} {A : Around} {E : Value → Shared → Prop} {s : Shared} (h : wpAny M A t Q E s) (hQ : ∀ a s, Q a s → Q' a s) : wpAny M A t Q' E s := wpAny_mono h hQ fun _ _ x => x
end L2

namespace L2
open PySem PySem.Spec PyProof.Rows
section
variable {X : Cx}

/-- two expressions in a row -/
theorem bin {a b : Expr} {ta tb : TE} (ha : PE X a ta) (hb : PE X b tb) {pins : List (Addr × Obj)} {s : Shared} {σ : St} {H : Hp} {R : V → V → Hp → Prop} (I : Inv X pins σ H s) (h : ta σ H fun x H1 => tb σ H1 fun y H2 => R x y H2)
    {α : Type} {Q : α → Shared → Prop} {f : Value → Value → Sem α}
    (hf : ∀ v u s2 x y H2, Inv X pins σ H2 s2 → RelV x v → RelV y u → R x y H2 → wpAny (model X.prog X.w) X.A (f v u) Q X.xe s2) :
    wpAny (model X.prog X.w) X.A (eval a X.env) (fun v s₁ => wpAny (model X.prog X.w) X.A (eval b X.env) (fun u s₂ => wpAny (model X.prog X.w) X.A (f v u) Q X.xe s₂) X.xe s₁) X.xe s := by
  refine thn (ha pins s σ H _ I h) fun v s1 ⟨x, H1, I1, r1, q1⟩ => ?_
  refine thn (hb pins s1 σ H1 _ I1 q1) fun u s2 ⟨y, H2, I2, r2, q2⟩ => ?_
  exact hf v u s2 x y H2 I2 r1 r2 q2

/-! ### names and constants -/
def tVar (i : Nat) : TE := fun σ H Q => ∃ v, σ[i]? = some (some v) ∧ Q v H
def tC (v : V) : TE := fun _ H Q => Q v H
theorem pe_var {i : Nat} {x : Str} {pos : Pos} (hN : X.N[i]? = some x) (hv : Vis X.env.scope x) (hd : (x == ("__debug__" : Str)) = false := by decide) (hcd : (x == ("__classdict__" : Str)) = false := by decide) : PE X (.Name x pos) (tVar i) := by
  intro pins s σ H Q I h
  obtain ⟨v, e, h⟩ := h
  obtain ⟨m, hn, hl⟩ := I.loc
  obtain ⟨u, r, l⟩ := hl i x v hN e hv
  have fin : EP X pins σ Q u s := ⟨v, H, I, r, h⟩
  rcases l with ⟨hk, hm⟩ | ⟨hk, c, hc, hcell⟩
  · exact wpAny_Name (wpAny_loadName_local I.ok.kind hk hn hm fin) hd
  · rcases hk with hk | hk
    · exact wpAny_Name (wpAny_loadName_cell I.ok.kind hk hc hcell fin) hd
    · exact wpAny_Name (wpAny_loadName_free I.ok.kind hk hc hcell fin hcd) hd
theorem pe_int {i j pos} : PE X (.Constant (.int i) j pos) (tC (.int i)) := fun _ _ _ H _ I h => wpAny_Constant_int ⟨.int i, H, I.tok _, ⟨_, rfl⟩, h⟩
theorem pe_bl {b j pos} : PE X (.Constant (.bool b) j pos) (tC (.bl b)) := fun _ _ _ H _ I h => Constant_bool ⟨.bl b, H, I, rfl, h⟩
theorem pe_non {j pos} : PE X (.Constant .none j pos) (tC .non) := fun _ _ _ H _ I h => Constant_none ⟨.non, H, I, rfl, h⟩
theorem pe_str {x j pos} : PE X (.Constant (.str x) j pos) (tC (.str x)) := fun _ _ _ H _ I h => Calls.Constant_str ⟨.str x, H, I.tok _, ⟨_, rfl⟩, h⟩

/-- a global name of the def -/
def Gl (X : Cx) (x : Str) : Prop := X.env.kindOf x = some .globalImplicit
theorem ld_glob {E : Value → Shared → Prop} {pins : List (Addr × Obj)} {s : Shared} {σ : St} {H : Hp} {x : Str} {u : Value} {pos : Pos} {Q : Value → Shared → Prop} (I : Inv X pins σ H s) (hg : Gl X x) (hm : X.mg x = some u) (h : Q u s)
    (hd : (x == ("__debug__" : Str)) = false := by decide) : wpAny (model X.prog X.w) X.A (eval (.Name x pos) X.env) Q E s :=
  Calls.Name_function_global I.ok.kind hg (Calls.loadGlobal_global (by rw [I.ok.glob]; exact I.mod.glob.keeps I.bk) hm h) hd
theorem ld_blt {E : Value → Shared → Prop} {pins : List (Addr × Obj)} {s : Shared} {σ : St} {H : Hp} {x : Str} {u : Value} {pos : Pos} {Q : Value → Shared → Prop} (I : Inv X pins σ H s) (hg : Gl X x) (hm : X.mg x = none) (hv : bootBuiltins x = some u) (h : Q u s)
    (hn : x ≠ "__name__" := by decide) (hd : (x == ("__debug__" : Str)) = false := by decide) : wpAny (model X.prog X.w) X.A (eval (.Name x pos) X.env) Q E s := by
  obtain ⟨mb, h1, h2⟩ := I.mod.blt
  exact Calls.Name_function_global I.ok.kind hg (Calls.loadGlobal_builtin (by rw [I.ok.glob]; exact I.mod.glob.keeps I.bk) hm (by rw [I.ok.blt]; exact h1.keeps I.bk) ((h2 x hn).trans hv) h) hd
/-- a module's constant, a class, a function, as a value -/
theorem pe_glob {x : Str} {v : V} {u : Value} {pos : Pos} (hg : Gl X x) (hm : X.mg x = some u) (r : RelV v u) (hd : (x == ("__debug__" : Str)) = false := by decide) : PE X (.Name x pos) (tC v) :=
  fun _ _ _ H _ I h => ld_glob I hg hm ⟨v, H, I, r, h⟩ hd
theorem pe_bltn {x : Str} {v : V} {u : Value} {pos : Pos} (hg : Gl X x) (hm : X.mg x = none) (hv : bootBuiltins x = some u) (r : RelV v u) (hn : x ≠ "__name__" := by decide) (hd : (x == ("__debug__" : Str)) = false := by decide) : PE X (.Name x pos) (tC v) :=
  fun _ _ _ H _ I h => ld_blt I hg hm hv ⟨v, H, I, r, h⟩ hn hd

/-! ### arithmetic -/
/-- two ints -/
def t2I (ta tb : TE) (k : Int → Int → Hp → Prop) : St → Hp → Prop := fun σ H => ta σ H fun x H1 => tb σ H1 fun y H2 => ∃ i j, x = .int i ∧ y = .int j ∧ k i j H2
def tAdd (ta tb : TE) : TE := fun σ H Q => t2I ta tb (fun i j H2 => Q (.int (i + j)) H2) σ H
def tSub (ta tb : TE) : TE := fun σ H Q => t2I ta tb (fun i j H2 => Q (.int (i - j)) H2) σ H
/-- the left factor below 2^64 -/
def tMul (ta tb : TE) : TE := fun σ H Q => t2I ta tb (fun i j H2 => (-(2 ^ 64) < i ∧ i < 2 ^ 64) ∧ Q (.int (i * j)) H2) σ H
variable {a b : Expr} {ta tb : TE} {pos : Pos}
theorem pe_add (ha : PE X a ta) (hb : PE X b tb) : PE X (.BinOp a .Add b pos) (tAdd ta tb) := by
  intro pins s σ H Q I h
  refine wpAny_BinOp (bin ha hb I h fun v u s2 x y H2 I2 rx ry q => ?_)
  obtain ⟨i, j, rfl, rfl, q⟩ := q
  obtain ⟨t, rfl⟩ := rx
  obtain ⟨t', rfl⟩ := ry
  exact add_int ⟨.int _, H2, I2.tok _, ⟨_, rfl⟩, q⟩
theorem pe_sub (ha : PE X a ta) (hb : PE X b tb) : PE X (.BinOp a .Sub b pos) (tSub ta tb) := by
  intro pins s σ H Q I h
  refine wpAny_BinOp (bin ha hb I h fun v u s2 x y H2 I2 rx ry q => ?_)
  obtain ⟨i, j, rfl, rfl, q⟩ := q
  obtain ⟨t, rfl⟩ := rx
  obtain ⟨t', rfl⟩ := ry
  exact sub_int ⟨.int _, H2, I2.tok _, ⟨_, rfl⟩, q⟩
theorem pe_mul (ha : PE X a ta) (hb : PE X b tb) : PE X (.BinOp a .Mult b pos) (tMul ta tb) := by
  intro pins s σ H Q I h
  refine wpAny_BinOp (bin ha hb I h fun v u s2 x y H2 I2 rx ry q => ?_)
  obtain ⟨i, j, rfl, rfl, ⟨q1, q2⟩, q⟩ := q
  obtain ⟨t, rfl⟩ := rx
  obtain ⟨t', rfl⟩ := ry
  exact mul_int ⟨.int _, H2, I2.tok _, ⟨_, rfl⟩, q⟩ (.of_left (intBits_le_64 q1 q2))

/-! ### comparisons -/
def PC (X : Cx) (op : CmpOp) (a b : Expr) (t : TE) : Prop :=
  ∀ (pins : List (Addr × Obj)) (s : Shared) (σ : St) (H : Hp) (Q : VK), Inv X pins σ H s → t σ H Q →
    wpAny (model X.prog X.w) X.A (eval a X.env) (fun v s₁ => wpAny (model X.prog X.w) X.A (eval b X.env) (fun u s₂ => wpAny (model X.prog X.w) X.A (compareOp op v u) (EP X pins σ Q) X.xe s₂) X.xe s₁) X.xe s
theorem nobehind (b : Expr) {op : CmpOp} (h : op ≠ .In) (h2 : op ≠ .NotIn) : behindInMarks op b = false := by
  have e1 : (op == CmpOp.In) = false := by cases op <;> first | rfl | exact absurd rfl h
  have e2 : (op == CmpOp.NotIn) = false := by cases op <;> first | rfl | exact absurd rfl h2
  cases b <;> simp [behindInMarks, e1, e2]
def tCmp (p : Int → Int → Bool) (ta tb : TE) : TE := fun σ H Q => t2I ta tb (fun i j H2 => Q (.bl (p i j)) H2) σ H
abbrev tLt : TE → TE → TE := tCmp fun i j => decide (i < j)
abbrev tLe : TE → TE → TE := tCmp fun i j => decide (i ≤ j)
abbrev tGt : TE → TE → TE := tCmp fun i j => decide (j < i)
abbrev tGe : TE → TE → TE := tCmp fun i j => decide (j ≤ i)
abbrev tEqI : TE → TE → TE := tCmp fun i j => decide (i = j)
abbrev tNeI : TE → TE → TE := tCmp fun i j => !decide (i = j)
/-- a comparison of two ints, by its rule -/
theorem pc_int {op : CmpOp} {p : Int → Int → Bool} (ha : PE X a ta) (hb : PE X b tb)
    (rule : ∀ (i j : Int) (t u : Tok) (Q : Value → Shared → Prop) (s : Shared), Q (.bool (p i j)) s → wpAny (model X.prog X.w) X.A (compareOp op (.int i t) (.int j u)) Q X.xe s) : PC X op a b (tCmp p ta tb) := by
  intro pins s σ H Q I h
  refine bin ha hb I h fun v u s2 x y H2 I2 rx ry q => ?_
  obtain ⟨i, j, rfl, rfl, q⟩ := q
  obtain ⟨t, rfl⟩ := rx
  obtain ⟨t', rfl⟩ := ry
  exact rule i j t t' _ s2 ⟨.bl _, H2, I2, rfl, q⟩
theorem pc_lt (ha : PE X a ta) (hb : PE X b tb) : PC X .Lt a b (tLt ta tb) := pc_int ha hb fun _ _ _ _ _ _ h => lt_int h
theorem pc_le (ha : PE X a ta) (hb : PE X b tb) : PC X .LtE a b (tLe ta tb) := pc_int ha hb fun _ _ _ _ _ _ h => le_int h
theorem pc_gt (ha : PE X a ta) (hb : PE X b tb) : PC X .Gt a b (tGt ta tb) := pc_int ha hb fun _ _ _ _ _ _ h => gt_int h
theorem pc_ge (ha : PE X a ta) (hb : PE X b tb) : PC X .GtE a b (tGe ta tb) := pc_int ha hb fun _ _ _ _ _ _ h => ge_int h
theorem pc_eqI (ha : PE X a ta) (hb : PE X b tb) : PC X .Eq a b (tEqI ta tb) := pc_int ha hb fun _ _ _ _ _ _ h => eq_int (by rw [Bool.beq_eq_decide_eq]; exact h)
theorem pc_neI (ha : PE X a ta) (hb : PE X b tb) : PC X .NotEq a b (tNeI ta tb) := pc_int ha hb fun _ _ _ _ _ _ h => ne_int (by rw [bne, Bool.beq_eq_decide_eq]; exact h)
/-- is None -/
def tIsN (ta : TE) : TE := fun σ H Q => ta σ H fun x H1 => Q (.bl (decide (x = .non))) H1
def tNotN (ta : TE) : TE := fun σ H Q => ta σ H fun x H1 => Q (.bl (!decide (x = .non))) H1
theorem RelV.none_iff {x : V} {v : Value} (r : RelV x v) : (v == Value.none) = decide (x = .non) := by
  cases x with
  | non => cases r; rfl
  | bl _ => cases r; rfl
  | int _ => obtain ⟨t, rfl⟩ := r; rfl
  | str _ => obtain ⟨t, rfl⟩ := r; rfl
  | byt _ => obtain ⟨t, rfl⟩ := r; rfl
  | flt _ => obtain ⟨t, rfl⟩ := r; rfl
  | ref _ => cases r; rfl
  | ty _ => cases r; rfl
theorem pc_isN {j pos'} (ha : PE X a ta) : PC X .Is a (.Constant .none j pos') (tIsN ta) := by
  intro pins s σ H Q I h
  refine thn (ha pins s σ H _ I h) fun v s1 ⟨x, H1, I1, r1, q1⟩ => ?_
  exact Constant_none (is_none_gen ⟨.bl _, H1, I1, by rw [r1.none_iff]; rfl, q1⟩)
theorem pc_notN {j pos'} (ha : PE X a ta) : PC X .IsNot a (.Constant .none j pos') (tNotN ta) := by
  intro pins s σ H Q I h
  refine thn (ha pins s σ H _ I h) fun v s1 ⟨x, H1, I1, r1, q1⟩ => ?_
  exact Constant_none (isnot_none_gen ⟨.bl _, H1, I1, by rw [r1.none_iff]; rfl, q1⟩)
/-- a comparison as a value, as a test -/
def tB (t : TE) : TT := fun σ H Q => t σ H fun x H1 => ∃ c, x = .bl c ∧ Q c H1
theorem pe_cmp {op : CmpOp} {t : TE} (h : PC X op a b t) (h1 : behindInMarks op b = false := by first | exact nobehind _ (by decide) (by decide) | rfl) : PE X (.Compare a [op] [b] pos) t := fun pins s σ H Q I hw => wpAny_Compare1 (h pins s σ H Q I hw) h1
theorem pt_cmp {op : CmpOp} {t : TE} (h : PC X op a b t) (h1 : behindInMarks op b = false := by first | exact nobehind _ (by decide) (by decide) | rfl) : PT X (.Compare a [op] [b] pos) (tB t) := by
  intro pins s σ H Q I hw
  refine wpAny_isTrue_Compare1 (thn (h pins s σ H _ I hw) fun v s1 h1 => thn h1 fun u s2 h2 => thn h2 fun c s3 ⟨x, H1, I1, r1, q1⟩ => ?_) h1
  obtain ⟨d, rfl, q⟩ := q1
  cases r1
  exact wpAny_truthy_bool ⟨H1, I1, q⟩
/-- an expression whose value is a bool, as a test -/
theorem pt_val {e : Expr} {t : TE} (h : PE X e t) (he : ∀ whole, isTrue e X.env whole = (do let v ← whole; standAt e.pos; holding [v] (truthy v)) := by intro _; rfl) : PT X e (tB t) := by
  intro pins s σ H Q I hw
  refine isTrue_plain (thn (h pins s σ H _ I hw) fun v s1 ⟨x, H1, I1, r1, q1⟩ => ?_) (he _)
  obtain ⟨d, rfl, q⟩ := q1
  cases r1
  exact wpAny_truthy_bool ⟨H1, I1, q⟩

/-! ### and, or, not -/
variable {tA tB' : TT} {rest : List Expr}
def tAnd (t u : TT) : TT := fun σ H Q => t σ H fun c H1 => if c = true then u σ H1 Q else Q false H1
def tOr (t u : TT) : TT := fun σ H Q => t σ H fun c H1 => if c = true then Q true H1 else u σ H1 Q
def tNot (t : TT) : TT := fun σ H Q => t σ H fun c H1 => Q (!c) H1
theorem pw_and1 (ha : PT X a tA) : PW X (.BoolOp .And [a] pos) tA := by
  intro wh pins s σ H Q I h
  refine isTrue_and (thn (ha pins s σ H Q I h) fun c s1 e => ?_)
  cases c with
  | true => exact isTrue_and_nil e
  | false => exact e
theorem pw_or1 (ha : PT X a tA) : PW X (.BoolOp .Or [a] pos) tA := by
  intro wh pins s σ H Q I h
  refine isTrue_or (thn (ha pins s σ H Q I h) fun c s1 e => ?_)
  cases c with
  | false => exact isTrue_or_nil e
  | true => exact e
theorem pw_and (ha : PT X a tA) (hb : PW X (.BoolOp .And (b :: rest) pos) tB') : PW X (.BoolOp .And (a :: b :: rest) pos) (tAnd tA tB') := by
  intro wh pins s σ H Q I h
  refine isTrue_and (thn (ha pins s σ H _ I h) fun c s1 ⟨H1, I1, q1⟩ => ?_)
  cases c with
  | true => exact hb wh pins s1 σ H1 Q I1 q1
  | false => exact ⟨H1, I1, q1⟩
theorem pw_or (ha : PT X a tA) (hb : PW X (.BoolOp .Or (b :: rest) pos) tB') : PW X (.BoolOp .Or (a :: b :: rest) pos) (tOr tA tB') := by
  intro wh pins s σ H Q I h
  refine isTrue_or (thn (ha pins s σ H _ I h) fun c s1 ⟨H1, I1, q1⟩ => ?_)
  cases c with
  | true => exact ⟨H1, I1, q1⟩
  | false => exact hb wh pins s1 σ H1 Q I1 q1
theorem pt_not (ha : PT X a tA) : PT X (.UnaryOp .Not a pos) (tNot tA) := by
  intro pins s σ H Q I h
  exact isTrue_not (ha pins s σ H (fun c H1 => Q (!c) H1) I h)
/-- .. as values (bools) -/
def tAndV (ta tb : TE) : TE := fun σ H Q => ta σ H fun x H1 => ∃ c, x = .bl c ∧ if c = true then tb σ H1 Q else Q (.bl false) H1
def tOrV (ta tb : TE) : TE := fun σ H Q => ta σ H fun x H1 => ∃ c, x = .bl c ∧ if c = true then Q (.bl true) H1 else tb σ H1 Q
def tNotV (ta : TE) : TE := fun σ H Q => ta σ H fun x H1 => ∃ c, x = .bl c ∧ Q (.bl (!c)) H1
theorem pe_one {op} {t : TE} (h : PE X a t) : PE X (.BoolOp op [a] pos) t := fun pins s σ H Q I hw => BoolOp_one (h pins s σ H Q I hw)
theorem pe_and (ha : PE X a ta) (hb : PE X (.BoolOp .And (b :: rest) pos) tb) : PE X (.BoolOp .And (a :: b :: rest) pos) (tAndV ta tb) := by
  intro pins s σ H Q I h
  refine BoolOp_and (thn (ha pins s σ H _ I h) fun v s1 ⟨x, H1, I1, r1, q1⟩ => ?_)
  obtain ⟨c, rfl, q1⟩ := q1
  cases r1
  refine wpAny_truthy_bool ?_
  cases c with
  | true => exact hb pins s1 σ H1 Q I1 q1
  | false => exact ⟨.bl false, H1, I1, rfl, q1⟩
theorem pe_or (ha : PE X a ta) (hb : PE X (.BoolOp .Or (b :: rest) pos) tb) : PE X (.BoolOp .Or (a :: b :: rest) pos) (tOrV ta tb) := by
  intro pins s σ H Q I h
  refine BoolOp_or (thn (ha pins s σ H _ I h) fun v s1 ⟨x, H1, I1, r1, q1⟩ => ?_)
  obtain ⟨c, rfl, q1⟩ := q1
  cases r1
  refine wpAny_truthy_bool ?_
  cases c with
  | false => exact hb pins s1 σ H1 Q I1 q1
  | true => exact ⟨.bl true, H1, I1, rfl, q1⟩
theorem pe_not (ha : PE X a ta) : PE X (.UnaryOp .Not a pos) (tNotV ta) := by
  intro pins s σ H Q I h
  refine UnaryOp_ (thn (ha pins s σ H _ I h) fun v s1 ⟨x, H1, I1, r1, q1⟩ => ?_)
  obtain ⟨c, rfl, q1⟩ := q1
  cases r1
  exact not_of (wpAny_truthy_bool ⟨.bl (!c), H1, I1, rfl, q1⟩)
/-- a if t else b -/
def tIf (t : TT) (ta tb : TE) : TE := fun σ H Q => t σ H fun c H1 => if c = true then ta σ H1 Q else tb σ H1 Q
theorem pe_ifExp {c : Expr} (hc : PT X c tA) (ha : PE X a ta) (hb : PE X b tb) : PE X (.IfExp c a b pos) (tIf tA ta tb) := by
  intro pins s σ H Q I h
  refine wpAny_IfExp (thn (hc pins s σ H _ I h) fun d s1 ⟨H1, I1, q1⟩ => ?_)
  cases d with
  | true => exact ha pins s1 σ H1 Q I1 q1
  | false => exact hb pins s1 σ H1 Q I1 q1
end
end L2

namespace L2
open PySem PySem.Spec PyProof.Rows

/-! ### a list, a tuple that is read: tracked, frozen, or an object of the module -/
def SqL (K : PySem.W.Frag) (H : Hp) (a : Addr) (xs : List V) : Prop :=
  Rd H a (.lst xs) ∨
    ∃ (o : Obj) (its : Array Value) (n : Nat), K.lookup a = some o ∧ o.cls = .type "list" ∧ o.dict = none ∧ o.data = .seq its n ∧ its.size ≤ sizeLine ∧ Vals xs its.toList
def SqT (K : PySem.W.Frag) (H : Hp) (a : Addr) (xs : List V) : Prop :=
  Rd H a (.tup xs) ∨
    ∃ (o : Obj) (its : Array Value) (n : Nat), K.lookup a = some o ∧ o.cls = .type "tuple" ∧ o.data = .seq its n ∧ its.size ≤ sizeLine ∧ Vals xs its.toList
def absV : Value → Option V
  | .none => some .non
  | .bool b => some (.bl b)
  | .int i _ => some (.int i)
  | .str x _ => some (.str x)
  | .bytes b _ => some (.byt b)
  | .float b _ => some (.flt b)
  | .ref a => some (.ref a)
  | .type n => some (.ty n)
  | _ => none
theorem RelV.abs {x : V} {u : Value} (r : RelV x u) : absV u = some x := by
  cases x with
  | non => cases r; rfl
  | bl _ => cases r; rfl
  | int _ => obtain ⟨t, rfl⟩ := r; rfl
  | str _ => obtain ⟨t, rfl⟩ := r; rfl
  | byt _ => obtain ⟨t, rfl⟩ := r; rfl
  | flt _ => obtain ⟨t, rfl⟩ := r; rfl
  | ref _ => cases r; rfl
  | ty _ => cases r; rfl
theorem RelV.inj {x y : V} {u : Value} (r : RelV x u) (q : RelV y u) : x = y := Option.some.inj (r.abs.symm.trans q.abs)
theorem Vals.inj : ∀ {xs ys : List V} {us : List Value}, Vals xs us → Vals ys us → xs = ys
  | _, _, _, .nil, .nil => rfl
  | _, _, _, .cons r t, .cons r' t' => by rw [r.inj r', Vals.inj t t']
section
variable {X : Cx} {pins : List (Addr × Obj)} {σ : St} {H : Hp} {s : Shared} {a : Addr} {xs ys : List V}
theorem SqL.of {K : PySem.W.Frag} (h : H a = some (.lst xs)) : SqL K H a xs := .inl (.inl h)
theorem SqT.of {K : PySem.W.Frag} (h : H a = some (.tup xs)) : SqT K H a xs := .inl (.inl h)
theorem Inv.list (I : Inv X pins σ H s) (h : SqL X.K H a xs) : ∃ its : List Value, Vals xs its ∧ PlainL s.heap a its.toArray ∧ xs.length ≤ sizeLine := by
  rcases h with h | ⟨o, its, n, hk, hc, hd, hs, hz, r⟩
  · obtain ⟨z, its, n, r, e⟩ := h.ok I.hok
    exact ⟨its, r, ⟨_, n, e, rfl, rfl, rfl⟩, z⟩
  · refine ⟨its.toList, r, ⟨o, n, I.kIn a o hk, hc, hd, by simpa using hs⟩, ?_⟩
    have e := r.length
    simp only [Array.length_toList] at e
    omega
theorem Inv.tuple (I : Inv X pins σ H s) (h : SqT X.K H a xs) : ∃ its : List Value, Vals xs its ∧ IsTup s.heap a its.toArray ∧ xs.length ≤ sizeLine := by
  rcases h with h | ⟨o, its, n, hk, hc, hs, hz, r⟩
  · obtain ⟨z, its, r, p⟩ := h.ok I.hok
    exact ⟨its, r, p, z⟩
  · refine ⟨its.toList, r, ⟨o, I.kIn a o hk, hc, n, by simpa using hs⟩, ?_⟩
    have e := r.length
    simp only [Array.length_toList] at e
    omega
theorem Inv.list_inj (I : Inv X pins σ H s) (h : SqL X.K H a xs) (h' : SqL X.K H a ys) : xs = ys := by
  obtain ⟨its, r, ⟨o, n, e, _, _, d⟩, _⟩ := I.list h
  obtain ⟨its', r', ⟨o', n', e', _, _, d'⟩, _⟩ := I.list h'
  rw [e] at e'; cases e'
  rw [d] at d'
  injection d' with d1 _
  have : its = its' := by simpa using congrArg Array.toList d1
  subst this
  exact r.inj r'
theorem Inv.tuple_inj (I : Inv X pins σ H s) (h : SqT X.K H a xs) (h' : SqT X.K H a ys) : xs = ys := by
  obtain ⟨its, r, ⟨o, e, _, n, d⟩, _⟩ := I.tuple h
  obtain ⟨its', r', ⟨o', e', _, n', d'⟩, _⟩ := I.tuple h'
  rw [e] at e'; cases e'
  rw [d] at d'
  injection d' with d1 _
  have : its = its' := by simpa using congrArg Array.toList d1
  subst this
  exact r.inj r'
end

/-! ### another wish about exceptions -/
abbrev Cx.wish (X : Cx) (E : Value → Shared → Prop) : Cx := { X with xe := E }
/-- no exception leaves -/
abbrev Cx.nox (X : Cx) : Cx := X.wish fun _ _ => False
theorem Cx.Ok.wish {X : Cx} (ok : X.Ok) (E : Value → Shared → Prop) : (X.wish E).Ok :=
  ⟨ok.mod, ok.kind, ok.glob, ok.blt, ok.above, ok.inj, ok.has, ok.cab, ok.hd, ok.frames, ok.stk, ok.exf, ok.bs, ok.bsz, ok.noex, ok.exfs, ok.funs, ok.frf⟩
theorem Cx.Ok.unwish {X : Cx} {E : Value → Shared → Prop} (ok : (X.wish E).Ok) : X.Ok :=
  ⟨ok.mod, ok.kind, ok.glob, ok.blt, ok.above, ok.inj, ok.has, ok.cab, ok.hd, ok.frames, ok.stk, ok.exf, ok.bs, ok.bsz, ok.noex, ok.exfs, ok.funs, ok.frf⟩
section
variable {X : Cx} {pins : List (Addr × Obj)} {σ : St} {H : Hp} {s : Shared} {E : Value → Shared → Prop}
theorem Inv.wish (I : Inv X pins σ H s) (E : Value → Shared → Prop) : Inv (X.wish E) pins σ H s := ⟨I.ok.wish E, I.os, I.bare, I.base, I.loc, I.cell, I.free, I.freeC, I.pin, I.hok, I.len⟩
theorem Inv.unwish (I : Inv (X.wish E) pins σ H s) : Inv X pins σ H s := ⟨I.ok.unwish, I.os, I.bare, I.base, I.loc, I.cell, I.free, I.freeC, I.pin, I.hok, I.len⟩
theorem SP.unwish {D : Ends} {f : Flow} {s' : Shared} (h : SP (X.wish E) pins D f s') : SP X pins D f s' := by
  cases f with
  | next => obtain ⟨σ', H', I, q⟩ := h; exact ⟨σ', H', I.unwish, q⟩
  | brk => obtain ⟨σ', H', I, q⟩ := h; exact ⟨σ', H', I.unwish, q⟩
  | cont => obtain ⟨σ', H', I, q⟩ := h; exact ⟨σ', H', I.unwish, q⟩
  | ret u => obtain ⟨v, σ', H', I, r, q⟩ := h; exact ⟨v, σ', H', I.unwish, r, q⟩
theorem PE.nox {e : Expr} {t : TE} (h : PE X.nox e t) : PE X e t := fun pins s σ H Q I hw =>
  wpAny_mono (h pins s σ H Q (I.wish _) hw) (fun _ _ ⟨v, H', I', r, q⟩ => ⟨v, H', I'.unwish, r, q⟩) fun _ _ z => False.elim z
theorem PT.nox {e : Expr} {t : TT} (h : PT X.nox e t) : PT X e t := fun pins s σ H Q I hw =>
  wpAny_mono (h pins s σ H Q (I.wish _) hw) (fun _ _ ⟨H', I', q⟩ => ⟨H', I'.unwish, q⟩) fun _ _ z => False.elim z
theorem PSs.nox {st : List Stmt} {t : TS} (h : PSs X.nox st t) : PSs X st t := fun pins s σ H D I hw =>
  wpAny_mono (h pins s σ H D (I.wish _) hw) (fun _ _ q => q.unwish) fun _ _ z => False.elim z
end

/-! ### blocks and small statements -/
section
variable {X : Cx} {st : Stmt} {rest : List Stmt} {t u : TS} {e : Expr} {te : TE} {pos : Pos}
def tNext : TS := fun D σ H => D.nx σ H
def tSeq (t u : TS) : TS := fun D σ H => t { D with nx := u D } σ H
theorem pss_nil : PSs X [] tNext := fun _ _ σ H _ I h => wpAny_execs_nil ⟨σ, H, I, h⟩
theorem pss_cons (h1 : PS X st t) (h2 : PSs X rest u) : PSs X (st :: rest) (tSeq t u) := by
  intro pins s σ H D I h
  refine wpAny_execs_cons (thn (h1 pins s σ H { D with nx := u D } I h) fun f s1 q => ?_)
  cases f with
  | next =>
    obtain ⟨σ', H', I', q⟩ := q
    exact h2 pins s1 σ' H' D I' q
  | ret v => exact q
  | brk => exact q
  | cont => exact q
theorem pss_one (h1 : PS X st t) : PSs X [st] t := by
  intro pins s σ H D I h
  refine wpAny_execs_cons (thn (h1 pins s σ H D I h) fun f s1 q => ?_)
  cases f with
  | next => exact wpAny_execs_nil q
  | ret v => exact q
  | brk => exact q
  | cont => exact q
def tBreak : TS := fun D σ H => D.bk σ H
def tCont : TS := fun D σ H => D.ct σ H
theorem ps_pass : PS X (.Pass pos) tNext := fun _ _ σ H _ I h => wpAny_Pass ⟨σ, H, I, h⟩
theorem ps_break : PS X (.Break pos) tBreak := fun _ _ σ H _ I h => wpAny_Break ⟨σ, H, I, h⟩
theorem ps_continue : PS X (.Continue pos) tCont := fun _ _ σ H _ I h => wpAny_Continue ⟨σ, H, I, h⟩
/-- in a def's body nothing is shown -/
theorem Inv.quiet {pins : List (Addr × Obj)} {σ : St} {H : Hp} {s : Shared} (I : Inv X pins σ H s) : interactive X.env = false := by simp [interactive, I.ok.kind]
/-- a docstring -/
theorem ps_doc {x j pos pos'} : PS X (.Expr (.Constant (.str x) j pos) pos') tNext := fun _ s σ H _ I h => wpAny_Expr (Calls.Constant_str (show SP X _ _ .next { s with toks := s.toks + 1 } from ⟨σ, H, I.tok _, h⟩)) I.quiet
/-- an expression whose value is dropped -/
def tDrop (te : TE) : TS := fun D σ H => te σ H fun _ H1 => D.nx σ H1
theorem ps_expr (he : PE X e te) (hs : swapsWith e none pos.line X.env = pure false := by rfl) : PS X (.Expr e pos) (tDrop te) := by
  intro pins s σ H D I h
  exact wpAny_Expr_any (thn (he pins s σ H _ I h) fun v s1 ⟨x, H1, I1, r1, q1⟩ => ⟨σ, H1, I1, q1⟩) I.quiet hs
def tRet (te : TE) : TS := fun D σ H => te σ H D.rt
theorem ps_ret (he : PE X e te) : PS X (.Return (some e) pos) (tRet te) := by
  intro pins s σ H D I h
  exact wpAny_Return_some (thn (he pins s σ H _ I h) fun v s1 ⟨x, H1, I1, r1, q1⟩ => ⟨x, σ, H1, I1, r1, q1⟩)
def tRetN : TS := fun D _ H => D.rt .non H
theorem ps_retN : PS X (.Return none pos) tRetN := fun _ _ σ H _ I h => wpAny_Return_none ⟨.non, σ, H, I, rfl, h⟩
def tIfS (c : TT) (t u : TS) : TS := fun D σ H => c σ H fun b H1 => if b = true then t D σ H1 else u D σ H1
theorem ps_if {c : Expr} {a b : List Stmt} {tc : TT} (hc : PT X c tc) (ha : PSs X a t) (hb : PSs X b u) : PS X (.If c a b pos) (tIfS tc t u) := by
  intro pins s σ H D I h
  refine wpAny_If (thn (hc pins s σ H _ I h) fun d s1 ⟨H1, I1, q1⟩ => ?_)
  cases d with
  | true => exact ha pins s1 σ H1 D I1 q1
  | false => exact hb pins s1 σ H1 D I1 q1
/-- code that the proof never comes to -/
def tNever : TS := fun _ _ _ => False
theorem ps_never : PS X st tNever := fun _ _ _ _ _ _ h => h.elim
theorem pss_never {sts : List Stmt} : PSs X sts tNever := fun _ _ _ _ _ _ h => h.elim
end

/-! ### targets -/
abbrev TG := V → St → Hp → (St → Hp → Prop) → Prop
abbrev TGs := List V → St → Hp → (St → Hp → Prop) → Prop
def PG (X : Cx) (target : Expr) (t : TG) : Prop :=
  ∀ (pins : List (Addr × Obj)) (s : Shared) (σ : St) (H : Hp) (v : V) (u : Value) (Q : St → Hp → Prop), Inv X pins σ H s → RelV v u → t v σ H Q →
    wpAny (model X.prog X.w) X.A (assign target X.env u) (fun _ s' => ∃ σ' H', Inv X pins σ' H' s' ∧ Q σ' H') X.xe s
/-- several targets, one after another -/
def PGs (X : Cx) (ts : List Expr) (t : TGs) : Prop :=
  ∀ (pins : List (Addr × Obj)) (s : Shared) (σ : St) (H : Hp) (vs : List V) (us : List Value) (Q : St → Hp → Prop), Inv X pins σ H s → Vals vs us → t vs σ H Q →
    wpAny (model X.prog X.w) X.A (assignInOrder ((assignEach ts X.env).map (·.2)) us) (fun _ s' => ∃ σ' H', Inv X pins σ' H' s' ∧ Q σ' H') X.xe s
/-- o[i] = v, by values -/
abbrev TSet := V → V → V → Hp → (Hp → Prop) → Prop
def PSet (X : Cx) (t : TSet) : Prop :=
  ∀ (pins : List (Addr × Obj)) (s : Shared) (σ : St) (H : Hp) (o i v : V) (ov iv u : Value) (Q : Hp → Prop), Inv X pins σ H s → RelV o ov → RelV i iv → RelV v u → t o i v H Q →
    wpAny (model X.prog X.w) X.A (setItem ov iv u) (fun _ s' => ∃ H', Inv X pins σ H' s' ∧ Q H') X.xe s
/-- a op= b, by values -/
abbrev TIp := V → V → Hp → VK → Prop
def PIp (X : Cx) (op : Operator) (t : TIp) : Prop :=
  ∀ (pins : List (Addr × Obj)) (s : Shared) (σ : St) (H : Hp) (x y : V) (v u : Value) (Q : VK), Inv X pins σ H s → RelV x v → RelV y u → t x y H Q →
    wpAny (model X.prog X.w) X.A (inplaceOp op v u) (EP X pins σ Q) X.xe s
section
variable {X : Cx} {pos : Pos}
def gName (i : Nat) : TG := fun v σ H Q => Q (σ.set i (some v)) H
theorem pg_name {i : Nat} {x : Str} (hN : X.N.Nodup) (hi : X.N[i]? = some x) (hx : Loc X.env.scope x) (hf : X.fn x = true ∨ X.env.scope.names.lookup x = some .local := by first | exact .inl rfl | exact .inr rfl | assumption) : PG X (.Name x pos) (gName i) := by
  intro pins s σ H v u Q I r h
  exact wpAny_assign_Name (store_ok I hN hi hx r (fun s' I' => ⟨_, H, I', h⟩) hf)
def gNil : TGs := fun vs σ H Q => vs = [] ∧ Q σ H
def gCons (t : TG) (u : TGs) : TGs := fun vs σ H Q => ∃ v r, vs = v :: r ∧ t v σ H fun σ' H' => u r σ' H' Q
theorem pgs_nil : PGs X [] gNil := by
  intro pins s σ H vs us Q I r h
  obtain ⟨e, h⟩ := h
  subst e
  cases r
  exact assignInOrder_nil ⟨σ, H, I, h⟩
theorem pgs_cons {e : Expr} {es : List Expr} {t : TG} {u : TGs} (h1 : PG X e t) (h2 : PGs X es u)
    (hs : (assignEach (e :: es) X.env).map (·.2) = assign e X.env :: (assignEach es X.env).map (·.2) := by rfl) : PGs X (e :: es) (gCons t u) := by
  intro pins s σ H vs us Q I r h
  obtain ⟨v, vr, e1, h⟩ := h
  subst e1
  cases r with
  | cons r rr =>
    rw [hs]
    refine assignInOrder_cons (thn (h1 pins s σ H _ _ _ I r h) fun _ s1 ⟨σ1, H1, I1, q1⟩ => ?_)
    exact h2 pins s1 σ1 H1 _ _ Q I1 rr q1
/-- (a, b, ..) = a tuple of that length -/
def gTup (K : PySem.W.Frag) (n : Nat) (t : TGs) : TG := fun v σ H Q => ∃ a xs, v = .ref a ∧ SqT K H a xs ∧ xs.length = n ∧ t xs σ H Q
theorem pg_tup {es : List Expr} {k : Nat} {t : TGs} {n : Nat} (hc : X.calm = true) (h : PGs X es t)
    (hn : (assignEach es X.env).length = n := by rfl) (hst : (assignEach es X.env).findIdx? (·.1) = none := by rfl) : PG X (.Tuple es k pos) (gTup X.K n t) := by
  intro pins s σ H v u Q I r hw
  obtain ⟨a, xs, e1, hq, hl, hw⟩ := hw
  subst e1
  cases r
  obtain ⟨its, rv, ht, hz⟩ := I.tuple hq
  refine assign_Tuple_tuple (I.ok.hd hc) ht (by simp [hn, ← hl, rv.length]) hst fun h' hx => ?_
  have I1 : Inv X pins σ H { s with heap := h' } := I.kept (t' := s.toks) fun b o e => hx b o (Nat.ne_of_lt (Heap.lt_size e)) e
  exact h pins _ σ H xs _ Q I1 (by simpa using rv) hw
/-- o[i] = .. -/
def gSub (to ti : TE) (t : TSet) : TG := fun v σ H Q => to σ H fun o H1 => ti σ H1 fun i H2 => t o i v H2 fun H3 => Q σ H3
theorem pg_sub {o i : Expr} {to ti : TE} {t : TSet} (ho : PE X o to) (hi : PE X i ti) (hs : PSet X t)
    (ha : ∀ v, assign (.Subscript o i pos) X.env v = (do
      let ov ← holding [v] (eval o X.env)
      let iv ← holding [v, ov] (eval i X.env)
      standAt pos
      holding [v, ov, iv] (setItem ov iv v)
      release [v, ov, iv] []) := by intro _; rfl) : PG X (.Subscript o i pos) (gSub to ti t) := by
  intro pins s σ H v u Q I r h
  rw [ha]
  refine wpAny_bind (wpAny_holding (thn (ho pins s σ H _ I h) fun ov s1 ⟨x, H1, I1, r1, q1⟩ => ?_))
  refine wpAny_bind (wpAny_holding (thn (hi pins s1 σ H1 _ I1 q1) fun iv s2 ⟨y, H2, I2, r2, q2⟩ => ?_))
  refine wpAny_bind (wpAny_standAt (wpAny_bind (wpAny_holding (thn (hs pins s2 σ H2 x y v ov iv u _ I2 r1 r2 r q2) fun _ s3 ⟨H3, I3, q3⟩ => ?_))))
  exact wpAny_release ⟨σ, H3, I3, q3⟩
/-- target = value -/
def tAsg (te : TE) (g : TG) : TS := fun D σ H => te σ H fun x H1 => g x σ H1 D.nx
theorem ps_asg {tg e : Expr} {te : TE} {g : TG} (he : PE X e te) (hg : PG X tg g) (hs : swapsWithSole [tg] e pos.line X.env = pure false := by rfl) (hw : swappedStores [tg] e X.env = pure none := by rfl)
    (h1 : (assignEach [tg] X.env).map (·.2) = [assign tg X.env] := by rfl) : PS X (.Assign [tg] e pos) (tAsg te g) := by
  intro pins s σ H D I h
  refine wpAny_Assign_stores (thn (he pins s σ H _ I h) fun v s1 ⟨x, H1, I1, r1, q1⟩ => ?_) hs hw
  rw [h1]
  exact thn (hg pins s1 σ H1 x v _ I1 r1 q1) fun _ s2 q => q
/-- name = value -/
theorem ps_set {i : Nat} {x : Str} {e : Expr} {te : TE} {pos' : Pos} (hN : X.N.Nodup) (hi : X.N[i]? = some x) (hx : Loc X.env.scope x) (he : PE X e te) (hs : swapsWith e (some (.Name x pos')) pos.line X.env = pure false := by rfl) (hf : X.fn x = true ∨ X.env.scope.names.lookup x = some .local := by first | exact .inl rfl | exact .inr rfl | assumption) :
    PS X (.Assign [.Name x pos'] e pos) (tAsg te (gName i)) := by
  intro pins s σ H D I h
  refine wpAny_Assign_Name (thn (he pins s σ H _ I h) fun v s1 ⟨y, H1, I1, r1, q1⟩ => ?_) hs
  exact store_ok I1 hN hi hx r1 (fun s2 I2 => ⟨_, H1, I2, q1⟩) hf
/-- a, b = x, y with plain local names: stored from the right; the pair itself is not tracked (the opening rows as in PyProof/Rows/TupAssign.lean:23) -/
def tPar (i j : Nat) (ta : TA) : TS := fun D σ H => ta σ H fun vs H1 => ∃ v w, vs = [v, w] ∧ D.nx ((σ.set i (some v)).set j (some w)) H1
theorem ps_par {i j : Nat} {x y : Str} {a b : Expr} {ta : TA} {px py pt : Pos} {kt k2 pt2} (hc : X.calm = true) (hN : X.N.Nodup) (hi : X.N[i]? = some x) (hj : X.N[j]? = some y) (hij : i ≠ j)
    (hx : X.env.scope.names.lookup x = some .local) (hy : X.env.scope.names.lookup y = some .local) (ha : PA X [a, b] ta)
    (hw : swappedStores [.Tuple [.Name x px, .Name y py] kt pt] (.Tuple [a, b] k2 pt2) X.env = pure (some [x, y]))
    (hs : swapsWithSole [.Tuple [.Name x px, .Name y py] kt pt] (.Tuple [a, b] k2 pt2) pos.line X.env = pure false := by rfl) :
    PS X (.Assign [.Tuple [.Name x px, .Name y py] kt pt] (.Tuple [a, b] k2 pt2) pos) (tPar i j ta) := by
  intro pins s σ H D I h
  rw [exec_Assign_arm]
  refine wpAny_bind (wpAny_standAt ?_)
  rw [hs]
  refine wpAny_bind (wpAny_pure ?_)
  rw [if_neg (by decide)]
  refine wpAny_bind (Tuple_ (thn (ha _ pins s σ H _ I h) fun us s1 ⟨vs, H1, I1, r1, q1⟩ => ?_))
  obtain ⟨v, w, e1, q1⟩ := q1
  subst e1
  obtain ⟨u1, u2, rfl, rv, rw'⟩ : ∃ u1 u2, us = [u1, u2] ∧ RelV v u1 ∧ RelV w u2 := by
    cases r1 with
    | cons p q =>
      cases q with
      | cons p' q' =>
        cases q'
        exact ⟨_, _, rfl, p, p'⟩
  refine wpAny_newObj_type ?_ (by show 2 ≤ sizeLine; decide)
  have I2 : Inv X pins σ H1 { s1 with heap := s1.heap.push { cls := .type "tuple", data := .seq [u1, u2].toArray } } := I1.kept (t' := s1.toks) fun b o e => Heap.get?_push_of_some _ e
  rw [hw]
  refine wpAny_bind (wpAny_pure ?_)
  show wpAny (model X.prog X.w) X.A (do rule "assign.swapped-stores"; let items ← unpackItems (.ref s1.heap.objs.size) 2 none; assignInOrder [fun v => bindName X.env y v, fun v => bindName X.env x v] items.reverse; pure Flow.next) _ _ _
  refine wpAny_bind (wpAny_rule (wpAny_bind (unpackItems_tuple (items := #[u1, u2]) (I.ok.hd hc) (IsTup.new s1.heap _) fun h' hx' => ?_)))
  have I3 := I2.kept (h' := h') (t' := s1.toks) fun b o e => hx' b o (Nat.ne_of_lt (Heap.lt_size e)) e
  show wpAny _ _ (assignInOrder [fun v => bindName X.env y v, fun v => bindName X.env x v] [u2, u1] >>= fun _ => pure Flow.next) _ _ _
  refine wpAny_bind (assignInOrder_cons (wpAny_bindName (store_ok I3 hN hj (.inl hy) rw' (fun s2 I4 => ?_) (.inr hy))))
  refine assignInOrder_cons (wpAny_bindName (store_ok I4 hN hi (.inl hx) rv (fun s3 I5 => assignInOrder_nil (wpAny_pure ?_)) (.inr hx)))
  rw [List.set_comm _ _ (Ne.symm hij)] at I5
  exact ⟨_, H1, I5, q1⟩
/-- name op= e -/
def tAug (i : Nat) (te : TE) (ti : TIp) : TS := fun D σ H => ∃ x, σ[i]? = some (some x) ∧ te σ H fun y H1 => ti x y H1 fun z H2 => D.nx (σ.set i (some z)) H2
theorem ps_aug {i : Nat} {x : Str} {e : Expr} {te : TE} {op : Operator} {ti : TIp} {pos' : Pos} (hN : X.N.Nodup) (hi : X.N[i]? = some x) (hx : Loc X.env.scope x) (he : PE X e te) (ho : PIp X op ti) (hf : X.fn x = true ∨ X.env.scope.names.lookup x = some .local := by first | exact .inl rfl | exact .inr rfl | assumption) :
    PS X (.AugAssign (.Name x pos') op e pos) (tAug i te ti) := by
  intro pins s σ H D I h
  obtain ⟨v, e1, h⟩ := h
  obtain ⟨m, hn, hl⟩ := I.loc
  have vis : Vis X.env.scope x := by rcases hx with k | k; exact .inl k; exact .inr (.inl k)
  obtain ⟨u, r, l⟩ := hl i x v hi e1 vis
  refine wpAny_AugAssign_Name ?_
  have go : wpAny (model X.prog X.w) X.A (eval e X.env) (fun w s₂ => wpAny (model X.prog X.w) X.A (inplaceOp op u w) (fun r s₃ => wpAny (model X.prog X.w) X.A (storeName X.env x r) (fun _ => SP X pins D .next) X.xe s₃) X.xe s₂) X.xe s := by
    refine thn (he pins s σ H _ I h) fun w s1 ⟨y, H1, I1, r1, q1⟩ => ?_
    refine thn (ho pins s1 σ H1 v y u w _ I1 r r1 q1) fun z s2 ⟨zv, H2, I2, r2, q2⟩ => ?_
    exact store_ok I2 hN hi hx r2 (fun s3 I3 => ⟨_, H2, I3, q2⟩) hf
  rcases l with ⟨hk, hm⟩ | ⟨hk, c, hc, hcell⟩
  · exact wpAny_loadName_local I.ok.kind hk hn hm go
  · rcases hk with hk | hk
    · exact wpAny_loadName_cell I.ok.kind hk hc hcell go
    · rcases hx with k | k
      · have : X.env.scope.names.lookup x = some .free := hk
        rw [k] at this; cases this
      · have : X.env.scope.names.lookup x = some .free := hk
        rw [k] at this; cases this
/-- o[i] op= e -/
def tAugS (to ti te : TE) (tget : V → V → Hp → VK → Prop) (tip : TIp) (tset : TSet) : TS := fun D σ H => to σ H fun o H1 => ti σ H1 fun i H2 => tget o i H2 fun x H3 => te σ H3 fun y H4 => tip x y H4 fun z H5 => tset o i z H5 fun H6 => D.nx σ H6
/-- o[i], by values -/
def PGet (X : Cx) (t : V → V → Hp → VK → Prop) : Prop :=
  ∀ (pins : List (Addr × Obj)) (s : Shared) (σ : St) (H : Hp) (o i : V) (ov iv : Value) (Q : VK), Inv X pins σ H s → RelV o ov → RelV i iv → t o i H Q →
    wpAny (model X.prog X.w) X.A (getItem ov iv) (EP X pins σ Q) X.xe s
theorem ps_augS {o i e : Expr} {to ti te : TE} {tget : V → V → Hp → VK → Prop} {tip : TIp} {tset : TSet} {op : Operator} {tpos : Pos} (ho : PE X o to) (hi : PE X i ti) (hg : PGet X tget) (he : PE X e te) (hp : PIp X op tip) (hs : PSet X tset)
    (ha : ∀ ov iv new, augStore i ov iv new = (do holding [new, ov, iv] (setItem ov iv new); release [new, ov, iv] []; pure .next) := by intros; rfl) : PS X (.AugAssign (.Subscript o i tpos) op e pos) (tAugS to ti te tget tip tset) := by
  intro pins s σ H D I h
  refine wpAny_AugAssign_SubscriptAny (thn (ho pins s σ H _ I h) fun ov s1 ⟨x1, H1, I1, r1, q1⟩ => ?_) ha
  refine thn (hi pins s1 σ H1 _ I1 q1) fun iv s2 ⟨x2, H2, I2, r2, q2⟩ => ?_
  refine thn (hg pins s2 σ H2 x1 x2 ov iv _ I2 r1 r2 q2) fun old s3 ⟨x3, H3, I3, r3, q3⟩ => ?_
  refine thn (he pins s3 σ H3 _ I3 q3) fun v s4 ⟨x4, H4, I4, r4, q4⟩ => ?_
  refine thn (hp pins s4 σ H4 x3 x4 old v _ I4 r3 r4 q4) fun new s5 ⟨x5, H5, I5, r5, q5⟩ => ?_
  exact thn (hs pins s5 σ H5 x1 x2 x5 ov iv new _ I5 r1 r2 r5 q5) fun _ s6 ⟨H6, I6, q6⟩ => ⟨σ, H6, I6, q6⟩
/-- ints -/
def ipI (f : Int → Int → Int) : TIp := fun x y H Q => ∃ i j, x = .int i ∧ y = .int j ∧ Q (.int (f i j)) H
theorem ip_add : PIp X .Add (ipI fun i j => i + j) := by
  intro pins s σ H x y v u Q I r1 r2 h
  obtain ⟨i, j, e1, e2, q⟩ := h
  subst e1; subst e2
  obtain ⟨t, rfl⟩ := r1
  obtain ⟨t', rfl⟩ := r2
  exact iadd_int ⟨.int _, H, I.tok _, ⟨_, rfl⟩, q⟩
theorem ip_sub : PIp X .Sub (ipI fun i j => i - j) := by
  intro pins s σ H x y v u Q I r1 r2 h
  obtain ⟨i, j, e1, e2, q⟩ := h
  subst e1; subst e2
  obtain ⟨t, rfl⟩ := r1
  obtain ⟨t', rfl⟩ := r2
  exact isub_int ⟨.int _, H, I.tok _, ⟨_, rfl⟩, q⟩
end

/-! ### while -/
section
variable {X : Cx} {pos : Pos}
/-- the invariant W with its measure -/
def tWhile (c : TT) (tb : TS) : TS := fun D σ H => ∃ W : Nat → St → Hp → Prop, (∃ m, W m σ H) ∧ ∀ m σ H, W m σ H →
  c σ H fun b H1 => if b = true then ∃ N : St → Hp → Prop, (∀ σ' H', N σ' H' → ∃ m', m' < m ∧ W m' σ' H') ∧ tb { D with nx := N, ct := N, bk := D.nx } σ H1 else D.nx σ H1
theorem ps_while {c : Expr} {body : List Stmt} {tc : TT} {tb : TS} (hp : PassesOwn (model X.prog X.w) X.A X.env X.xe) (hc : PT X c tc) (hb : PSs X body tb) : PS X (.While c body [] pos) (tWhile tc tb) := by
  intro pins s σ H D I h
  obtain ⟨W, ⟨m0, w0⟩, turn⟩ := h
  refine wpAny_While (codeAny_whileLoop (fun n s' => ∃ σ' H', Inv X pins σ' H' s' ∧ W n σ' H') ?_ m0 ⟨σ, H, I, w0⟩)
  rintro n s1 ⟨σ1, H1, I1, w1⟩
  refine wpAny_passesOwn hp (thn (hc pins s1 σ1 H1 _ I1 (turn n σ1 H1 w1)) fun b s2 ⟨H2, I2, q2⟩ => ?_)
  cases b with
  | true =>
    obtain ⟨N, hN, q2⟩ := q2
    rw [if_pos rfl]
    refine wpAny_passesOwn hp (thn (hb pins s2 σ1 H2 _ I2 q2) fun f s3 q3 => ?_)
    cases f with
    | next =>
      obtain ⟨σ3, H3, I3, n3⟩ := q3
      obtain ⟨m', hm, w3⟩ := hN σ3 H3 n3
      exact ⟨m', hm, σ3, H3, I3, w3⟩
    | cont =>
      obtain ⟨σ3, H3, I3, n3⟩ := q3
      obtain ⟨m', hm, w3⟩ := hN σ3 H3 n3
      exact ⟨m', hm, σ3, H3, I3, w3⟩
    | brk => exact q3
    | ret v => exact q3
  | false =>
    rw [if_neg Bool.false_ne_true]
    exact wpAny_execs_nil ⟨σ1, H2, I2, q2⟩
end

/-! ### what a loop or a comprehension walks -/
/-- at turn i: it yields x (the heap may grow), or it stops -/
structure It where
  go : Nat → Hp → Prop
  yld : Nat → Hp → V → Hp → Prop
  stop : Nat → Hp → Prop
/-- the iterator's own objects may turn: they are not the frame's, not pinned, younger than the entry (or a comprehension's own) -/
def FpOk (X : Cx) (pins : List (Addr × Obj)) (H : Hp) (b : Addr) : Prop :=
  H b = none ∧ b ≠ X.env.locals ∧ b ∉ X.fs ∧ (b ∈ X.ex ∨ X.s₀.heap.objs.size ≤ b) ∧ (∀ x c, X.env.cells.lookup x = some c → c ≠ b) ∧ ∀ p ∈ X.pn ++ pins, p.1 ≠ b
theorem Inv.fpOk {X : Cx} {pins : List (Addr × Obj)} {σ : St} {H H' : Hp} {s : Shared} {b : Addr} (I : Inv X pins σ H s) (hb : s.heap.objs.size ≤ b) (hn : H' b = none) : FpOk X pins H' b := by
  refine ⟨hn, Nat.ne_of_gt (Nat.lt_of_lt_of_le I.lt hb), I.nofs hb, .inr (Nat.le_trans I.sz hb), fun x c e z => ?_, fun p hp z => ?_⟩
  · obtain ⟨v, q⟩ := I.cell x c e
    exact absurd (Nat.lt_of_lt_of_le q.lt (by rw [z]; exact hb)) (Nat.lt_irrefl _)
  · exact absurd (Nat.lt_of_lt_of_le (Heap.lt_size (I.pin p hp).1) (by rw [z]; exact hb)) (Nat.lt_irrefl _)
structure Turn (P : Program) (w : World) (K : PySem.W.Frag) (tg : Expr) (J : It) (fp : List Addr) (it : Addr) (tn : Nat → Heap → Prop) : Prop where
  mem : it ∈ fp
  obj : ∀ i h, tn i h → ∀ b ∈ fp, ∃ o, h.get? b = some o ∧ ∀ v, o.data ≠ .cell v
  keep : ∀ i h h', tn i h → (∀ b ∈ fp, ∀ o, h.get? b = some o → h'.get? b = some o) → tn i h'
  item : ∀ (X : Cx), X.prog = P → X.w = w → X.K = K → X.calm = true → ∀ (i : Nat) (pins : List (Addr × Obj)) (s : Shared) (σ : St) (H : Hp) (E : Value → Shared → Prop), Inv X pins σ H s → (∀ b ∈ fp, FpOk X pins H b) → tn i s.heap → J.go i H →
    wpAny (model P w) X.A (pyNext (.ref it)) (fun r s1 => ∃ u, r = some u ∧
      wpAny (model P w) X.A (letOwnedTupleGo tg (.ref it) u) (fun _ s2 => ∃ x H', Inv X pins σ H' s2 ∧ RelV x u ∧ J.yld i H x H' ∧ tn (i + 1) s2.heap ∧ ∀ b ∈ fp, H' b = none) E s1) E s
  done : ∀ (X : Cx), X.prog = P → X.w = w → X.K = K → X.calm = true → ∀ (i : Nat) (pins : List (Addr × Obj)) (s : Shared) (σ : St) (H : Hp) (E : Value → Shared → Prop), Inv X pins σ H s → (∀ b ∈ fp, FpOk X pins H b) → tn i s.heap → J.stop i H →
    wpAny (model P w) X.A (pyNext (.ref it)) (fun r s1 => r = none ∧ Inv X pins σ H s1) E s
  self : ∀ (A : Around) (i : Nat) (s : Shared) (Q : Value → Shared → Prop) (E : Value → Shared → Prop), tn i s.heap → Q (.ref it) s → wpAny (model P w) A (pyIter (.ref it)) Q E s
abbrev TI := St → Hp → (It → Hp → Prop) → Prop
/-- an iterator has come -/
def PIE (X : Cx) (pins : List (Addr × Obj)) (σ : St) (tg : Expr) (R : It → Hp → Prop) (itv : Value) (s2 : Shared) : Prop :=
  ∃ (it : Addr) (fp : List Addr) (tn : Nat → Heap → Prop) (J : It) (H' : Hp), itv = .ref it ∧ Inv X pins σ H' s2 ∧ Turn X.prog X.w X.K tg J fp it tn ∧ tn 0 s2.heap ∧ (∀ b ∈ fp, FpOk X pins H' b) ∧ R J H'
def PI (X : Cx) (tg iter : Expr) (wi : TI) : Prop :=
  ∀ (pins : List (Addr × Obj)) (s : Shared) (σ : St) (H : Hp) (R : It → Hp → Prop), Inv X pins σ H s → wi σ H R →
    wpAny (model X.prog X.w) X.A (eval iter X.env) (fun v s1 => wpAny (model X.prog X.w) X.A (pyIter v) (PIE X pins σ tg R) X.xe s1) X.xe s

/-- the step ahead of the store is nothing for an iterator that keeps no tuple -/
theorem go_of {M : Model} {A : Around} {E : Value → Shared → Prop} {s : Shared} {tg : Expr} {it : Addr} {u : Value} {o : Obj} {n : String} {vs : Array Value} {Q : Unit → Shared → Prop} (ho : s.heap.get? it = some o) (hc : o.cls = .type n) (hd : o.data = .fields vs)
    (hn : ["enumerate", "zip", "dict_itemiterator", "dict_reverseitemiterator", "odict_iterator", "itertools.zip_longest", "itertools.pairwise"].contains n = false) (hQ : Q () s) : wpAny M A (letOwnedTupleGo tg (.ref it) u) Q E s := by
  unfold letOwnedTupleGo
  cases tg <;> first
    | exact wpAny_pure hQ
    | (cases u <;> first
        | exact wpAny_pure hQ
        | (refine wpAny_bind (wpAny_load ho ?_)
           rw [hc, hd]
           show wpAny M A (if (["enumerate", "zip", "dict_itemiterator", "dict_reverseitemiterator", "odict_iterator", "itertools.zip_longest", "itertools.pairwise"].contains n && vs[0]? == some (rawInt _)) = true then _ else _) Q E s
           rw [if_neg (by intro h; rw [hn, Bool.false_and] at h; cases h)]
           exact wpAny_pure hQ))

/-- the list at a, as it stands at each turn (a loop may append to it) -/
def Itl (K : PySem.W.Frag) (a : Addr) : It :=
  ⟨fun i H => ∃ xs x, SqL K H a xs ∧ xs[i]? = some x, fun i H x H' => H' = H ∧ ∀ xs, SqL K H a xs → xs[i]? = some x, fun i H => ∃ xs, SqL K H a xs ∧ xs.length ≤ i⟩
def Itt (K : PySem.W.Frag) (a : Addr) : It :=
  ⟨fun i H => ∃ xs x, SqT K H a xs ∧ xs[i]? = some x, fun i H x H' => H' = H ∧ ∀ xs, SqT K H a xs → xs[i]? = some x, fun i H => ∃ xs, SqT K H a xs ∧ xs.length ≤ i⟩
/-- lo, lo + 1, .. (n of them) -/
def Itr (lo : Int) (n : Nat) : It := ⟨fun i _ => i < n, fun i H x H' => H' = H ∧ x = .int (lo + i), fun i _ => n ≤ i⟩
theorem turn_list {P : Program} {w : World} {K : PySem.W.Frag} {tg : Expr} (a it : Addr) : Turn P w K tg (Itl K a) [it] it (fun i h => h.IsListIter it a i) where
  mem := by simp
  obj := fun i h st b hb => by
    have e : b = it := by simpa using hb
    subst e
    obtain ⟨o, e, c, d⟩ := st
    exact ⟨o, e, fun v z => by rw [d] at z; cases z⟩
  keep := fun i h h' st k => st.at fun o e => k it (by simp) o e
  item := by
    intro X hP hw hK hc i pins s σ H E I hf st hg
    subst hP hw hK
    obtain ⟨xs, x, hq, hx⟩ := hg
    obtain ⟨its, rv, p, hz⟩ := I.list hq
    obtain ⟨u, hu, ru⟩ := rv.get hx
    obtain ⟨f0, f1, f2, f3, f4, f5⟩ := hf it (by simp)
    refine wpAny_pyNext_list_item st p.isList (x := u) (by simpa using hu) fun h' st' sb => ?_
    have I1 : Inv X pins σ H { s with heap := h' } := I.turned (t' := s.toks) (fun b o hb e => (sb.2 b hb).trans e) f0 f1 f3 f4 f5
    obtain ⟨o, e, c, d⟩ := id st'
    exact ⟨u, rfl, go_of (s := { s with heap := h' }) e c d (by decide) ⟨x, H, I1, ru, ⟨rfl, fun ys hy => by rw [I.list_inj hy hq]; exact hx⟩, st', fun b hb => (hf b hb).1⟩⟩
  done := by
    intro X hP hw hK hc i pins s σ H E I hf st hg
    subst hP hw hK
    obtain ⟨xs, hq, hx⟩ := hg
    obtain ⟨its, rv, p, hz⟩ := I.list hq
    obtain ⟨f0, f1, f2, f3, f4, f5⟩ := hf it (by simp)
    have hl := rv.length
    exact wpAny_pyNext_list_end (I.ok.hd hc) st p.isList (by simp; omega) fun h' eb => ⟨rfl, I.turned (t' := s.toks) (fun b o hb e => eb b o hb e) f0 f1 f3 f4 f5⟩
  self := fun _ _ _ _ _ st h => wpAny_pyIter_listiter st h
theorem turn_tuple {P : Program} {w : World} {K : PySem.W.Frag} {tg : Expr} (a it : Addr) : Turn P w K tg (Itt K a) [it] it (fun i h => h.IsTupleIter it a i) where
  mem := by simp
  obj := fun i h st b hb => by
    have e : b = it := by simpa using hb
    subst e
    obtain ⟨o, e, c, d⟩ := st
    exact ⟨o, e, fun v z => by rw [d] at z; cases z⟩
  keep := fun i h h' st k => st.at fun o e => k it (by simp) o e
  item := by
    intro X hP hw hK hc i pins s σ H E I hf st hg
    subst hP hw hK
    obtain ⟨xs, x, hq, hx⟩ := hg
    obtain ⟨its, rv, p, hz⟩ := I.tuple hq
    obtain ⟨u, hu, ru⟩ := rv.get hx
    obtain ⟨f0, f1, f2, f3, f4, f5⟩ := hf it (by simp)
    refine wpAny_pyNext_tuple_item st (show s.heap.IsTuple a its.toArray from p) (x := u) (by simpa using hu) fun h' st' sb => ?_
    have I1 : Inv X pins σ H { s with heap := h' } := I.turned (t' := s.toks) (fun b o hb e => (sb.2 b hb).trans e) f0 f1 f3 f4 f5
    obtain ⟨o, e, c, d⟩ := id st'
    exact ⟨u, rfl, go_of (s := { s with heap := h' }) e c d (by decide) ⟨x, H, I1, ru, ⟨rfl, fun ys hy => by rw [I.tuple_inj hy hq]; exact hx⟩, st', fun b hb => (hf b hb).1⟩⟩
  done := by
    intro X hP hw hK hc i pins s σ H E I hf st hg
    subst hP hw hK
    obtain ⟨xs, hq, hx⟩ := hg
    obtain ⟨its, rv, p, hz⟩ := I.tuple hq
    obtain ⟨f0, f1, f2, f3, f4, f5⟩ := hf it (by simp)
    have hl := rv.length
    exact wpAny_pyNext_tuple_end (I.ok.hd hc) st (show s.heap.IsTuple a its.toArray from p) (by simp; omega) fun h' eb => ⟨rfl, I.turned (t' := s.toks) (fun b o hb e => eb b o hb e) f0 f1 f3 f4 f5⟩
  self := fun _ _ _ _ _ st h => wpAny_pyIter_tupleiter st h
theorem turn_range {P : Program} {w : World} {K : PySem.W.Frag} {tg : Expr} (it : Addr) (lo : Int) (n : Nat) : Turn P w K tg (Itr lo n) [it] it (fun i h => IsRangeIter h it (lo + (i : Nat) * 1) ((n : Int) - (i : Nat)) 1) where
  mem := by simp
  obj := fun i h st b hb => by
    have e : b = it := by simpa using hb
    subst e
    exact ⟨_, st, fun v z => by
      have z' : Data.fields _ = Data.cell v := z
      cases z'⟩
  keep := fun i h h' st k => k it (by simp) _ st
  item := by
    intro X hP hw hK hc i pins s σ H E I hf st hg
    subst hP hw hK
    obtain ⟨f0, f1, f2, f3, f4, f5⟩ := hf it (by simp)
    have W := Walks.range (prog := X.prog) (w := X.w) (I.ok.hd hc) it lo 1 n
    refine W.item i s _ _ hg st fun v h' tk hv st' kk => ?_
    obtain ⟨t, rfl⟩ := hv
    have I1 : Inv X pins σ H { s with heap := h', toks := tk } := I.turned (fun b o hb e => kk b o (by simpa using hb) e) f0 f1 f3 f4 f5
    refine ⟨_, rfl, go_of (s := { s with heap := h', toks := tk }) (n := "range_iterator") st' rfl rfl (by decide) ⟨.int (lo + i), H, I1, ⟨t, ?_⟩, ⟨rfl, rfl⟩, st', fun b hb => (hf b hb).1⟩⟩
    rw [Int.mul_one]
  done := by
    intro X hP hw hK hc i pins s σ H E I hf st hg
    subst hP hw hK
    obtain ⟨f0, f1, f2, f3, f4, f5⟩ := hf it (by simp)
    exact wpAny_pyNext_range_end (I.ok.hd hc) st (by have : n ≤ i := hg; omega) fun h' eb => ⟨rfl, I.turned (t' := s.toks) (fun b o hb e => eb b o hb e) f0 f1 f3 f4 f5⟩
  self := fun _ _ _ _ _ st h => wpAny_pyIter_rangeiter st h
end L2

namespace L2
open PySem PySem.Spec PyProof.Rows
section
variable {X : Cx} {tg : Expr}
def iList (K : PySem.W.Frag) (tl : TE) : TI := fun σ H R => tl σ H fun x H1 => ∃ a, x = .ref a ∧ (∃ xs, SqL K H1 a xs) ∧ R (Itl K a) H1
def iTup (K : PySem.W.Frag) (tl : TE) : TI := fun σ H R => tl σ H fun x H1 => ∃ a, x = .ref a ∧ (∃ xs, SqT K H1 a xs) ∧ R (Itt K a) H1
theorem pi_list {l : Expr} {tl : TE} (hl : PE X l tl) : PI X tg l (iList X.K tl) := by
  intro pins s σ H R I h
  refine thn (hl pins s σ H _ I h) fun v s1 ⟨x, H1, I1, r1, q1⟩ => ?_
  obtain ⟨a, e, ⟨xs, hq⟩, q⟩ := q1
  subst e
  cases r1
  obtain ⟨its, rv, p, hz⟩ := I1.list hq
  refine wpAny_pyIter_list p.isList ?_
  refine ⟨s1.heap.objs.size, [s1.heap.objs.size], _, _, H1, rfl, I1.kept (t' := s1.toks) fun b o e => Heap.get?_push_of_some _ e, turn_list a _, ⟨_, Heap.get?_push_size _ rfl, rfl, rfl⟩, fun b hb => ?_, q⟩
  have e : b = s1.heap.objs.size := by simpa using hb
  subst e
  exact I1.fpOk (Nat.le_refl _) (I1.hok.fresh (Nat.le_refl _))
theorem pi_tup {l : Expr} {tl : TE} (hl : PE X l tl) : PI X tg l (iTup X.K tl) := by
  intro pins s σ H R I h
  refine thn (hl pins s σ H _ I h) fun v s1 ⟨x, H1, I1, r1, q1⟩ => ?_
  obtain ⟨a, e, ⟨xs, hq⟩, q⟩ := q1
  subst e
  cases r1
  obtain ⟨its, rv, p, hz⟩ := I1.tuple hq
  refine wpAny_pyIter_tuple (show s1.heap.IsTuple a its.toArray from p) ?_
  refine ⟨s1.heap.objs.size, [s1.heap.objs.size], _, _, H1, rfl, I1.kept (t' := s1.toks) fun b o e => Heap.get?_push_of_some _ e, turn_tuple a _, ⟨_, Heap.get?_push_size _ rfl, rfl, rfl⟩, fun b hb => ?_, q⟩
  have e : b = s1.heap.objs.size := by simpa using hb
  subst e
  exact I1.fpOk (Nat.le_refl _) (I1.hok.fresh (Nat.le_refl _))
/-- a range object just made, walked -/
theorem range_it {pins : List (Addr × Obj)} {σ : St} {H : Hp} {s : Shared} {R : It → Hp → Prop} {E : Value → Shared → Prop} {lo hi : Int} {t u v : Tok} {tk : Nat} (I : Inv X pins σ H s) (h1 : -(2 ^ 62) ≤ lo) (h2 : lo < 2 ^ 62) (h3 : -(2 ^ 62) ≤ hi) (h4 : hi < 2 ^ 62)
    (q : R (Itr lo (hi - lo).toNat) H) : wpAny (model X.prog X.w) X.A (pyIter (.ref s.heap.objs.size)) (PIE X pins σ tg R) E { s with heap := s.heap.push { cls := .type "range", data := .fields #[.int lo t, .int hi u, .int 1 v] }, toks := tk } := by
  refine wpAny_pyIter_range (IsRange.new ..) (small_one h1 h2 h3 h4) ?_
  have I1 : Inv X pins σ H { s with heap := s.heap.push { cls := .type "range", data := .fields #[.int lo t, .int hi u, .int 1 v] }, toks := tk } := I.kept fun b o e => Heap.get?_push_of_some _ e
  refine ⟨(s.heap.push { cls := .type "range", data := .fields #[.int lo t, .int hi u, .int 1 v] }).objs.size, [(s.heap.push { cls := .type "range", data := .fields #[.int lo t, .int hi u, .int 1 v] }).objs.size], _, _, H, rfl,
    I1.kept (t' := tk) fun b o e => Heap.get?_push_of_some _ e, turn_range _ lo (hi - lo).toNat, ?_, fun b hb => ?_, q⟩
  · have e1 : lo + ((0 : Nat) : Int) * 1 = lo := by simp
    have e2 : (((hi - lo).toNat : Nat) : Int) - ((0 : Nat) : Int) = Builtin.Range.rangeSize lo hi 1 := by rw [rangeSize_one]; split <;> omega
    show IsRangeIter _ _ (lo + ((0 : Nat) : Int) * 1) ((((hi - lo).toNat : Nat) : Int) - ((0 : Nat) : Int)) 1
    rw [e1, e2]
    exact Heap.get?_push_size _ rfl
  · have e : b = (s.heap.push { cls := .type "range", data := .fields #[.int lo t, .int hi u, .int 1 v] }).objs.size := by simpa using hb
    subst e
    exact I1.fpOk (Nat.le_refl _) (I1.hok.fresh (Nat.le_refl _))
def iRng1 (ta : TA) : TI := fun σ H R => ta σ H fun vs H1 => ∃ j : Int, vs = [.int j] ∧ -(2 ^ 62) ≤ j ∧ j < 2 ^ 62 ∧ R (Itr 0 j.toNat) H1
def iRng2 (ta : TA) : TI := fun σ H R => ta σ H fun vs H1 => ∃ i j : Int, vs = [.int i, .int j] ∧ (-(2 ^ 62) ≤ i ∧ i < 2 ^ 62 ∧ -(2 ^ 62) ≤ j ∧ j < 2 ^ 62) ∧ R (Itr i (j - i).toNat) H1
theorem pi_range1 {a : Expr} {ta : TA} {p pos : Pos} (hg : Gl X "range") (hm : X.mg "range" = none) (ha : PA X [a] ta) (hs : starEach [a] X.env = [(false, eval a X.env)] := by rfl) : PI X tg (.Call (.Name "range" p) [a] [] pos) (iRng1 ta) := by
  intro pins s σ H R I h
  refine Call_ (ld_blt I hg hm boot_range (PyProof.Rows.callWith_type1 (thn (ha pos pins s σ H _ I h) fun us s1 ⟨vs, H1, I1, r1, q1⟩ => ?_) hs rfl))
  obtain ⟨j, e, q1, q2, q⟩ := q1
  subst e
  cases r1 with
  | cons r rr =>
    cases rr
    obtain ⟨t, rfl⟩ := r
    exact call_range_1 (range_it I1 (by omega) (by omega) q1 q2 (by simpa using q))
theorem pi_range2 {a b : Expr} {ta : TA} {p pos : Pos} (hg : Gl X "range") (hm : X.mg "range" = none) (ha : PA X [a, b] ta) (hs : starEach [a, b] X.env = [(false, eval a X.env), (false, eval b X.env)] := by rfl) (hs2 : starEach [b] X.env = [(false, eval b X.env)] := by rfl) :
    PI X tg (.Call (.Name "range" p) [a, b] [] pos) (iRng2 ta) := by
  intro pins s σ H R I h
  refine Call_ (ld_blt I hg hm boot_range (PyProof.Rows.callWith_type1 (thn (ha pos pins s σ H _ I h) fun us s1 ⟨vs, H1, I1, r1, q1⟩ => ?_) (by rw [hs, hs2]) (by rw [hs2]; rfl)))
  obtain ⟨i, j, e, ⟨q1, q2, q3, q4⟩, q⟩ := q1
  subst e
  cases r1 with
  | cons r rr =>
    cases rr with
    | cons r' rr =>
      cases rr
      obtain ⟨t, rfl⟩ := r
      obtain ⟨t', rfl⟩ := r'
      exact call_range_2 (range_it I1 q1 q2 q3 q4 q)

/-! ### for -/
/-- W: the invariant by the turn and a measure; N: what the body is to reach -/
def tFor (wi : TI) (g : TG) (tb : TS) : TS := fun D σ H => wi σ H fun J H1 => ∃ W : Nat → Nat → St → Hp → Prop, (∃ m, W 0 m σ H1) ∧ ∀ i m σ H, W i m σ H →
  (J.stop i H ∧ D.nx σ H) ∨ (J.go i H ∧ ∃ N : St → Hp → Prop, (∀ σ' H', N σ' H' → ∃ m', m' < m ∧ W (i + 1) m' σ' H') ∧ ∀ x H', J.yld i H x H' → g x σ H' fun σ2 H2 => tb { D with nx := N, ct := N, bk := D.nx } σ2 H2)
/-- the records at fp as they stand -/
def pinsAt (fp : List Addr) (h : Heap) : List (Addr × Obj) := fp.filterMap fun b => (h.get? b).map fun o => (b, o)
theorem mem_pinsAt {fp : List Addr} {h : Heap} {b : Addr} {o : Obj} (hb : b ∈ fp) (e : h.get? b = some o) : (b, o) ∈ pinsAt fp h := List.mem_filterMap.mpr ⟨b, hb, by rw [e]; rfl⟩
theorem of_pinsAt {fp : List Addr} {h : Heap} {p : Addr × Obj} (hp : p ∈ pinsAt fp h) : p.1 ∈ fp ∧ h.get? p.1 = some p.2 := by
  obtain ⟨b, hb, e⟩ := List.mem_filterMap.mp hp
  cases q : h.get? b with
  | none => rw [q] at e; cases e
  | some o =>
    rw [q] at e
    have e' : (b, o) = p := Option.some.inj e
    subst e'
    exact ⟨hb, q⟩
theorem Inv.pinned {pins : List (Addr × Obj)} {σ : St} {H : Hp} {s : Shared} {fp : List Addr} (I : Inv X pins σ H s) (hf : ∀ b ∈ fp, FpOk X pins H b) (ho : ∀ b ∈ fp, ∃ o, s.heap.get? b = some o ∧ ∀ v, o.data ≠ .cell v) : Inv X (pins ++ pinsAt fp s.heap) σ H s :=
  I.pins_of fun p hp => (List.mem_append.mp hp).elim (fun z => I.pin p (List.mem_append_right _ z)) fun z => by
    obtain ⟨hb, e⟩ := of_pinsAt z
    obtain ⟨f0, f1, f2, _⟩ := hf p.1 hb
    obtain ⟨o, e', d⟩ := ho p.1 hb
    rw [e] at e'; cases e'
    exact ⟨e, f0, f1, f2, d⟩
theorem Inv.unpinned {pins pl : List (Addr × Obj)} {σ : St} {H : Hp} {s : Shared} (I : Inv X (pins ++ pl) σ H s) : Inv X pins σ H s := I.pins_of fun p hp => I.pin p (List.mem_append_right _ (List.mem_append_left _ hp))
theorem ps_for {iter : Expr} {body : List Stmt} {wi : TI} {g : TG} {tb : TS} {pos : Pos} (hp : PassesOwn (model X.prog X.w) X.A X.env X.xe) (hc : X.calm = true) (hi : PI X tg iter wi) (hg : PG X tg g) (hb : PSs X body tb)
    (hs : ∀ x, foldedSetIterable iter X.env x = pure x := by intro _; rfl) : PS X (.For tg iter body [] pos) (tFor wi g tb) := by
  intro pins s σ H D I h
  refine wpAny_For (thn (hi pins s σ H _ I h) fun v s1 h1 => thn h1 fun itv s2 h2 => ?_) hs
  obtain ⟨it, fp, tn, J, H2, e, I2, T, st2, f2, W, ⟨m0, w0⟩, turn⟩ := h2
  subst e
  -- what stays true of the iterator's objects through the loop
  have stat : ∀ {H' : Hp}, (∀ b ∈ fp, H' b = none) → ∀ b ∈ fp, FpOk X pins H' b := fun hn b hb => ⟨hn b hb, (f2 b hb).2⟩
  refine codeAny_forLoop_any (fun n s' => ∃ i σ' H', Inv X pins σ' H' s' ∧ tn i s'.heap ∧ (∀ b ∈ fp, H' b = none) ∧ W i n σ' H') ?_ m0 ⟨0, σ, H2, I2, st2, fun b hb => (f2 b hb).1, w0⟩
  rintro n s3 ⟨i, σ3, H3, I3, st3, fr3, w3⟩
  rcases turn i n σ3 H3 w3 with ⟨stop, qn⟩ | ⟨go, N, hN, step⟩
  · refine wpAny_passesOwn hp (thn (T.done X rfl rfl rfl hc i pins s3 σ3 H3 X.xe I3 (stat fr3) st3 stop) fun r s4 ⟨hr, I4⟩ => ?_)
    subst hr
    exact wpAny_execs_nil ⟨σ3, H3, I4, qn⟩
  · refine wpAny_passesOwn hp (thn (T.item X rfl rfl rfl hc i pins s3 σ3 H3 X.xe I3 (stat fr3) st3 go) fun r s4 ⟨u, hr, h4⟩ => ?_)
    subst hr
    refine wpAny_passesOwn hp (thn h4 fun _ s5 ⟨x, H5, I5, r5, y5, st5, fr5⟩ => ?_)
    have I5' := I5.pinned (stat fr5) (T.obj _ _ st5)
    refine wpAny_passesOwn hp (thn (hg _ s5 σ3 H5 x u _ I5' r5 (step x H5 y5)) fun _ s6 ⟨σ6, H6, I6, q6⟩ => ?_)
    refine wpAny_passesOwn hp (thn (hb _ s6 σ6 H6 _ I6 q6) fun f s7 q7 => ?_)
    have again : ∀ {σ7 : St} {H7 : Hp}, Inv X (pins ++ pinsAt fp s5.heap) σ7 H7 s7 → N σ7 H7 → ∃ m, m < n ∧ ∃ i σ' H', Inv X pins σ' H' s7 ∧ tn i s7.heap ∧ (∀ b ∈ fp, H' b = none) ∧ W i m σ' H' := fun {σ7 H7} I7 n7 => by
      obtain ⟨m', hm, w7⟩ := hN σ7 H7 n7
      refine ⟨m', hm, i + 1, σ7, H7, I7.unpinned, T.keep _ _ _ st5 fun b hb o e => (I7.pin (b, o) (List.mem_append_right _ (List.mem_append_right _ (mem_pinsAt hb e)))).1, fun b hb => ?_, w7⟩
      obtain ⟨o, e, d⟩ := T.obj _ _ st5 b hb
      exact (I7.pin (b, o) (List.mem_append_right _ (List.mem_append_right _ (mem_pinsAt hb e)))).2.1
    cases f with
    | next => obtain ⟨σ7, H7, I7, n7⟩ := q7; exact again I7 n7
    | cont => obtain ⟨σ7, H7, I7, n7⟩ := q7; exact again I7 n7
    | brk => obtain ⟨σ7, H7, I7, q7⟩ := q7; exact ⟨σ7, H7, I7.unpinned, q7⟩
    | ret v => obtain ⟨x7, σ7, H7, I7, r7, q7⟩ := q7; exact ⟨x7, σ7, H7, I7.unpinned, r7, q7⟩
end

/-! ### the forms one uses -/
/-- over a list that the body leaves as it is -/
theorem for_list {K : PySem.W.Frag} {a : Addr} {xs : List V} {g : TG} {tb : TS} {D : Ends} {σ : St} {H : Hp} (Pv : Nat → St → Hp → Prop) (h0 : Pv 0 σ H) (hl : ∀ i σ H, i ≤ xs.length → Pv i σ H → SqL K H a xs)
    (hs : ∀ i x σ H, xs[i]? = some x → Pv i σ H → g x σ H fun σ2 H2 => tb { D with nx := Pv (i + 1), ct := Pv (i + 1), bk := D.nx } σ2 H2) (hd : ∀ σ H, Pv xs.length σ H → D.nx σ H) :
    ∃ W : Nat → Nat → St → Hp → Prop, (∃ m, W 0 m σ H) ∧ ∀ i m σ H, W i m σ H →
      ((Itl K a).stop i H ∧ D.nx σ H) ∨ ((Itl K a).go i H ∧ ∃ N : St → Hp → Prop, (∀ σ' H', N σ' H' → ∃ m', m' < m ∧ W (i + 1) m' σ' H') ∧ ∀ x H', (Itl K a).yld i H x H' → g x σ H' fun σ2 H2 => tb { D with nx := N, ct := N, bk := D.nx } σ2 H2) := by
  refine ⟨fun i m σ H => m = xs.length - i ∧ i ≤ xs.length ∧ Pv i σ H, ⟨xs.length, by simp, Nat.zero_le _, h0⟩, ?_⟩
  rintro i m σ H ⟨rfl, hi, p⟩
  have q := hl i σ H hi p
  by_cases hlt : i < xs.length
  · refine .inr ⟨⟨xs, xs[i], q, by simp [hlt]⟩, Pv (i + 1), fun σ' H' p' => ⟨xs.length - (i + 1), by omega, rfl, hlt, p'⟩, fun x H' y => ?_⟩
    obtain ⟨e, y⟩ := y
    subst e
    exact hs i x σ _ (y xs q) p
  · have e : i = xs.length := by omega
    subst e
    exact .inl ⟨⟨xs, q, Nat.le_refl _⟩, hd σ H p⟩
theorem for_tup {K : PySem.W.Frag} {a : Addr} {xs : List V} {g : TG} {tb : TS} {D : Ends} {σ : St} {H : Hp} (Pv : Nat → St → Hp → Prop) (h0 : Pv 0 σ H) (hl : ∀ i σ H, i ≤ xs.length → Pv i σ H → SqT K H a xs)
    (hs : ∀ i x σ H, xs[i]? = some x → Pv i σ H → g x σ H fun σ2 H2 => tb { D with nx := Pv (i + 1), ct := Pv (i + 1), bk := D.nx } σ2 H2) (hd : ∀ σ H, Pv xs.length σ H → D.nx σ H) :
    ∃ W : Nat → Nat → St → Hp → Prop, (∃ m, W 0 m σ H) ∧ ∀ i m σ H, W i m σ H →
      ((Itt K a).stop i H ∧ D.nx σ H) ∨ ((Itt K a).go i H ∧ ∃ N : St → Hp → Prop, (∀ σ' H', N σ' H' → ∃ m', m' < m ∧ W (i + 1) m' σ' H') ∧ ∀ x H', (Itt K a).yld i H x H' → g x σ H' fun σ2 H2 => tb { D with nx := N, ct := N, bk := D.nx } σ2 H2) := by
  refine ⟨fun i m σ H => m = xs.length - i ∧ i ≤ xs.length ∧ Pv i σ H, ⟨xs.length, by simp, Nat.zero_le _, h0⟩, ?_⟩
  rintro i m σ H ⟨rfl, hi, p⟩
  have q := hl i σ H hi p
  by_cases hlt : i < xs.length
  · refine .inr ⟨⟨xs, xs[i], q, by simp [hlt]⟩, Pv (i + 1), fun σ' H' p' => ⟨xs.length - (i + 1), by omega, rfl, hlt, p'⟩, fun x H' y => ?_⟩
    obtain ⟨e, y⟩ := y
    subst e
    exact hs i x σ _ (y xs q) p
  · have e : i = xs.length := by omega
    subst e
    exact .inl ⟨⟨xs, q, Nat.le_refl _⟩, hd σ H p⟩
theorem for_range {lo : Int} {n : Nat} {g : TG} {tb : TS} {D : Ends} {σ : St} {H : Hp} (Pv : Nat → St → Hp → Prop) (h0 : Pv 0 σ H)
    (hs : ∀ i σ H, i < n → Pv i σ H → g (.int (lo + i)) σ H fun σ2 H2 => tb { D with nx := Pv (i + 1), ct := Pv (i + 1), bk := D.nx } σ2 H2) (hd : ∀ σ H, Pv n σ H → D.nx σ H) :
    ∃ W : Nat → Nat → St → Hp → Prop, (∃ m, W 0 m σ H) ∧ ∀ i m σ H, W i m σ H →
      ((Itr lo n).stop i H ∧ D.nx σ H) ∨ ((Itr lo n).go i H ∧ ∃ N : St → Hp → Prop, (∀ σ' H', N σ' H' → ∃ m', m' < m ∧ W (i + 1) m' σ' H') ∧ ∀ x H', (Itr lo n).yld i H x H' → g x σ H' fun σ2 H2 => tb { D with nx := N, ct := N, bk := D.nx } σ2 H2) := by
  refine ⟨fun i m σ H => m = n - i ∧ i ≤ n ∧ Pv i σ H, ⟨n, by simp, Nat.zero_le _, h0⟩, ?_⟩
  rintro i m σ H ⟨rfl, hi, p⟩
  by_cases hlt : i < n
  · refine .inr ⟨hlt, Pv (i + 1), fun σ' H' p' => ⟨n - (i + 1), by omega, rfl, hlt, p'⟩, fun x H' y => ?_⟩
    obtain ⟨e, y⟩ := y
    subst e y
    exact hs i σ _ hlt p
  · have e : i = n := by omega
    subst e
    exact .inl ⟨Nat.le_refl _, hd σ H p⟩
/-- while, by a word and a measure of the state -/
theorem while_by {c : TT} {tb : TS} {D : Ends} {σ : St} {H : Hp} (Pv : St → Hp → Prop) (μ : St → Hp → Nat) (h0 : Pv σ H)
    (hs : ∀ σ H, Pv σ H → c σ H fun b H1 => if b = true then tb { D with nx := fun σ' H' => Pv σ' H' ∧ μ σ' H' < μ σ H, ct := fun σ' H' => Pv σ' H' ∧ μ σ' H' < μ σ H, bk := D.nx } σ H1 else D.nx σ H1)
    (mono : ∀ σ H Q Q', (∀ b H1, Q b H1 → Q' b H1) → c σ H Q → c σ H Q') : tWhile c tb D σ H := by
  refine ⟨fun m σ H => m = μ σ H ∧ Pv σ H, ⟨_, rfl, h0⟩, ?_⟩
  rintro m σ H ⟨rfl, p⟩
  refine mono σ H _ _ (fun b H1 q => ?_) (hs σ H p)
  cases b with
  | true => exact ⟨_, fun σ' H' ⟨p', l⟩ => ⟨_, l, rfl, p'⟩, q⟩
  | false => exact q
end L2

namespace L2
open PySem PySem.Spec PyProof.Rows

abbrev R2 := V → V → Hp → VK → Prop
/-- a two-place operation on values: f is binaryOp op, inplaceOp op or compareOp op -/
def OpR (X : Cx) (f : Value → Value → Sem Value) (r : R2) : Prop :=
  ∀ (pins : List (Addr × Obj)) (s : Shared) (σ : St) (H : Hp) (x y : V) (v u : Value) (Q : VK), Inv X pins σ H s → RelV x v → RelV y u → r x y H Q →
    wpAny (model X.prog X.w) X.A (f v u) (EP X pins σ Q) X.xe s
/-- a one-place operation -/
def UnR (X : Cx) (f : Value → Sem Value) (r : V → Hp → VK → Prop) : Prop :=
  ∀ (pins : List (Addr × Obj)) (s : Shared) (σ : St) (H : Hp) (x : V) (v : Value) (Q : VK), Inv X pins σ H s → RelV x v → r x H Q →
    wpAny (model X.prog X.w) X.A (f v) (EP X pins σ Q) X.xe s
/-- a call of a value that is known (a builtin, a type) with values -/
def CallR (X : Cx) (f : Value) (r : List V → Hp → VK → Prop) : Prop :=
  ∀ (pins : List (Addr × Obj)) (s : Shared) (σ : St) (H : Hp) (xs : List V) (us : List Value) (Q : VK), Inv X pins σ H s → Vals xs us → r xs H Q →
    wpAny (model X.prog X.w) X.A (call f us) (EP X pins σ Q) X.xe s
/-- a value's truth -/
def TruR (X : Cx) (r : V → Hp → (Bool → Hp → Prop) → Prop) : Prop :=
  ∀ (pins : List (Addr × Obj)) (s : Shared) (σ : St) (H : Hp) (x : V) (v : Value) (Q : Bool → Hp → Prop), Inv X pins σ H s → RelV x v → r x H Q →
    wpAny (model X.prog X.w) X.A (truthy v) (TP X pins σ Q) X.xe s

def tOp (r : R2) (ta tb : TE) : TE := fun σ H Q => ta σ H fun x H1 => tb σ H1 fun y H2 => r x y H2 Q
def tUn (r : V → Hp → VK → Prop) (ta : TE) : TE := fun σ H Q => ta σ H fun x H1 => r x H1 Q
/-- ints in, under C, and a value out -/
def rI (C : Int → Int → Prop) (g : Int → Int → V) : R2 := fun x y H Q => ∃ i j, x = .int i ∧ y = .int j ∧ C i j ∧ Q (g i j) H
def rI0 (g : Int → Int → V) : R2 := fun x y H Q => ∃ i j, x = .int i ∧ y = .int j ∧ Q (g i j) H
def rU (g : Int → V) : V → Hp → VK → Prop := fun x H Q => ∃ i, x = .int i ∧ Q (g i) H

section
variable {X : Cx} {a b c : Expr} {ta tb tc : TE} {pos : Pos}

theorem binT (ha : PE X a ta) (hb : PE X b tb) {pins : List (Addr × Obj)} {s : Shared} {σ : St} {H : Hp} {R : V → V → Hp → Prop} (I : Inv X pins σ H s)
    (h : ta σ H fun x H1 => tb σ H1 fun y H2 => R x y H2) {Q : Value → Shared → Prop} {f : Value → Value → Sem Value}
    (hf : ∀ v u s2 x y H2, Inv X pins σ H2 s2 → RelV x v → RelV y u → R x y H2 → wpAny (model X.prog X.w) X.A (f v u) Q X.xe s2) :
    wpAny (model X.prog X.w) X.A (eval a X.env) (fun v s₁ => wpAny (model X.prog X.w) X.A (eval b X.env) (fun u s₂ => wpAny (model X.prog X.w) X.A (f v u) Q X.xe s₂) X.xe s₁) X.xe s := by
  refine thn (ha pins s σ H _ I h) fun v s1 ⟨x, H1, I1, r1, q1⟩ => ?_
  refine thn (hb pins s1 σ H1 _ I1 q1) fun u s2 ⟨y, H2, I2, r2, q2⟩ => ?_
  exact hf v u s2 x y H2 I2 r1 r2 q2

theorem pe_op {op : Operator} {r : R2} (ho : OpR X (binaryOp op) r) (ha : PE X a ta) (hb : PE X b tb) : PE X (.BinOp a op b pos) (tOp r ta tb) := by
  intro pins s σ H Q I h
  exact wpAny_BinOp (binT ha hb I h fun v u s2 x y H2 I2 rx ry q => ho pins s2 σ H2 x y v u Q I2 rx ry q)
theorem pe_un {op : UnaryOp} {r : V → Hp → VK → Prop} (ho : UnR X (unaryOp op) r) (ha : PE X a ta) : PE X (.UnaryOp op a pos) (tUn r ta) := by
  intro pins s σ H Q I h
  exact UnaryOp_ (thn (ha pins s σ H _ I h) fun v s1 ⟨x, H1, I1, r1, q1⟩ => ho pins s1 σ H1 x v Q I1 r1 q1)
/-- a op= e at a name: the name's slot i -/
theorem augR {op : Operator} {r : R2} (ho : OpR X (inplaceOp op) r) {pins : List (Addr × Obj)} {s : Shared} {σ : St} {H : Hp} {x y : V} {v u : Value} {Q : VK} (I : Inv X pins σ H s)
    (rx : RelV x v) (ry : RelV y u) (q : r x y H Q) : wpAny (model X.prog X.w) X.A (inplaceOp op v u) (EP X pins σ Q) X.xe s := ho pins s σ H x y v u Q I rx ry q

/-! ### ints -/
theorem opI {f : Value → Value → Sem Value} {C : Int → Int → Prop} {g : Int → Int → Int}
    (rule : ∀ (i j : Int) (t u : Tok) (s : Shared) (Q : Value → Shared → Prop) (E : Value → Shared → Prop), C i j → Q (.int (g i j) s.toks) { s with toks := s.toks + 1 } → wpAny (model X.prog X.w) X.A (f (.int i t) (.int j u)) Q E s) :
    OpR X f (rI C fun i j => .int (g i j)) := by
  intro pins s σ H x y v u Q I rx ry h
  obtain ⟨i, j, rfl, rfl, hc, q⟩ := h
  obtain ⟨t, rfl⟩ := rx
  obtain ⟨t', rfl⟩ := ry
  exact rule i j t t' s _ _ hc ⟨.int (g i j), H, I.tok _, ⟨_, rfl⟩, q⟩
theorem opI0 {f : Value → Value → Sem Value} {g : Int → Int → Int}
    (rule : ∀ (i j : Int) (t u : Tok) (s : Shared) (Q : Value → Shared → Prop) (E : Value → Shared → Prop), Q (.int (g i j) s.toks) { s with toks := s.toks + 1 } → wpAny (model X.prog X.w) X.A (f (.int i t) (.int j u)) Q E s) :
    OpR X f (rI0 fun i j => .int (g i j)) := by
  intro pins s σ H x y v u Q I rx ry h
  obtain ⟨i, j, rfl, rfl, q⟩ := h
  obtain ⟨t, rfl⟩ := rx
  obtain ⟨t', rfl⟩ := ry
  exact rule i j t t' s _ _ ⟨.int (g i j), H, I.tok _, ⟨_, rfl⟩, q⟩
theorem opB0 {f : Value → Value → Sem Value} {g : Int → Int → Bool}
    (rule : ∀ (i j : Int) (t u : Tok) (s : Shared) (Q : Value → Shared → Prop) (E : Value → Shared → Prop), Q (.bool (g i j)) s → wpAny (model X.prog X.w) X.A (f (.int i t) (.int j u)) Q E s) :
    OpR X f (rI0 fun i j => .bl (g i j)) := by
  intro pins s σ H x y v u Q I rx ry h
  obtain ⟨i, j, rfl, rfl, q⟩ := h
  obtain ⟨t, rfl⟩ := rx
  obtain ⟨t', rfl⟩ := ry
  exact rule i j t t' s _ _ ⟨.bl (g i j), H, I, rfl, q⟩

def CDiv (i j : Int) : Prop := 0 < j ∧ j < 1073741824
def CDivN (i j : Int) : Prop := j ≠ 0 ∧ j.natAbs < 1073741824
def CPow (i j : Int) : Prop := 0 ≤ j ∧ j ≤ 1000000 ∧ i.natAbs < 2 ^ 64
def CMul (i j : Int) : Prop := (-(2 ^ 64) < i ∧ i < 2 ^ 64) ∨ (-(2 ^ 64) < j ∧ j < 2 ^ 64)
theorem CMul.ok {i j : Int} (h : CMul i j) : IntMulOk i j := by
  rcases h with ⟨h1, h2⟩ | ⟨h1, h2⟩
  · exact .of_left (intBits_le_64 h1 h2)
  · exact .of_right (intBits_le_64 h1 h2)
theorem two_pow_nn (k : Nat) : (0 : Int) ≤ 2 ^ k := by
  rw [two_pow_cast]
  exact Int.natCast_nonneg _

theorem op_add : OpR X (binaryOp .Add) (rI0 fun i j => .int (i + j)) := opI0 fun _ _ _ _ _ _ _ q => add_int q
theorem op_sub : OpR X (binaryOp .Sub) (rI0 fun i j => .int (i - j)) := opI0 fun _ _ _ _ _ _ _ q => sub_int q
theorem op_mul : OpR X (binaryOp .Mult) (rI CMul fun i j => .int (i * j)) := opI fun _ _ _ _ _ _ _ hc q => mul_int q hc.ok
/-- // by a positive divisor -/
theorem op_fdiv : OpR X (binaryOp .FloorDiv) (rI CDiv fun i j => .int (i / j)) := opI fun i j _ _ _ _ _ hc q => by
  have h1 : (0 : Int) < j := hc.1
  have h2 : j < 1073741824 := hc.2
  exact floordiv_int (by omega) (by rw [Int.fdiv_eq_ediv_of_nonneg i (by omega)]; exact q) (.inl (PyProof.noPylong_small (by omega)))
theorem op_fdivN : OpR X (binaryOp .FloorDiv) (rI CDivN fun i j => .int (i.fdiv j)) := opI fun _ _ _ _ _ _ _ hc q => floordiv_int hc.1 q (.inl (PyProof.noPylong_small hc.2))
/-- % by a positive divisor of any size -/
theorem op_mod : OpR X (binaryOp .Mod) (rI (fun _ j => 0 < j) fun i j => .int (i % j)) := opI fun i j _ _ _ _ _ hc q => by
  have h1 : (0 : Int) < j := hc
  exact mod_int' (by omega) (by rw [Int.fmod_eq_emod_of_nonneg i (by omega)]; exact q)
theorem op_modN : OpR X (binaryOp .Mod) (rI (fun _ j => j ≠ 0) fun i j => .int (i.fmod j)) := opI fun _ _ _ _ _ _ _ hc q => mod_int' hc q
theorem op_pow : OpR X (binaryOp .Pow) (rI CPow fun i j => .int (i ^ j.toNat)) := opI fun _ _ _ _ _ _ _ hc q => pow_int_small hc.1 hc.2.1 hc.2.2 q
theorem op_shl : OpR X (binaryOp .LShift) (rI CPow fun i j => .int (i * 2 ^ j.toNat)) := opI fun _ _ _ _ _ _ _ hc q => lshift_int_small hc.1 hc.2.1 hc.2.2 q
theorem op_shr : OpR X (binaryOp .RShift) (rI (fun _ j => 0 ≤ j) fun i j => .int (i / 2 ^ j.toNat)) := opI fun i j _ _ _ _ _ hc q =>
  rshift_int hc (by rw [Int.fdiv_eq_ediv_of_nonneg i (two_pow_nn _)]; exact q)
theorem op_and : OpR X (binaryOp .BitAnd) (rI0 fun i j => .int (Builtin.bitAnd i j)) := opI0 fun _ _ _ _ _ _ _ q => and_int q
theorem op_or : OpR X (binaryOp .BitOr) (rI0 fun i j => .int (Builtin.bitOr i j)) := opI0 fun _ _ _ _ _ _ _ q => or_int q
theorem op_xor : OpR X (binaryOp .BitXor) (rI0 fun i j => .int (Builtin.bitXor i j)) := opI0 fun _ _ _ _ _ _ _ q => xor_int q

theorem iop_add : OpR X (inplaceOp .Add) (rI0 fun i j => .int (i + j)) := opI0 fun _ _ _ _ _ _ _ q => iadd_int q
theorem iop_sub : OpR X (inplaceOp .Sub) (rI0 fun i j => .int (i - j)) := opI0 fun _ _ _ _ _ _ _ q => isub_int q
theorem iop_mul : OpR X (inplaceOp .Mult) (rI CMul fun i j => .int (i * j)) := opI fun _ _ _ _ _ _ _ hc q => imul_int q hc.ok
theorem iop_fdiv : OpR X (inplaceOp .FloorDiv) (rI CDiv fun i j => .int (i / j)) := opI fun i j _ _ _ _ _ hc q => by
  have h1 : (0 : Int) < j := hc.1
  have h2 : j < 1073741824 := hc.2
  exact ifloordiv_int (by omega) (by rw [Int.fdiv_eq_ediv_of_nonneg i (by omega)]; exact q) (.inl (PyProof.noPylong_small (by omega)))
theorem iop_mod : OpR X (inplaceOp .Mod) (rI (fun _ j => 0 < j) fun i j => .int (i % j)) := opI fun i j _ _ _ _ _ hc q => by
  have h1 : (0 : Int) < j := hc
  exact imod_int (by omega) (by rw [Int.fmod_eq_emod_of_nonneg i (by omega)]; exact q)
theorem iop_shl : OpR X (inplaceOp .LShift) (rI CPow fun i j => .int (i * 2 ^ j.toNat)) := opI fun _ _ _ _ _ _ _ hc q => ilshift_int_small hc.1 hc.2.1 hc.2.2 q
theorem iop_shr : OpR X (inplaceOp .RShift) (rI (fun _ j => 0 ≤ j) fun i j => .int (i / 2 ^ j.toNat)) := opI fun i j _ _ _ _ _ hc q =>
  irshift_int hc (by rw [Int.fdiv_eq_ediv_of_nonneg i (two_pow_nn _)]; exact q)
theorem iop_and : OpR X (inplaceOp .BitAnd) (rI0 fun i j => .int (Builtin.bitAnd i j)) := opI0 fun _ _ _ _ _ _ _ q => iand_int q
theorem iop_or : OpR X (inplaceOp .BitOr) (rI0 fun i j => .int (Builtin.bitOr i j)) := opI0 fun _ _ _ _ _ _ _ q => ior_int q
theorem iop_xor : OpR X (inplaceOp .BitXor) (rI0 fun i j => .int (Builtin.bitXor i j)) := opI0 fun _ _ _ _ _ _ _ q => ixor_int q

theorem unI {f : Value → Sem Value} {g : Int → Int}
    (rule : ∀ (i : Int) (t : Tok) (s : Shared) (Q : Value → Shared → Prop) (E : Value → Shared → Prop), Q (.int (g i) s.toks) { s with toks := s.toks + 1 } → wpAny (model X.prog X.w) X.A (f (.int i t)) Q E s) :
    UnR X f (rU fun i => .int (g i)) := by
  intro pins s σ H x v Q I rx h
  obtain ⟨i, rfl, q⟩ := h
  obtain ⟨t, rfl⟩ := rx
  exact rule i t s _ _ ⟨.int (g i), H, I.tok _, ⟨_, rfl⟩, q⟩
theorem un_neg : UnR X (unaryOp .USub) (rU fun i => .int (-i)) := unI fun _ _ _ _ _ q => neg_int q
theorem un_inv : UnR X (unaryOp .Invert) (rU fun i => .int (Builtin.bitNot i)) := unI fun _ _ _ _ _ q => invert_int q

/-! ### bools among ints: n += (a < b) -/
theorem op_add_ib : OpR X (binaryOp .Add) (fun x y H Q => ∃ i k, x = .int i ∧ y = .bl k ∧ Q (.int (i + b2i k)) H) := by
  intro pins s σ H x y v u Q I rx ry h
  obtain ⟨i, k, rfl, rfl, q⟩ := h
  obtain ⟨t, rfl⟩ := rx
  cases ry
  exact add_int_bool ⟨.int (i + b2i k), H, I.tok _, ⟨_, rfl⟩, q⟩
end

/-! ### comparisons -/
/-- the scalars that == tells apart as data does -/
def scal : V → V → Bool
  | .non, .non => true | .non, .int _ => true | .int _, .non => true | .non, .bl _ => true | .bl _, .non => true | .non, .str _ => true | .str _, .non => true
  | .int _, .int _ => true | .bl _, .bl _ => true | .str _, .str _ => true | .byt _, .byt _ => true
  | .int _, .str _ => true | .str _, .int _ => true | .bl _, .str _ => true | .str _, .bl _ => true
  | _, _ => false
def rEq : R2 := fun x y H Q => scal x y = true ∧ Q (.bl (decide (x = y))) H
def rNe : R2 := fun x y H Q => scal x y = true ∧ Q (.bl (!decide (x = y))) H

theorem dec_int {i j : Int} : decide (V.int i = V.int j) = (i == j) := by
  rw [Bool.eq_iff_iff]
  simp
theorem dec_bl {i j : Bool} : decide (V.bl i = V.bl j) = (i == j) := by
  rw [Bool.eq_iff_iff]
  simp
theorem dec_str {i j : Str} : decide (V.str i = V.str j) = (i == j) := by
  rw [Bool.eq_iff_iff]
  simp
theorem dec_byt {i j : Array UInt8} : decide (V.byt i = V.byt j) = (i.toList == j.toList) := by
  rw [Bool.eq_iff_iff]
  cases i
  cases j
  simp

section
variable {X : Cx} {a b c : Expr} {ta tb tc : TE} {pos : Pos}
theorem fin_bl {pins : List (Addr × Obj)} {σ : St} {H : Hp} {s : Shared} {Q : VK} {k k' : Bool} (I : Inv X pins σ H s) (q : Q (.bl k) H) (e : k = k') : EP X pins σ Q (.bool k') s := by
  subst e
  exact ⟨.bl k, H, I, rfl, q⟩
theorem op_eq : OpR X (compareOp .Eq) rEq := by
  intro pins s σ H x y v u Q I rx ry h
  obtain ⟨hs, q⟩ := h
  cases x with
  | non =>
    cases rx
    cases y with
    | non => cases ry; exact PySem.EqNone.eq_none_none (fin_bl I q (by simp))
    | bl j => cases ry; exact PySem.EqNone.eq_none_bool (fin_bl I q (by simp))
    | int j => obtain ⟨t', rfl⟩ := ry; exact PySem.EqNone.eq_none_int (fin_bl I q (by simp))
    | str j => obtain ⟨t', rfl⟩ := ry; exact PySem.EqNone.eq_none_str (fin_bl I q (by simp))
    | _ => exact absurd (show false = true from hs) Bool.false_ne_true
  | bl i =>
    cases rx
    cases y with
    | non => cases ry; exact PySem.EqNone.eq_bool_none (fin_bl I q (by simp))
    | bl j => cases ry; exact eq_bool (fin_bl I q dec_bl)
    | str j => obtain ⟨t', rfl⟩ := ry; exact PySem.EqMixed.eq_bool_str (fin_bl I q (by simp))
    | _ => exact absurd (show false = true from hs) Bool.false_ne_true
  | int i =>
    obtain ⟨t, rfl⟩ := rx
    cases y with
    | non => cases ry; exact PySem.EqNone.eq_int_none (fin_bl I q (by simp))
    | int j => obtain ⟨t', rfl⟩ := ry; exact eq_int (fin_bl I q dec_int)
    | str j => obtain ⟨t', rfl⟩ := ry; exact PySem.EqMixed.eq_int_str (fin_bl I q (by simp))
    | _ => exact absurd (show false = true from hs) Bool.false_ne_true
  | str i =>
    obtain ⟨t, rfl⟩ := rx
    cases y with
    | non => cases ry; exact PySem.EqNone.eq_str_none (fin_bl I q (by simp))
    | bl j => cases ry; exact PySem.EqMixed.eq_str_bool (fin_bl I q (by simp))
    | int j => obtain ⟨t', rfl⟩ := ry; exact PySem.EqMixed.eq_str_int (fin_bl I q (by simp))
    | str j => obtain ⟨t', rfl⟩ := ry; exact eq_str (fin_bl I q dec_str)
    | _ => exact absurd (show false = true from hs) Bool.false_ne_true
  | byt i =>
    obtain ⟨t, rfl⟩ := rx
    cases y with
    | byt j => obtain ⟨t', rfl⟩ := ry; exact PySem.W.eq_bytes (fin_bl I q dec_byt)
    | _ => exact absurd (show false = true from hs) Bool.false_ne_true
  | _ => cases y <;> exact absurd (show false = true from hs) Bool.false_ne_true
theorem op_ne : OpR X (compareOp .NotEq) rNe := by
  intro pins s σ H x y v u Q I rx ry h
  obtain ⟨hs, q⟩ := h
  cases x with
  | non =>
    cases rx
    cases y with
    | non => cases ry; exact PySem.EqNone.ne_none_none (fin_bl I q (by simp))
    | bl j => cases ry; exact PySem.EqNone.ne_none_bool (fin_bl I q (by simp))
    | int j => obtain ⟨t', rfl⟩ := ry; exact PySem.EqNone.ne_none_int (fin_bl I q (by simp))
    | str j => obtain ⟨t', rfl⟩ := ry; exact PySem.EqNone.ne_none_str (fin_bl I q (by simp))
    | _ => exact absurd (show false = true from hs) Bool.false_ne_true
  | bl i =>
    cases rx
    cases y with
    | non => cases ry; exact PySem.EqNone.ne_bool_none (fin_bl I q (by simp))
    | bl j => cases ry; exact ne_bool (fin_bl I q (congrArg not dec_bl))
    | str j => obtain ⟨t', rfl⟩ := ry; exact PySem.EqMixed.ne_bool_str (fin_bl I q (by simp))
    | _ => exact absurd (show false = true from hs) Bool.false_ne_true
  | int i =>
    obtain ⟨t, rfl⟩ := rx
    cases y with
    | non => cases ry; exact PySem.EqNone.ne_int_none (fin_bl I q (by simp))
    | int j => obtain ⟨t', rfl⟩ := ry; exact ne_int (fin_bl I q (congrArg not dec_int))
    | str j => obtain ⟨t', rfl⟩ := ry; exact PySem.EqMixed.ne_int_str (fin_bl I q (by simp))
    | _ => exact absurd (show false = true from hs) Bool.false_ne_true
  | str i =>
    obtain ⟨t, rfl⟩ := rx
    cases y with
    | non => cases ry; exact PySem.EqNone.ne_str_none (fin_bl I q (by simp))
    | bl j => cases ry; exact PySem.EqMixed.ne_str_bool (fin_bl I q (by simp))
    | int j => obtain ⟨t', rfl⟩ := ry; exact PySem.EqMixed.ne_str_int (fin_bl I q (by simp))
    | str j => obtain ⟨t', rfl⟩ := ry; exact ne_str (fin_bl I q (congrArg not dec_str))
    | _ => exact absurd (show false = true from hs) Bool.false_ne_true
  | byt i =>
    obtain ⟨t, rfl⟩ := rx
    cases y with
    | byt j => obtain ⟨t', rfl⟩ := ry; exact PySem.W.ne_bytes (fin_bl I q (congrArg not dec_byt))
    | _ => exact absurd (show false = true from hs) Bool.false_ne_true
  | _ => cases y <;> exact absurd (show false = true from hs) Bool.false_ne_true

theorem op_lt : OpR X (compareOp .Lt) (rI0 fun i j => .bl (decide (i < j))) := opB0 fun _ _ _ _ _ _ _ q => lt_int q
theorem op_le : OpR X (compareOp .LtE) (rI0 fun i j => .bl (decide (i ≤ j))) := opB0 fun _ _ _ _ _ _ _ q => le_int q
theorem op_gt : OpR X (compareOp .Gt) (rI0 fun i j => .bl (decide (j < i))) := opB0 fun _ _ _ _ _ _ _ q => gt_int q
theorem op_ge : OpR X (compareOp .GtE) (rI0 fun i j => .bl (decide (j ≤ i))) := opB0 fun _ _ _ _ _ _ _ q => ge_int q
theorem op_lt_str : OpR X (compareOp .Lt) (fun x y H Q => ∃ i j, x = .str i ∧ y = .str j ∧ Q (.bl (decide (i.cps.toList < j.cps.toList))) H) := by
  intro pins s σ H x y v u Q I rx ry h
  obtain ⟨i, j, rfl, rfl, q⟩ := h
  obtain ⟨t, rfl⟩ := rx
  obtain ⟨t', rfl⟩ := ry
  exact lt_str (fin_bl I q rfl)
/-- the one string within the other -/
theorem op_in_str : OpR X (compareOp .In) (fun x y H Q => ∃ i j, x = .str i ∧ y = .str j ∧ Q (.bl (!(Builtin.Str.occurrences j i 0 j.length 1).isEmpty)) H) := by
  intro pins s σ H x y v u Q I rx ry h
  obtain ⟨i, j, rfl, rfl, q⟩ := h
  obtain ⟨t, rfl⟩ := rx
  obtain ⟨t', rfl⟩ := ry
  exact in_str (fin_bl I q rfl)

/-- is None, is not None: the right side a value none -/
theorem op_isN : OpR X (compareOp .Is) (fun x y H Q => y = .non ∧ Q (.bl (decide (x = .non))) H) := by
  intro pins s σ H x y v u Q I rx ry h
  obtain ⟨rfl, q⟩ := h
  cases ry
  refine is_none_gen (fin_bl I q ?_)
  cases x <;> first
    | (cases rx; rfl)
    | (obtain ⟨t, rfl⟩ := rx; rfl)
theorem op_notN : OpR X (compareOp .IsNot) (fun x y H Q => y = .non ∧ Q (.bl (!decide (x = .non))) H) := by
  intro pins s σ H x y v u Q I rx ry h
  obtain ⟨rfl, q⟩ := h
  cases ry
  refine isnot_none_gen (fin_bl I q ?_)
  cases x <;> first
    | (cases rx; rfl)
    | (obtain ⟨t, rfl⟩ := rx; rfl)

theorem op_notin_str : OpR X (compareOp .NotIn) (fun x y H Q => ∃ i j, x = .str i ∧ y = .str j ∧ Q (.bl (!(!(Builtin.Str.occurrences j i 0 j.length 1).isEmpty))) H) := by
  intro pins s σ H x y v u Q I rx ry h
  obtain ⟨i, j, rfl, rfl, q⟩ := h
  obtain ⟨t, rfl⟩ := rx
  obtain ⟨t', rfl⟩ := ry
  exact notIn_str (fin_bl I q rfl)
/-- is, is not of two objects that are tracked lists or instances -/
def isObj : HO → Bool
  | .lst _ => true
  | .ins _ _ _ => true
  | _ => false
theorem obj_there {pins : List (Addr × Obj)} {s : Shared} {σ : St} {H : Hp} {a : Addr} {o : HO} (I : Inv X pins σ H s) (h : H a = some o) (p : isObj o = true) : ∃ ob, s.heap.get? a = some ob ∧ ob.cls ≠ .type "tuple" := by
  cases o with
  | lst xs =>
    obtain ⟨_, its, n, _, e⟩ : xs.length ≤ sizeLine ∧ ∃ (its : List Value) (n : Nat), Vals xs its ∧ s.heap.get? a = some { cls := .type "list", data := .seq its.toArray n } := I.hok a _ h
    exact ⟨_, e, (by show Value.type "list" ≠ .type "tuple"; decide +kernel)⟩
  | ins C dx fs =>
    have x := I.hok a _ h
    obtain ⟨_, _, _, e, _⟩ := x
    exact ⟨_, e, (by show Value.ref C ≠ .type "tuple"; exact fun z => by cases z)⟩
  | _ => exact absurd (show false = true from p) Bool.false_ne_true
theorem op_is_ref : OpR X (compareOp .Is) (fun x y H Q => ∃ a b oa ob, x = .ref a ∧ y = .ref b ∧ H a = some oa ∧ isObj oa = true ∧ H b = some ob ∧ isObj ob = true ∧ Q (.bl (decide (a = b))) H) := by
  intro pins s σ H x y v u Q I rx ry h
  obtain ⟨a, b, oa, ob, rfl, rfl, ha, pa, hb, pb, q⟩ := h
  cases rx
  cases ry
  obtain ⟨o1, e1, n1⟩ := obj_there I ha pa
  obtain ⟨o2, e2, _⟩ := obj_there I hb pb
  by_cases z : a = b
  · subst z
    exact wpAny_is_ref_self (fin_bl I q (by simp))
  · exact wpAny_is_ref_other z e1 e2 n1 (fin_bl I q (by simp [z]))
theorem op_isnot_ref : OpR X (compareOp .IsNot) (fun x y H Q => ∃ a b oa ob, x = .ref a ∧ y = .ref b ∧ H a = some oa ∧ isObj oa = true ∧ H b = some ob ∧ isObj ob = true ∧ Q (.bl (!decide (a = b))) H) := by
  intro pins s σ H x y v u Q I rx ry h
  obtain ⟨a, b, oa, ob, rfl, rfl, ha, pa, hb, pb, q⟩ := h
  cases rx
  cases ry
  obtain ⟨o1, e1, n1⟩ := obj_there I ha pa
  obtain ⟨o2, e2, _⟩ := obj_there I hb pb
  by_cases z : a = b
  · subst z
    exact wpAny_isNot_ref_self (fin_bl I q (by simp))
  · exact wpAny_isNot_ref_other z e1 e2 n1 (fin_bl I q (by simp [z]))

/-- two rules for one operation: by cases -/
theorem OpR.or {f : Value → Value → Sem Value} {r r' : R2} (h : OpR X f r) (h' : OpR X f r') : OpR X f (fun x y H Q => r x y H Q ∨ r' x y H Q) := by
  intro pins s σ H x y v u Q I rx ry q
  rcases q with q | q
  · exact h pins s σ H x y v u Q I rx ry q
  · exact h' pins s σ H x y v u Q I rx ry q

theorem nomark (b : Expr) {op : CmpOp} (h : op ≠ .In := by decide) (h2 : op ≠ .NotIn := by decide) : behindInMarks op b = false := by
  have e1 : (op == CmpOp.In) = false := by cases op <;> first | rfl | exact absurd rfl h
  have e2 : (op == CmpOp.NotIn) = false := by cases op <;> first | rfl | exact absurd rfl h2
  cases b <;> simp [behindInMarks, e1, e2]
/-- a comparison as a value; hm: nomark b, or (for in, not in) by with_unfolding_all rfl -/
theorem pe_cmpR {op : CmpOp} {r : R2} (ho : OpR X (compareOp op) r) (ha : PE X a ta) (hb : PE X b tb) (hm : behindInMarks op b = false) : PE X (.Compare a [op] [b] pos) (tOp r ta tb) := by
  intro pins s σ H Q I h
  exact wpAny_Compare1 (binT ha hb I h fun v u s2 x y H2 I2 rx ry q => ho pins s2 σ H2 x y v u Q I2 rx ry q) hm
/-- a reading of a value as a test -/
def tTest (t : TE) : TT := fun σ H Q => t σ H fun x H' => ∃ k, x = .bl k ∧ Q k H'
theorem pt_cmpR {op : CmpOp} {r : R2} (ho : OpR X (compareOp op) r) (ha : PE X a ta) (hb : PE X b tb) (hm : behindInMarks op b = false) : PT X (.Compare a [op] [b] pos) (tTest (tOp r ta tb)) := by
  intro pins s σ H Q I h
  refine wpAny_isTrue_Compare1 (thn (ha pins s σ H _ I h) fun v s1 ⟨x, H1, I1, r1, q1⟩ => thn (hb pins s1 σ H1 _ I1 q1) fun u s2 ⟨y, H2, I2, r2, q2⟩ =>
    thn (ho pins s2 σ H2 x y v u _ I2 r1 r2 q2) fun c s3 ⟨z, H3, I3, r3, k, e, q3⟩ => ?_) hm
  subst e
  cases r3
  exact wpAny_truthy_bool ⟨H3, I3, q3⟩
/-- a op1 b op2 c -/
def tChain (r r' : R2) (ta tb tc : TE) : TE := fun σ H Q => ta σ H fun x H1 => tb σ H1 fun y H2 => r x y H2 fun z H3 => ∃ k, z = .bl k ∧
  (if k = true then tc σ H3 fun w' H4 => r' y w' H4 Q else Q (.bl false) H3)
theorem pe_chain {op op' : CmpOp} {r r' : R2} (ho : OpR X (compareOp op) r) (ho' : OpR X (compareOp op') r') (ha : PE X a ta) (hb : PE X b tb) (hc : PE X c tc)
    (hm : lastMarks [op, op'] [b, c] = false := by with_unfolding_all rfl) : PE X (.Compare a [op, op'] [b, c] pos) (tChain r r' ta tb tc) := by
  intro pins s σ H Q I h
  refine Compare_chain (thn (ha pins s σ H _ I h) fun v s1 ⟨x, H1, I1, r1, q1⟩ => chain_link (thn (hb pins s1 σ H1 _ I1 q1) fun u s2 ⟨y, H2, I2, r2, q2⟩ =>
    thn (ho pins s2 σ H2 x y v u _ I2 r1 r2 q2) fun d s3 ⟨z, H3, I3, r3, k, e, q3⟩ => ?_)) hm
  subst e
  cases r3
  refine wpAny_truthy_bool ?_
  cases k with
  | false => exact ite_ff ⟨.bl false, H3, I3, rfl, q3⟩
  | true => exact ite_tt (chain_last (thn (hc pins s3 σ H3 _ I3 q3) fun w' s4 ⟨z', H4, I4, r4, q4⟩ => ho' pins s4 σ H4 y z' u w' Q I4 r2 r4 q4))
theorem pt_chain {op op' : CmpOp} {r r' : R2} (ho : OpR X (compareOp op) r) (ho' : OpR X (compareOp op') r') (ha : PE X a ta) (hb : PE X b tb) (hc : PE X c tc)
    (hm : lastMarks [op, op'] [b, c] = false := by with_unfolding_all rfl) : PT X (.Compare a [op, op'] [b, c] pos) (tTest (tChain r r' ta tb tc)) := by
  intro pins s σ H Q I h
  refine isTrue_chain (thn (ha pins s σ H _ I h) fun v s1 ⟨x, H1, I1, r1, q1⟩ => test_link (thn (hb pins s1 σ H1 _ I1 q1) fun u s2 ⟨y, H2, I2, r2, q2⟩ =>
    thn (ho pins s2 σ H2 x y v u _ I2 r1 r2 q2) fun d s3 ⟨z, H3, I3, r3, k, e, q3⟩ => ?_)) hm
  subst e
  cases r3
  refine wpAny_truthy_bool ?_
  cases k with
  | false =>
    obtain ⟨k', e', q'⟩ := q3
    cases e'
    exact ite_ff ⟨H3, I3, q'⟩
  | true =>
    refine ite_tt (test_last (thn (hc pins s3 σ H3 _ I3 q3) fun w' s4 ⟨z', H4, I4, r4, q4⟩ => thn (ho' pins s4 σ H4 y z' u w' _ I4 r2 r4 q4) fun d' s5 ⟨z2, H5, I5, r5, k2, e2, q5⟩ => ?_))
    subst e2
    cases r5
    exact wpAny_truthy_bool ⟨H5, I5, q5⟩

/-! ### truth -/
/-- a value's truth by the abstract heap -/
def TruV (K : PySem.W.Frag) (x : V) (H : Hp) (k : Bool) : Prop :=
  match x with
  | .non => k = false
  | .bl b => k = b
  | .int i => k = (i != 0)
  | .str y => y.length ≤ sizeLine ∧ k = ((y.length : Int) != 0)
  | .byt y => y.size ≤ sizeLine ∧ k = ((y.size : Int) != 0)
  | .ref p => (∃ xs, SqL K H p xs ∧ k = !xs.isEmpty) ∨ (∃ xs, SqT K H p xs ∧ k = !xs.isEmpty) ∨ ∃ kvs, H p = some (.dK kvs) ∧ k = !kvs.isEmpty
  | _ => False
theorem isEmpty_kv {κ : Type} {kvs : List (κ × V)} {vs : List (κ × Value)} (r : KV kvs vs) : (!vs.isEmpty) = !kvs.isEmpty := by
  cases r <;> rfl
theorem isEmpty_of {xs : List V} {its : List Value} (r : Vals xs its) : (!its.toArray.isEmpty) = !xs.isEmpty := by
  cases r <;> simp
theorem line63 : (sizeLine : Nat) < 2 ^ 63 := by rw [sizeLine_eq]; decide
theorem tru_ok : TruR X (fun x H Q => ∃ k, TruV X.K x H k ∧ Q k H) := by
  intro pins s σ H x v Q I rx h
  obtain ⟨k, e, q⟩ := h
  have hl := line63
  have hs : sizeLine = 16777216 := sizeLine_eq
  cases x with
  | non =>
    cases rx
    have e' : k = false := e
    subst e'
    exact truthy_none ⟨H, I, q⟩
  | bl b =>
    cases rx
    have e' : k = b := e
    subst e'
    exact wpAny_truthy_bool ⟨H, I, q⟩
  | int i =>
    obtain ⟨t, rfl⟩ := rx
    have e' : k = (i != 0) := e
    subst e'
    exact PySem.P.truthy_int ⟨H, I, q⟩
  | str y =>
    obtain ⟨t, rfl⟩ := rx
    obtain ⟨hy, e'⟩ : y.length ≤ sizeLine ∧ k = ((y.length : Int) != 0) := e
    subst e'
    exact PySem.P.truthy_str (by omega) ⟨H, I.tok _, q⟩
  | byt y =>
    obtain ⟨t, rfl⟩ := rx
    obtain ⟨hy, e'⟩ : y.size ≤ sizeLine ∧ k = ((y.size : Int) != 0) := e
    subst e'
    exact PySem.W.truthy_bytes (by omega) ⟨H, I.tok _, q⟩
  | ref p =>
    cases rx
    have e' : (∃ xs, SqL X.K H p xs ∧ k = !xs.isEmpty) ∨ (∃ xs, SqT X.K H p xs ∧ k = !xs.isEmpty) ∨ ∃ kvs, H p = some (.dK kvs) ∧ k = !kvs.isEmpty := e
    rcases e' with ⟨xs, hx, e'⟩ | ⟨xs, hx, e'⟩ | ⟨kvs, hx, e'⟩
    · subst e'
      obtain ⟨its, r, pl, hz⟩ := I.list hx
      have hlen := r.length
      exact wpAny_truthy_list pl.isList (by simp only [List.size_toArray]; omega) ⟨H, I.tok _, by rw [isEmpty_of r]; exact q⟩
    · subst e'
      obtain ⟨its, r, pl, hz⟩ := I.tuple hx
      have hlen := r.length
      exact truthy_tuple pl (by simp only [List.size_toArray]; omega) ⟨H, I.tok _, by rw [isEmpty_of r]; exact q⟩
    · subst e'
      obtain ⟨hz, hS, vs, r, m⟩ : kvs.length ≤ sizeLine ∧ (p == sysModules) = false ∧ ∃ vs, KV kvs vs ∧ s.heap.DictOf (mixKind X.prog X.w) p vs := I.hok p _ hx
      have hlen : kvs.length = vs.length := Paired.length r
      exact wpAny_truthy_dict hS m (by omega) ⟨H, I.tok _, by rw [isEmpty_kv r]; exact q⟩
  | _ => exact (show False from e).elim
/-- any expression whose test is its value's truth (a name, a call, a subscript, a field ..: he by fun _ => rfl) -/
theorem pt_truth (ha : PE X a ta) (he : ∀ whole, isTrue a X.env whole = (do let v ← whole; standAt a.pos; holding [v] (truthy v))) :
    PT X a (fun σ H Q => ta σ H fun x H' => ∃ k, TruV X.K x H' k ∧ Q k H') := by
  intro pins s σ H Q I h
  exact isTrue_plain (thn (ha pins s σ H _ I h) fun v s1 ⟨x, H1, I1, r1, q1⟩ => tru_ok pins s1 σ H1 x v Q I1 r1 q1) (he _)

/-! ### strs and bytes -/
theorem pe_byt {x : List UInt8} {k : Nat} : PE X (.Constant (.bytes x) k pos) (fun _ H Q => Q (.byt x.toArray) H) := fun _ _ _ H _ I h => PySem.W.Constant_bytes ⟨.byt x.toArray, H, I.tok _, ⟨_, rfl⟩, h⟩
theorem op_add_str : OpR X (binaryOp .Add) (fun x y H Q => ∃ i j, x = .str i ∧ y = .str j ∧ i.length + j.length ≤ sizeLine ∧ Q (.str (i ++ j)) H) := by
  intro pins s σ H x y v u Q I rx ry h
  obtain ⟨i, j, rfl, rfl, hz, q⟩ := h
  obtain ⟨t, rfl⟩ := rx
  obtain ⟨t', rfl⟩ := ry
  exact add_str (fun t' tk => ⟨.str (i ++ j), H, I.tok _, ⟨_, rfl⟩, q⟩) hz
theorem iop_add_str : OpR X (inplaceOp .Add) (fun x y H Q => ∃ i j, x = .str i ∧ y = .str j ∧ i.length + j.length ≤ sizeLine ∧ Q (.str (i ++ j)) H) := by
  intro pins s σ H x y v u Q I rx ry h
  obtain ⟨i, j, rfl, rfl, hz, q⟩ := h
  obtain ⟨t, rfl⟩ := rx
  obtain ⟨t', rfl⟩ := ry
  exact iadd_str (fun t' tk => ⟨.str (i ++ j), H, I.tok _, ⟨_, rfl⟩, q⟩) hz
theorem op_add_byt : OpR X (binaryOp .Add) (fun x y H Q => ∃ i j, x = .byt i ∧ y = .byt j ∧ i.size + j.size ≤ 16777216 ∧ Q (.byt (i ++ j)) H) := by
  intro pins s σ H x y v u Q I rx ry h
  obtain ⟨i, j, rfl, rfl, hz, q⟩ := h
  obtain ⟨t, rfl⟩ := rx
  obtain ⟨t', rfl⟩ := ry
  exact PySem.W.KBy.add_bytes hz (fun t' tk => ⟨.byt (i ++ j), H, I.tok _, ⟨_, rfl⟩, q⟩)

def PlainIxT (b : Expr) : Prop := ∀ o i, subscripted b false o i = operate [o, i] (getItem o i)
/-- s[i], 0 ≤ i < len -/
theorem pe_item_str (ha : PE X a ta) (hb : PE X b tb) (hs : PlainIxT b) :
    PE X (.Subscript a b pos) (tOp (fun x y H Q => ∃ z i c, x = .str z ∧ y = .int i ∧ 0 ≤ i ∧ i < 2 ^ 63 ∧ i < z.length ∧ z.cps[i.toNat]? = some c ∧ Q (.str ⟨#[c]⟩) H) ta tb) := by
  intro pins s σ H Q I h
  refine Subscript_ (binT ha hb I h fun v u s2 x y H2 I2 rx ry q => ?_)
  obtain ⟨z, i, c, rfl, rfl, h0, h63, h1, hc, q⟩ := q
  obtain ⟨t, rfl⟩ := rx
  obtain ⟨t', rfl⟩ := ry
  have e : seqIndex? i z.length = some i.toNat := PySem.StrLaws.seqIndex_nonneg h0 h1
  exact tail_any (typeIs_str s2 z t) slot_str_getitem.lookup (getItem_str (c := c) (by
    have e1 : decide (i < -(2 ^ 63 : Int)) = false := decide_eq_false (by omega)
    have e2 : decide (i ≥ 2 ^ 63) = false := decide_eq_false (by omega)
    rw [e1, e2] <;> rfl) (by rw [e]; exact hc) ⟨.str ⟨#[c]⟩, H2, I2.tok _, ⟨_, rfl⟩, q⟩) (hs _ _)
/-- b[i], 0 ≤ i < len -/
theorem pe_item_byt (ha : PE X a ta) (hb : PE X b tb) (hs : PlainIxT b) :
    PE X (.Subscript a b pos) (tOp (fun x y H Q => ∃ (z : List UInt8) (i : Int), x = .byt z.toArray ∧ y = .int i ∧ z.length ≤ sizeLine ∧ 0 ≤ i ∧ i < z.length ∧ Q (.int ((z.getD i.toNat 0).toNat : Nat)) H) ta tb) := by
  intro pins s σ H Q I h
  refine Subscript_ (binT ha hb I h fun v u s2 x y H2 I2 rx ry q => ?_)
  obtain ⟨z, i, rfl, rfl, hz, h0, h1, q⟩ := q
  obtain ⟨t, rfl⟩ := rx
  obtain ⟨t', rfl⟩ := ry
  have hl : sizeLine = 16777216 := sizeLine_eq
  exact tail_any (PySem.W.typeIs_bytes s2 z.toArray t) PySem.W.FB.slot_bytes_getitem.lookup (PySem.W.getItem_bytes (by omega) h0 h1 ⟨.int ((z.getD i.toNat 0).toNat : Nat), H2, I2.tok _, ⟨_, rfl⟩, q⟩) (hs _ _)

/-! ### scalar builtins, by CallR -/
theorem vals1 {x : V} {us : List Value} (r : Vals [x] us) : ∃ u, us = [u] ∧ RelV x u := by
  cases r with
  | cons r1 r2 => cases r2; exact ⟨_, rfl, r1⟩
theorem vals2 {x y : V} {us : List Value} (r : Vals [x, y] us) : ∃ u w', us = [u, w'] ∧ RelV x u ∧ RelV y w' := by
  cases r with
  | cons r1 r2 =>
    cases r2 with
    | cons r3 r4 => cases r4; exact ⟨_, _, rfl, r1, r3⟩
theorem call_abs : CallR X (.builtin "abs") (fun xs H Q => ∃ i, xs = [.int i] ∧ Q (.int (if i < 0 then -i else i)) H) := by
  intro pins s σ H xs us Q I r h
  obtain ⟨i, rfl, q⟩ := h
  obtain ⟨u, rfl, t, rfl⟩ := vals1 r
  exact call_abs_int fun u tk => ⟨.int (if i < 0 then -i else i), H, I.tok _, ⟨_, rfl⟩, q⟩
theorem call_max2 (hc : X.calm = true) : CallR X (.builtin "max") (fun xs H Q => ∃ i j, xs = [.int i, .int j] ∧ Q (.int (if j > i then j else i)) H) := by
  intro pins s σ H xs us Q I r h
  obtain ⟨i, j, rfl, q⟩ := h
  obtain ⟨u, w', rfl, ⟨t, rfl⟩, ⟨t', rfl⟩⟩ := vals2 r
  refine max_two_ints (I.ok.hd hc) fun h' tk k => ⟨_, H, I.kept k, ?_, q⟩
  by_cases hj : j > i
  · rw [if_pos hj, if_pos hj]; exact ⟨_, rfl⟩
  · rw [if_neg hj, if_neg hj]; exact ⟨_, rfl⟩
theorem call_min2 (hc : X.calm = true) : CallR X (.builtin "min") (fun xs H Q => ∃ i j, xs = [.int i, .int j] ∧ Q (.int (if j < i then j else i)) H) := by
  intro pins s σ H xs us Q I r h
  obtain ⟨i, j, rfl, q⟩ := h
  obtain ⟨u, w', rfl, ⟨t, rfl⟩, ⟨t', rfl⟩⟩ := vals2 r
  refine min_two_ints (I.ok.hd hc) fun h' tk k => ⟨_, H, I.kept k, ?_, q⟩
  by_cases hj : j < i
  · rw [if_pos hj, if_pos hj]; exact ⟨_, rfl⟩
  · rw [if_neg hj, if_neg hj]; exact ⟨_, rfl⟩
theorem call_int1 : CallR X (.type "int") (fun xs H Q => (∃ i, xs = [.int i] ∧ Q (.int i) H) ∨ ∃ k, xs = [.bl k] ∧ Q (.int (if k then 1 else 0)) H) := by
  intro pins s σ H xs us Q I r h
  rcases h with ⟨i, rfl, q⟩ | ⟨k, rfl, q⟩
  · obtain ⟨u, rfl, t, rfl⟩ := vals1 r
    exact call_int_int ⟨.int i, H, I, ⟨_, rfl⟩, q⟩
  · obtain ⟨u, rfl, r1⟩ := vals1 r
    cases r1
    exact call_int_bool ⟨.int (if k then 1 else 0), H, I.tok _, ⟨_, rfl⟩, q⟩
theorem call_bool1 : CallR X (.type "bool") (fun xs H Q => (∃ i, xs = [.int i] ∧ Q (.bl (i != 0)) H) ∨ ∃ k, xs = [.bl k] ∧ Q (.bl k) H) := by
  intro pins s σ H xs us Q I r h
  rcases h with ⟨i, rfl, q⟩ | ⟨k, rfl, q⟩
  · obtain ⟨u, rfl, t, rfl⟩ := vals1 r
    exact call_bool_int ⟨.bl (i != 0), H, I, rfl, q⟩
  · obtain ⟨u, rfl, r1⟩ := vals1 r
    cases r1
    exact call_bool_bool ⟨.bl k, H, I, rfl, q⟩
theorem call_str_int : CallR X (.type "str") (fun xs H Q => ∃ i, xs = [.int i] ∧ i.natAbs.log2 < 1920 ∧ Q (.str (toString i)) H) := by
  intro pins s σ H xs us Q I r h
  obtain ⟨i, rfl, hz, q⟩ := h
  obtain ⟨u, rfl, t, rfl⟩ := vals1 r
  exact PySem.P.str_of_int hz ⟨.str _, H, I.tok _, ⟨_, rfl⟩, q⟩
theorem call_ord : CallR X (.builtin "ord") (fun xs H Q => ∃ x, xs = [.str x] ∧ x.length = 1 ∧ Q (.int (x.cps.getD 0 0 : Nat)) H) := by
  intro pins s σ H xs us Q I r h
  obtain ⟨x, rfl, hz, q⟩ := h
  obtain ⟨u, rfl, t, rfl⟩ := vals1 r
  exact ord_of_one hz ⟨.int _, H, I.tok _, ⟨_, rfl⟩, q⟩
theorem call_chr : CallR X (.builtin "chr") (fun xs H Q => ∃ i, xs = [.int i] ∧ 0 ≤ i ∧ i ≤ 1114111 ∧ Q (.str ⟨#[i.toNat]⟩) H) := by
  intro pins s σ H xs us Q I r h
  obtain ⟨i, rfl, h0, h1, q⟩ := h
  obtain ⟨u, rfl, t, rfl⟩ := vals1 r
  exact chr_of_range h0 h1 ⟨.str _, H, I.tok _, ⟨_, rfl⟩, q⟩
/-- len of a str, a bytes, a list, a tuple -/
def LenV (K : PySem.W.Frag) (x : V) (H : Hp) (n : Nat) : Prop :=
  match x with
  | .str y => y.length ≤ sizeLine ∧ n = y.length
  | .byt y => y.size ≤ sizeLine ∧ n = y.size
  | .ref p => (∃ xs, SqL K H p xs ∧ n = xs.length) ∨ ∃ xs, SqT K H p xs ∧ n = xs.length
  | _ => False
theorem call_len : CallR X (.builtin "len") (fun xs H Q => ∃ x n, xs = [x] ∧ LenV X.K x H n ∧ Q (.int n) H) := by
  intro pins s σ H xs us Q I r h
  obtain ⟨x, n, rfl, e, q⟩ := h
  obtain ⟨u, rfl, rx⟩ := vals1 r
  have hl := line63
  have hs : sizeLine = 16777216 := sizeLine_eq
  cases x with
  | str y =>
    obtain ⟨t, rfl⟩ := rx
    obtain ⟨hy, e'⟩ : y.length ≤ sizeLine ∧ n = y.length := e
    subst e'
    exact len_str (by omega) ⟨.int _, H, I.tok _, ⟨_, rfl⟩, q⟩
  | byt y =>
    obtain ⟨t, rfl⟩ := rx
    obtain ⟨hy, e'⟩ : y.size ≤ sizeLine ∧ n = y.size := e
    subst e'
    exact PySem.W.len_bytes (by omega) ⟨.int _, H, I.tok _, ⟨_, rfl⟩, q⟩
  | ref p =>
    cases rx
    have e' : (∃ xs, SqL X.K H p xs ∧ n = xs.length) ∨ ∃ xs, SqT X.K H p xs ∧ n = xs.length := e
    rcases e' with ⟨xs, hx, e'⟩ | ⟨xs, hx, e'⟩
    · subst e'
      obtain ⟨its, r', pl, hz⟩ := I.list hx
      have hlen := r'.length
      exact Calls.call_len_list pl.isList (by simp only [List.size_toArray]; omega) ⟨.int xs.length, H, I.tok _, ⟨_, by simp only [List.size_toArray]; rw [hlen]⟩, q⟩
    · subst e'
      obtain ⟨its, r', pl, hz⟩ := I.tuple hx
      have hlen := r'.length
      exact len_tuple pl (by simp only [List.size_toArray]; omega) ⟨.int xs.length, H, I.tok _, ⟨_, by simp only [List.size_toArray]; rw [hlen]⟩, q⟩
  | _ => exact (show False from e).elim
/-- divmod: a new tuple -/
theorem call_divmod : CallR X (.builtin "divmod") (fun xs H Q => ∃ i j, xs = [.int i, .int j] ∧ CDiv i j ∧ ∀ p, H p = none → Q (.ref p) (upd H p (.tup [.int (i / j), .int (i % j)]))) := by
  intro pins s σ H xs us Q I r h
  obtain ⟨i, j, rfl, ⟨h1, h2⟩, q⟩ := h
  obtain ⟨u, w', rfl, ⟨t, rfl⟩, ⟨t', rfl⟩⟩ := vals2 r
  refine divmod_int (by omega) ?_ (.inl (PyProof.noPylong_small (by omega)))
  rw [Int.fdiv_eq_ediv_of_nonneg i (by omega), Int.fmod_eq_emod_of_nonneg i (by omega)]
  have hn : H s.heap.objs.size = none := I.hok.fresh (Nat.le_refl _)
  refine ⟨.ref s.heap.objs.size, _, ?_, rfl, q _ hn⟩
  refine I.laid (fun b o e => Heap.get?_push_of_some _ e) (Nat.le_refl _) ⟨by simp only [List.length_cons, List.length_nil]; rw [sizeLine_eq]; decide, [.int (i / j) s.toks, .int (i % j) (s.toks + 1)], .cons ⟨_, rfl⟩ (.cons ⟨_, rfl⟩ .nil), ?_⟩
  exact ⟨_, Heap.get?_push_size s.heap rfl, rfl, 0, rfl⟩
end
end L2

namespace L2
open PySem PySem.Spec PyProof.Rows

/-! ### an instance, its attributes a map -/
structure ObjM (h : Heap) (x dx C : Addr) (mA : Str → Option Value) : Prop where
  obj : h.get? x = some (PySem.W.instObj C dx)
  ns : h.Ns1 dx mA
  ne : dx ≠ x

theorem lookIn_ns {h : Heap} {dx : Addr} {mA : Str → Option Value} (n : h.Ns1 dx mA) : ∃ od, h.get? dx = some od ∧ ∀ name, PySem.W.lookIn name od = some (mA name) := by
  obtain ⟨o, es, ep, ho, hd, hk, _, hm⟩ := n
  refine ⟨o, ho, fun name => ?_⟩
  have e := hm name
  unfold nsFind findBy at e
  rw [← Array.find?_toList] at e
  unfold PySem.W.lookIn
  rw [hd]
  dsimp only
  split
  · rename_i y q
    rw [q] at e
    exact congrArg some e
  · rename_i q
    rw [q] at e
    have a : es.toList.any (·.refKey) = false := by
      rw [List.any_eq_false]
      intro y hy
      obtain ⟨z, t, hkey⟩ := hk y (Array.mem_toList_iff.mp hy)
      simp [DictEntry.refKey, hkey]
    have a' : ¬ es.toList.any (·.refKey) = true := by rw [a]; exact Bool.false_ne_true
    rw [if_neg a']
    exact congrArg some e

theorem ObjM.look {h : Heap} {x dx C : Addr} {mA : Str → Option Value} (I : ObjM h x dx C mA) : ∃ od, PySem.W.InstAt h x (PySem.W.instObj C dx) C (some od) ∧ ∀ name, PySem.W.lookIn name od = some (mA name) :=
  let ⟨od, ho, hl⟩ := lookIn_ns I.ns
  ⟨od, ⟨I.obj, rfl, rfl, ho⟩, hl⟩

section
variable {prog : Program} {w : World} {A : Around} {E : Value → Shared → Prop} {s : Shared} {K : PySem.W.Frag} {x dx C f : Addr} {mA : Str → Option Value} {name : Str} {v : Value}

theorem get_map {expr : Bool} {Q : Value → Shared → Prop} (X : K.In s.heap) (I : ObjM s.heap x dx C mA) (hg : PySem.W.plainGet K C name = true) (hh : PySem.W.hasDictIn K C = true)
    (ha : PySem.W.findIn K (.ref C) name = some none) (hv : mA name = some v) (hv' : PySem.W.handedIn v = true) (h : Q v { s with toks := s.toks + 1 }) :
    wpAny (model prog w) A (getAttr (.ref x) name expr) Q E s := by
  obtain ⟨od, J, hl⟩ := I.look
  exact PySem.W.get_value X J (PySem.W.plainGet_of hg).1 (PySem.W.findObj_own hh ha rfl (by rw [hl, hv])) hv' h

theorem get_const {expr : Bool} {a : Value} {Q : Value → Shared → Prop} (X : K.In s.heap) (I : ObjM s.heap x dx C mA) (hg : PySem.W.plainGet K C name = true) (hh : PySem.W.hasDictIn K C = true)
    (ha : PySem.W.findIn K (.ref C) name = some (some a)) (hn : PySem.W.specialIn K a "__get__" = some none) (hc : PySem.W.copiedNames.contains name = false) (hv : mA name = none) (hv' : PySem.W.handedIn a = true)
    (h : Q a { s with toks := s.toks + 1 }) : wpAny (model prog w) A (getAttr (.ref x) name expr) Q E s := by
  obtain ⟨od, J, hl⟩ := I.look
  exact PySem.W.get_value X J (PySem.W.plainGet_of hg).1 (PySem.W.findObj_cls hh ha hn hv' hc (by rw [hl, hv])) hv' h

theorem get_meth {pl : Sem Bool} {Q : Value × List Value → Shared → Prop} (X : K.In s.heap) (I : ObjM s.heap x dx C mA) (hg : PySem.W.plainGet K C name = true)
    (hf : PySem.W.findIn K (.ref C) name = some (some (.ref f))) (ht : PySem.W.isFn K (.ref f) = true) (hv : mA name = none) (h : Q (.ref f, [.ref x]) s) :
    wpAny (model prog w) A (getMethod (.ref x) name pl) Q E s := by
  obtain ⟨od, J, hl⟩ := I.look
  exact PySem.W.method_fn X J (PySem.W.plainGet_of hg).1 (PySem.W.plainGet_of hg).2 hf (beq_iff_eq.mp ht) (by show (PySem.W.lookIn name od).map (·.isSome) = some false; rw [hl, hv]; rfl) h

theorem set_map {ns : List Str} {Q : Unit → Shared → Prop} (X : K.In s.heap) (I : ObjM s.heap x dx C mA)
    (hs : PySem.W.findIn K (.ref C) "__setattr__" = some (some (.builtin "object.__setattr__"))) (hp : PySem.W.plainOver K C = true) (ht : PySem.W.takerIn K C name = some none) (hh : PySem.W.hasDictIn K C = true)
    (hw : PySem.Within mA ns) (hsz : ns.length ≤ sizeLine)
    (h : ∀ h', ObjM h' x dx C (fun y => if y = name then some v else mA y) → Heap.SameBut dx s.heap h' → Q () { s with heap := h', toks := s.toks + 2 }) :
    wpAny (model prog w) A (setAttr (.ref x) name v) Q E s := by
  obtain ⟨od, J, hl⟩ := I.look
  refine PySem.W.set_plain X J hs (PySem.W.osa_open (s := { s with toks := s.toks + 1 }) (r := none) X J hp ht fun b => ?_)
  obtain ⟨cd, hc, hd'⟩ := PySem.W.any_some hh
  have hx : s.heap.get? x = some ⟨.ref C, some dx, .plain, #[]⟩ := I.obj
  refine wpAny_bind (wpAny_pure (wpAny_bind (wpAny_bind (wpAny_loadPart hx (wpAny_bind (PySem.W.Looks.here (s := { s with toks := s.toks + 1 }) (PySem.W.looks_clsIn X hc) ?_))))))
  rw [hd']
  refine wpAny_pure (a := some dx) (wpAny_bind (wpAny_pure (wpAny_bind ?_)))
  refine wpAny_nsSet1 (s := { s with toks := s.toks + 1 }) I.ns fun h' hn2 hs2 => ?_
  obtain ⟨oD, esD, epD, hoD, hdD, hcD⟩ := hn2.count (PySem.Within.cons name v hw)
  refine wpAny_bind (wpAny_lookBehind hoD (by rw [hdD]; exact pastItsLine_dict (Nat.le_trans hcD (by rw [List.length_cons]; omega))) ?_)
  exact wpAny_pure (h _ ⟨(hs2.2 _ (Ne.symm I.ne)).trans I.obj, hn2, I.ne⟩ hs2)

/-- C(..): the dict at the heap's end, the instance behind it; then its __init__ -/
theorem make_map {R : Result → Shared → Prop} {vs : List Value} {kw : List (Str × Value)} (X : K.In s.heap) (hm : PySem.W.makesIn K C = true)
    (hi : PySem.W.findIn K (.ref C) "__init__" = some (some (.ref f))) (hf : PySem.W.typeIn K (.ref f) = some (.type "function"))
    (h : codeAny (model prog w) (A.under (.builtin "type.__call__" ⟨.ref C :: vs, kw⟩)) (.call (.ref f) ⟨.ref (s.heap.objs.size + 1) :: vs, kw⟩) (PySem.W.InitBack (s.heap.objs.size + 1) R)
      { s with heap := (s.heap.push PySem.W.emptyDict).push (PySem.W.instObj C s.heap.objs.size) }) :
    codeAny (model prog w) A (.call (.ref C) ⟨vs, kw⟩) R s := by
  obtain ⟨hh, g, d, t, os⟩ := s
  exact PySem.W.make_core (PySem.W.makes_of X hm) (PySem.W.looks_findIn X hi) (fun self => PySem.W.bind_fn X self hf) (.inl rfl) h
/-- C() where there is no __init__ but object's -/
theorem make_map0 {R : Result → Shared → Prop} (X : K.In s.heap) (hm : PySem.W.makesIn K C = true)
    (hi : PySem.W.findIn K (.ref C) "__init__" = some (some (.builtin "object.__init__")))
    (hb : ∀ self, PySem.W.Looks (model prog w) s.heap (bindSpecial (.builtin "object.__init__") self) (.builtin "object.__init__", [self]))
    (h : codeAny (model prog w) (A.under (.builtin "type.__call__" ⟨[.ref C], []⟩)) (.call (.builtin "object.__init__") ⟨[.ref (s.heap.objs.size + 1)], []⟩) (PySem.W.InitBack (s.heap.objs.size + 1) R)
      { s with heap := (s.heap.push PySem.W.emptyDict).push (PySem.W.instObj C s.heap.objs.size) }) :
    codeAny (model prog w) A (.call (.ref C) ⟨[], []⟩) R s := by
  obtain ⟨hh, g, d, t, os⟩ := s
  exact PySem.W.make_core (PySem.W.makes_of X hm) (PySem.W.looks_findIn X hi) hb (.inr ⟨rfl, rfl⟩) h
end

/-! ### the attributes as a list of pairs -/
def putF (f : Str) (v : V) : List (Str × V) → List (Str × V)
  | [] => [(f, v)]
  | (g, x) :: r => if g = f then (g, v) :: r else (g, x) :: putF f v r
theorem lookup_putF (f g : Str) (v : V) : ∀ fs : List (Str × V), (putF f v fs).lookup g = if g = f then some v else fs.lookup g
  | [] => by
    show List.lookup g [(f, v)] = _
    by_cases h : g = f
    · have hb : (g == f) = true := beq_iff_eq.mpr h
      simp only [List.lookup, hb, if_pos h]
    · have hb : (g == f) = false := beq_eq_false_iff_ne.mpr h
      simp only [List.lookup, hb, if_neg h]
  | (k, x) :: r => by
    have ih := lookup_putF f g v r
    rw [show putF f v ((k, x) :: r) = (if k = f then (k, v) :: r else (k, x) :: putF f v r) from rfl]
    by_cases hk : k = f
    · rw [if_pos hk]
      by_cases h : g = k
      · have hb : (g == k) = true := beq_iff_eq.mpr h
        simp only [List.lookup, hb, if_pos (h.trans hk)]
      · have hb : (g == k) = false := beq_eq_false_iff_ne.mpr h
        simp only [List.lookup, hb, if_neg (fun e : g = f => h (e.trans hk.symm))]
    · rw [if_neg hk]
      by_cases h : g = k
      · have hb : (g == k) = true := beq_iff_eq.mpr h
        simp only [List.lookup, hb, if_neg (fun e : g = f => hk (h.symm.trans e))]
      · have hb : (g == k) = false := beq_eq_false_iff_ne.mpr h
        simp only [List.lookup, hb]
        exact ih
theorem keys_putF (f : Str) (v : V) : ∀ fs : List (Str × V), f ∈ (putF f v fs).map (·.1) ∧ ∀ g, g ∈ fs.map (·.1) → g ∈ (putF f v fs).map (·.1)
  | [] => ⟨by simp [putF], fun g h => by simp at h⟩
  | (k, x) :: r => by
    obtain ⟨i1, i2⟩ := keys_putF f v r
    rw [show putF f v ((k, x) :: r) = (if k = f then (k, v) :: r else (k, x) :: putF f v r) from rfl]
    by_cases hk : k = f
    · rw [if_pos hk]
      subst hk
      exact ⟨by simp, fun g h => by simpa using h⟩
    · rw [if_neg hk]
      refine ⟨?_, fun g h => ?_⟩
      · rw [List.map_cons]
        exact List.mem_cons_of_mem _ i1
      · rw [List.map_cons] at h ⊢
        rcases List.mem_cons.mp h with e | e
        · exact List.mem_cons.mpr (.inl e)
        · exact List.mem_cons_of_mem _ (i2 g e)
theorem length_putF (f : Str) (v : V) : ∀ fs : List (Str × V), (putF f v fs).length ≤ fs.length + 1
  | [] => by simp [putF]
  | (k, x) :: r => by
    have ih := length_putF f v r
    rw [show putF f v ((k, x) :: r) = (if k = f then (k, v) :: r else (k, x) :: putF f v r) from rfl]
    by_cases hk : k = f
    · rw [if_pos hk, List.length_cons, List.length_cons]; omega
    · rw [if_neg hk, List.length_cons, List.length_cons]; omega

theorem RelO.some_of {v : V} {o : Option Value} (r : RelO (some v) o) : ∃ u, o = some u ∧ RelV v u := by
  cases o with
  | none => exact (show False from r).elim
  | some u => exact ⟨u, rfl, r⟩
theorem RelO.none_of {o : Option Value} (r : RelO none o) : o = none := by
  cases o with
  | none => rfl
  | some u => exact (show False from r).elim
theorem handed_of {v : V} {u : Value} (r : RelV v u) : PySem.W.handedIn u = true := by
  cases v with
  | non => cases (show u = Value.none from r); rfl
  | bl b => cases (show u = Value.bool b from r); rfl
  | int i => obtain ⟨t, e⟩ := (show ∃ t, u = Value.int i t from r); cases e; rfl
  | str x => obtain ⟨t, e⟩ := (show ∃ t, u = Value.str x t from r); cases e; rfl
  | byt b => obtain ⟨t, e⟩ := (show ∃ t, u = Value.bytes b t from r); cases e; rfl
  | flt b => obtain ⟨t, e⟩ := (show ∃ t, u = Value.float b t from r); cases e; rfl
  | ref a => cases (show u = Value.ref a from r); rfl
  | ty n => cases (show u = Value.type n from r); rfl

section
variable {P : Program} {w : World} {H H' : Hp} {h h' : Heap} {a C dx : Addr} {fs fs' : List (Str × V)}
theorem ins_get (hok : HOk P w H h) (e : H a = some (.ins C dx fs)) : ∃ mA, ObjM h a dx C mA ∧ (∀ f, RelO (fs.lookup f) (mA f)) ∧ PySem.Within mA (fs.map (·.1)) ∧ fs.length ≤ 1000 ∧ H dx = some (.own a) := by
  obtain ⟨d, z, ne, ob, mA, n, r, q⟩ := (show ObjOk P w H h a (.ins C dx fs) from hok a _ e)
  exact ⟨mA, ⟨ob, n, ne⟩, r, q, z, d⟩
end

/-! ### what of the text a class must have -/
structure Cls (K : PySem.W.Frag) (C : Addr) : Prop where
  pg : PySem.W.plainGet K C Str.empty = true
  hd : PySem.W.hasDictIn K C = true
  po : PySem.W.plainOver K C = true
  sa : PySem.W.findIn K (.ref C) "__setattr__" = some (some (.builtin "object.__setattr__"))
theorem Cls.get {K : PySem.W.Frag} {C : Addr} (c : Cls K C) (f : Str) : PySem.W.plainGet K C f = true := c.pg
/-- no class of it has the name -/
def NoAttr (K : PySem.W.Frag) (C : Addr) (f : Str) : Prop := PySem.W.findIn K (.ref C) f = some none
theorem NoAttr.taker {K : PySem.W.Frag} {C : Addr} {f : Str} (n : NoAttr K C f) : PySem.W.takerIn K C f = some none := by
  unfold PySem.W.takerIn
  rw [show PySem.W.findIn K (.ref C) f = some none from n]
  rfl
/-- a constant of the class -/
structure Con (K : PySem.W.Frag) (C : Addr) (f : Str) (v : V) (u : Value) : Prop where
  at_ : PySem.W.findIn K (.ref C) f = some (some u)
  rel : RelV v u
  get : PySem.W.specialIn K u "__get__" = some none
  cp : PySem.W.copiedNames.contains f = false
/-- a method: a plain def of the class or of one above it -/
structure Meth (K : PySem.W.Frag) (C : Addr) (m : Str) (f : Addr) : Prop where
  at_ : PySem.W.findIn K (.ref C) m = some (some (.ref f))
  fn : PySem.W.isFn K (.ref f) = true
  kp : PySem.W.keepIn K (.ref f) = true

section
variable {X : Cx} {pins : List (Addr × Obj)} {σ : St} {H : Hp} {s : Shared} {a C dx : Addr} {fs : List (Str × V)} {f : Str} {v : V} {A : Around} {E : Value → Shared → Prop}

theorem getattr_ok {b : Bool} {Q : Value → Shared → Prop} (I : Inv X pins σ H s) (e : H a = some (.ins C dx fs)) (c : Cls X.K C) (n : NoAttr X.K C f) (l : fs.lookup f = some v)
    (h : ∀ u s', Inv X pins σ H s' → RelV v u → Q u s') : wpAny (model X.prog X.w) A (getAttr (.ref a) f b) Q E s := by
  obtain ⟨mA, O, r, _, _, _⟩ := ins_get I.hok e
  obtain ⟨u, hu, ru⟩ := RelO.some_of (v := v) (o := mA f) (by rw [← l]; exact r f)
  exact get_map I.kIn O (c.get f) c.hd n hu (handed_of ru) (h u _ (I.tok _) ru)

theorem getcon_ok {b : Bool} {u : Value} {Q : Value → Shared → Prop} (I : Inv X pins σ H s) (e : H a = some (.ins C dx fs)) (c : Cls X.K C) (k : Con X.K C f v u) (l : fs.lookup f = none)
    (h : ∀ s', Inv X pins σ H s' → Q u s') : wpAny (model X.prog X.w) A (getAttr (.ref a) f b) Q E s := by
  obtain ⟨mA, O, r, _, _, _⟩ := ins_get I.hok e
  have hn : mA f = none := RelO.none_of (by rw [← l]; exact r f)
  exact get_const I.kIn O (c.get f) c.hd k.at_ k.get k.cp hn (handed_of k.rel) (h _ (I.tok _))

theorem getmeth_ok {m : Str} {g : Addr} {pl : Sem Bool} {Q : Value × List Value → Shared → Prop} (I : Inv X pins σ H s) (e : H a = some (.ins C dx fs)) (c : Cls X.K C) (k : Meth X.K C m g) (l : fs.lookup m = none)
    (h : Q (.ref g, [.ref a]) s) : wpAny (model X.prog X.w) A (getMethod (.ref a) m pl) Q E s := by
  obtain ⟨mA, O, r, _, _, _⟩ := ins_get I.hok e
  have hn : mA m = none := RelO.none_of (by rw [← l]; exact r m)
  exact get_meth I.kIn O (c.get m) k.at_ k.fn hn h

theorem setattr_ok {y : V} {u : Value} {Q : Unit → Shared → Prop} (I : Inv X pins σ H s) (e : H a = some (.ins C dx fs)) (c : Cls X.K C) (n : NoAttr X.K C f) (hl : fs.length < 1000) (ry : RelV y u)
    (h : ∀ s', Inv X pins σ (upd H a (.ins C dx (putF f y fs))) s' → Q () s') : wpAny (model X.prog X.w) A (setAttr (.ref a) f u) Q E s := by
  obtain ⟨mA, O, r, wi, _, ho⟩ := ins_get I.hok e
  have hz : (fs.map (·.1)).length ≤ sizeLine := by rw [List.length_map, sizeLine_eq]; omega
  refine set_map I.kIn O c.sa c.po n.taker c.hd wi hz fun h' O' sb => h _ ?_
  have hd : ∃ o, h'.get? dx = some o := let ⟨o, _, _, e', _⟩ := O'.ns; ⟨o, e'⟩
  refine I.write (x := a) (e := dx) (by rw [e]; exact True.intro) (.inr ho) (fun b q hb z => (sb.2 b hb).trans z) hd ?_
  refine ⟨by rw [upd_ne O.ne]; exact ho, ?_, O.ne, O'.obj, _, O'.ns, fun g => ?_, fun g hg => ?_⟩
  · have := length_putF f y fs; omega
  · show RelO ((putF f y fs).lookup g) (if g = f then some u else mA g)
    rw [lookup_putF]
    by_cases q : g = f
    · rw [if_pos q, if_pos q]; exact ry
    · rw [if_neg q, if_neg q]; exact r g
  · by_cases q : g = f
    · rw [q]; exact (keys_putF f y fs).1
    · refine (keys_putF f y fs).2 g (wi g fun z => hg ?_)
      show (if g = f then some u else mA g) = none
      rw [if_neg q]; exact z

/-- a new instance, tracked, without attributes -/
theorem Inv.made (I : Inv X pins σ H s) : Inv X pins σ (upd (upd H s.heap.objs.size (.own (s.heap.objs.size + 1))) (s.heap.objs.size + 1) (.ins C s.heap.objs.size []))
    { s with heap := (s.heap.push PySem.W.emptyDict).push (PySem.W.instObj C s.heap.objs.size) } := by
  have e1 : (s.heap.push PySem.W.emptyDict).get? s.heap.objs.size = some PySem.W.emptyDict := Heap.get?_push_size s.heap rfl
  have e2 : ((s.heap.push PySem.W.emptyDict).push (PySem.W.instObj C s.heap.objs.size)).get? (s.heap.objs.size + 1) = some (PySem.W.instObj C s.heap.objs.size) := by
    have := Heap.get?_push_size (s.heap.push PySem.W.emptyDict) (o := PySem.W.instObj C s.heap.objs.size) rfl
    rwa [Heap.size_push] at this
  have e3 : (s.heap.push PySem.W.emptyDict).Ns s.heap.objs.size (fun _ => none) := ⟨PySem.W.emptyDict, #[], _, e1, rfl, (fun e he => absurd he (by simp)), fun _ => rfl⟩
  have I1 := I.laid (a := s.heap.objs.size) (o := .own (s.heap.objs.size + 1)) (h' := s.heap.push PySem.W.emptyDict) (t' := s.toks) (fun b u q => Heap.get?_push_of_some _ q) (Nat.le_refl _) ⟨_, e1⟩
  refine I1.laid (a := s.heap.objs.size + 1) (o := .ins C s.heap.objs.size []) (t' := s.toks) (fun b u q => Heap.get?_push_of_some _ q) (Nat.le_of_eq (Heap.size_push _ _)) ?_
  have ne : s.heap.objs.size ≠ s.heap.objs.size + 1 := Nat.ne_of_lt (Nat.lt_succ_self _)
  refine ⟨by rw [upd_ne ne, upd_same], Nat.zero_le _, ne, e2, fun _ => none, (Heap.Ns1.of_empty e3).at fun o q => Heap.get?_push_of_some _ q, fun _ => True.intro, fun y hy => absurd rfl hy⟩

/-- e.f where nothing but the object is asked: through attributeBase (super) and the last hold -/
theorem attr_of {prog : Program} {w : World} {env : Env} {e : Expr} {f : Str} {pos : Pos} {s : Shared} {Q : Value → Shared → Prop} (hb : attributeBase e f env (eval e env) = eval e env)
    (h : wpAny (model prog w) A (eval e env) (fun o s₁ => wpAny (model prog w) A (getAttr o f true) Q E s₁) E s) : wpAny (model prog w) A (eval (.Attribute e f pos) env) Q E s :=
  Attribute_any_ h (by rw [arm_eval_Attribute, hb])
end

/-! ### readings and rules -/
/-- e.f, an attribute of the instance -/
def tFld (K : PySem.W.Frag) (ta : TE) (f : Str) : TE := fun σ H Q => ta σ H fun x H1 => ∃ a C dx fs v, x = .ref a ∧ H1 a = some (.ins C dx fs) ∧ Cls K C ∧ NoAttr K C f ∧ fs.lookup f = some v ∧ Q v H1
/-- e.f, a constant of the class -/
def tCon (K : PySem.W.Frag) (ta : TE) (f : Str) : TE := fun σ H Q => ta σ H fun x H1 => ∃ a C dx fs v u, x = .ref a ∧ H1 a = some (.ins C dx fs) ∧ Cls K C ∧ Con K C f v u ∧ fs.lookup f = none ∧ Q v H1
/-- e.f = value -/
def sFld (K : PySem.W.Frag) (ta tv : TE) (f : Str) : TS := fun D σ H => tv σ H fun y H1 => ta σ H1 fun x H2 => ∃ a C dx fs, x = .ref a ∧ H2 a = some (.ins C dx fs) ∧ Cls K C ∧ NoAttr K C f ∧ fs.length < 1000 ∧
  D.nx σ (upd H2 a (.ins C dx (putF f y fs)))
/-- an augmented operator on two values -/
def InOp (X : Cx) (op : Operator) (rd : V → V → Hp → VK → Prop) : Prop :=
  ∀ (pins : List (Addr × Obj)) (s : Shared) (σ : St) (H : Hp) (x y : V) (u v : Value) (Q : VK), Inv X pins σ H s → RelV x u → RelV y v → rd x y H Q → wpAny (model X.prog X.w) X.A (inplaceOp op u v) (EP X pins σ Q) X.xe s
/-- e.f op= value -/
def sFldAug (K : PySem.W.Frag) (ta tv : TE) (rd : V → V → Hp → VK → Prop) (f : Str) : TS := fun D σ H => ta σ H fun x H1 => ∃ a C dx fs v, x = .ref a ∧ H1 a = some (.ins C dx fs) ∧ Cls K C ∧ NoAttr K C f ∧ fs.lookup f = some v ∧
  tv σ H1 fun y H2 => rd v y H2 fun z H3 => ∃ dx' fs', H3 a = some (.ins C dx' fs') ∧ fs'.length < 1000 ∧ D.nx σ (upd H3 a (.ins C dx' (putF f z fs')))

section
variable {X : Cx} {o e value : Expr} {f : Str} {pos pos' tpos : Pos} {ta tv : TE}
theorem pe_fld (he : PE X e ta) (hb : attributeBase e f X.env (eval e X.env) = eval e X.env) : PE X (.Attribute e f pos) (tFld X.K ta f) := by
  intro pins s σ H Q I h
  refine attr_of hb (thn (he pins s σ H _ I h) fun u s1 ⟨x, H1, I1, rx, a, C, dx, fs, v, ex, ea, c, n, l, q⟩ => ?_)
  subst ex
  obtain rfl : u = Value.ref a := rx
  exact getattr_ok I1 ea c n l fun u' s2 I2 ru => ⟨v, H1, I2, ru, q⟩
theorem pe_con (he : PE X e ta) (hb : attributeBase e f X.env (eval e X.env) = eval e X.env) : PE X (.Attribute e f pos) (tCon X.K ta f) := by
  intro pins s σ H Q I h
  refine attr_of hb (thn (he pins s σ H _ I h) fun u s1 ⟨x, H1, I1, rx, a, C, dx, fs, v, u0, ex, ea, c, k, l, q⟩ => ?_)
  subst ex
  obtain rfl : u = Value.ref a := rx
  exact getcon_ok I1 ea c k l fun s2 I2 => ⟨v, H1, I2, k.rel, q⟩
theorem ps_fld (ha : PE X o ta) (hv : PE X value tv) (hs : swapsWith value (some (.Attribute o f pos')) pos.line X.env = pure false) : PS X (.Assign [.Attribute o f pos'] value pos) (sFld X.K ta tv f) := by
  intro pins s σ H D I h
  refine plainObj_wpAny_Assign_Attribute (thn (hv pins s σ H _ I h) fun u s1 ⟨y, H1, I1, ry, q⟩ => thn (ha pins s1 σ H1 _ I1 q) fun ov s2 ⟨x, H2, I2, rx, a, C, dx, fs, ex, ea, c, n, l, q2⟩ => ?_) hs
  subst ex
  obtain rfl : ov = Value.ref a := rx
  exact setattr_ok I2 ea c n l ry fun s3 I3 => ⟨σ, _, I3, q2⟩
theorem ps_fldaug {op : Operator} {rd : V → V → Hp → VK → Prop} (ha : PE X o ta) (hv : PE X value tv) (hop : InOp X op rd) : PS X (.AugAssign (.Attribute o f tpos) op value pos) (sFldAug X.K ta tv rd f) := by
  intro pins s σ H D I h
  refine wpAny_AugAssign_AttributeAny (thn (ha pins s σ H _ I h) fun ov s1 ⟨x, H1, I1, rx, a, C, dx, fs, v, ex, ea, c, n, l, q⟩ => ?_)
  subst ex
  obtain rfl : ov = Value.ref a := rx
  refine getattr_ok I1 ea c n l fun u s2 I2 ru => thn (hv pins s2 σ H1 _ I2 q) fun w3 s3 ⟨y, H2, I3, ry, q3⟩ => thn (hop pins s3 σ H2 v y u w3 _ I3 ru ry q3) fun w4 s4 ⟨z, H3, I4, rz, dx', fs', ea', l', q4⟩ => ?_
  exact setattr_ok I4 ea' c n l' rz fun s5 I5 => ⟨σ, _, I5, q4⟩
def rAdd : V → V → Hp → VK → Prop := fun x y H Q => ∃ i j, x = .int i ∧ y = .int j ∧ Q (.int (i + j)) H
def rSub : V → V → Hp → VK → Prop := fun x y H Q => ∃ i j, x = .int i ∧ y = .int j ∧ Q (.int (i - j)) H
theorem in_add : InOp X .Add rAdd := by
  rintro pins s σ H x y u v Q I rx ry ⟨i, j, rfl, rfl, q⟩
  obtain ⟨t, rfl⟩ := (show ∃ t, u = Value.int i t from rx)
  obtain ⟨t', rfl⟩ := (show ∃ t', v = Value.int j t' from ry)
  exact PyProof.Rows.iadd_int ⟨.int (i + j), H, I.tok _, ⟨_, rfl⟩, q⟩
theorem in_sub : InOp X .Sub rSub := by
  rintro pins s σ H x y u v Q I rx ry ⟨i, j, rfl, rfl, q⟩
  obtain ⟨t, rfl⟩ := (show ∃ t, u = Value.int i t from rx)
  obtain ⟨t', rfl⟩ := (show ∃ t', v = Value.int j t' from ry)
  exact PyProof.Rows.isub_int ⟨.int (i - j), H, I.tok _, ⟨_, rfl⟩, q⟩

/-- what is between an instance and its method: the tree of a method call -/
theorem methcall_of {pl : Sem Bool} {m : Str} {apos : Pos} {args : List Expr} {pins : List (Addr × Obj)} {s : Shared} {σ : St} {H : Hp} {Q : Value → Shared → Prop} {te : TE} (he : PE X e te) (I : Inv X pins σ H s)
    (h : te σ H fun x H1 => ∃ a C dx fs g, x = .ref a ∧ H1 a = some (.ins C dx fs) ∧ Cls X.K C ∧ Meth X.K C m g ∧ fs.lookup m = none ∧
      ∀ s1, Inv X pins σ H1 s1 → wpAny (model X.prog X.w) X.A (callWith pos (.ref g) [.ref a] (backTo pos (starEach args X.env)) (backToKw pos (keywordEach [] X.env))) Q X.xe s1)
    (ht : eval (.Call (.Attribute e m apos) args [] pos) X.env = (do
      let ov ← eval e X.env
      standAt apos.atName
      let (f, first) ← holding [ov] (getMethod ov m pl)
      callWith pos f first (backTo pos (starEach args X.env)) (backToKw pos (keywordEach [] X.env)))) :
    wpAny (model X.prog X.w) X.A (eval (.Call (.Attribute e m apos) args [] pos) X.env) Q X.xe s := by
  refine PySem.W.methodCall_KW (pl := pl) (thn (he pins s σ H _ I h) fun u s1 ⟨x, H1, I1, rx, a, C, dx, fs, g, ex, ea, c, k, l, q⟩ => ?_) ht
  subst ex
  obtain rfl : u = Value.ref a := rx
  exact getmeth_ok I1 ea c k l (q s1 I1)
end

/-! ### isinstance -/
section
variable {X : Cx} {pins : List (Addr × Obj)} {σ : St} {H : Hp} {s : Shared} {A : Around} {E : Value → Shared → Prop} {Q : Value → Shared → Prop} {c : Value} {b : Bool}
/-- the type of a value, as the fragment's deciders take it; for an instance its class -/
inductive TyOf (K : PySem.W.Frag) (H : Hp) : V → Value → Prop where
  | non : TyOf K H .non (.type "NoneType")
  | bl (x : Bool) : TyOf K H (.bl x) (.type "bool")
  | int (i : Int) : TyOf K H (.int i) (.type "int")
  | str (x : Str) : TyOf K H (.str x) (.type "str")
  | flt (x : UInt64) : TyOf K H (.flt x) (.type "float")
  | lst {a : Addr} {xs : List V} (e : H a = some (.lst xs)) : TyOf K H (.ref a) (.type "list")
  | frz {a : Addr} {o : Obj} {xs : List V} (e : H a = some (.frz o (.lst xs))) : TyOf K H (.ref a) (.type "list")
  | tup {a : Addr} {xs : List V} (e : H a = some (.tup xs)) : TyOf K H (.ref a) (.type "tuple")
  | dK {a : Addr} {kvs : List (Key × V)} (e : H a = some (.dK kvs)) : TyOf K H (.ref a) (.type "dict")
  | dT {a : Addr} {kvs : List (List Key × V)} (e : H a = some (.dT kvs)) : TyOf K H (.ref a) (.type "dict")
  | ins {a C dx : Addr} {fs : List (Str × V)} (e : H a = some (.ins C dx fs)) (cl : Cls K C) (ha : PySem.W.findIn K (.ref C) "__class__" = some (some (.builtin "object.__class__")))
      (hn : PySem.W.specialIn K (.builtin "object.__class__") "__get__" = some (some (.builtin "getset_descriptor.__get__"))) (htk : PySem.W.takesIn K (.builtin "object.__class__") = some true)
      (hm : PySem.W.mroIn K C (.type "object") = some true) : TyOf K H (.ref a) (.ref C)
/-- isinstance(x, c) for one class c, a built-in or an own one: kitOne's answer -/
theorem isinst_ok {x : V} {u t : Value} (I : Inv X pins σ H s) (rx : RelV x u) (ty : TyOf X.K H x t) (e : PySem.W.kitOne X.K t c = some b) (h : ∀ tk, Q (.bool b) { s with toks := tk }) :
    wpAny (model X.prog X.w) A (call (.builtin "isinstance") [u, c]) Q E s := by
  cases ty with
  | non => cases (show u = Value.none from rx); exact PySem.W.kia_one PySem.W.kitx_none I.kIn True.intro e (fun z => nomatch z) h
  | bl y => cases (show u = Value.bool y from rx); exact PySem.W.kia_one PySem.W.kitx_bool I.kIn True.intro e (fun z => nomatch z) h
  | int i => obtain ⟨t, q⟩ := (show ∃ t, u = Value.int i t from rx); cases q; exact PySem.W.kia_one PySem.W.kitx_int I.kIn True.intro e (fun z => nomatch z) h
  | str y => obtain ⟨t, q⟩ := (show ∃ t, u = Value.str y t from rx); cases q; exact PySem.W.kia_one PySem.W.kitx_str I.kIn True.intro e (fun z => nomatch z) h
  | flt y => obtain ⟨t, q⟩ := (show ∃ t, u = Value.float y t from rx); cases q; exact PySem.W.kia_one PySem.W.kitx_float I.kIn True.intro e (fun z => nomatch z) h
  | @lst a xs ea =>
    cases (show u = Value.ref a from rx)
    obtain ⟨_, _, n, _, h1⟩ := (show ObjOk X.prog X.w H s.heap a (.lst xs) from I.hok a _ ea)
    exact PySem.W.kia_one PySem.W.kitx_list I.kIn ⟨_, h1, rfl⟩ e (fun z => nomatch z) h
  | @frz a ob xs ea =>
    cases (show u = Value.ref a from rx)
    obtain ⟨_, _, _, n, _, h1⟩ := (show ObjOk X.prog X.w H s.heap a (.frz ob (.lst xs)) from I.hok a _ ea)
    exact PySem.W.kia_one PySem.W.kitx_list I.kIn ⟨_, h1, rfl⟩ e (fun z => nomatch z) h
  | @tup a xs ea =>
    cases (show u = Value.ref a from rx)
    obtain ⟨_, _, _, p⟩ := (show ObjOk X.prog X.w H s.heap a (.tup xs) from I.hok a _ ea)
    obtain ⟨o, h1, h2, _⟩ := p
    exact PySem.W.kia_one PySem.W.kitx_tuple I.kIn ⟨o, h1, h2⟩ e (fun z => nomatch z) h
  | @dK a kvs ea =>
    cases (show u = Value.ref a from rx)
    obtain ⟨_, _, vs, _, p⟩ := (show ObjOk X.prog X.w H s.heap a (.dK kvs) from I.hok a _ ea)
    obtain ⟨o, es, ep, h1, h2, _⟩ := p
    exact PySem.W.kia_one PySem.W.kitx_dict I.kIn ⟨o, h1, h2.1⟩ e (fun z => nomatch z) h
  | @dT a kvs ea =>
    cases (show u = Value.ref a from rx)
    obtain ⟨_, _, xs, _, o, es, ep, h1, h2, _⟩ := (show ObjOk X.prog X.w H s.heap a (.dT kvs) from I.hok a _ ea)
    exact PySem.W.kia_one PySem.W.kitx_dict I.kIn ⟨o, h1, h2.1⟩ e (fun z => nomatch z) h
  | @ins a C dx fs ea cl ha hn htk hm =>
    cases (show u = Value.ref a from rx)
    obtain ⟨mA, O, _⟩ := ins_get I.hok ea
    obtain ⟨od, J, _⟩ := O.look
    exact PySem.W.kia_one (PySem.W.kitx_own (cl.get _) cl.hd ha hn htk hm) I.kIn J e (fun z => nomatch z) h
end
end L2

namespace L2
open PySem PySem.Spec PyProof.Rows

/-! ### room -/
structure Room (k : Nat) (A : Around) : Prop where
  hd : A.handled = none
  dp : A.depth + 3 * k + 5 < recursionLimit
  un : A.units + 16 * k + 200 < cLine
theorem Room.mono {j k : Nat} {A : Around} (r : Room k A) (h : j ≤ k) : Room j A := ⟨r.hd, by have := r.dp; omega, by have := r.un; omega⟩
theorem Room.deeper {k : Nat} {A : Around} (r : Room (k + 1) A) (env : Env) : Room k (A.deeper env) :=
  ⟨r.hd, by have := r.dp; show A.depth + 1 + 3 * k + 5 < _; omega, by have := r.un; show A.units + 3 + 16 * k + 200 < _; omega⟩
theorem Room.in1 {k : Nat} {A : Around} (r : Room (k + 1) A) : Room k A.in1 :=
  ⟨r.hd, by have := r.dp; show A.depth + 3 * k + 5 < _; omega, by have := r.un; show A.units + 1 + 16 * k + 200 < _; omega⟩
theorem make_depth {A : Around} {C : Addr} {us : List Value} {kw : List (Str × Value)} : (A.under (.builtin "type.__call__" ⟨.ref C :: us, kw⟩)).depth = A.depth + 1 := by
  first | rfl | simp [Around.under, Code.weight, Code.isCreation, Code.isGuard, Code.isCaller, Code.frames, Code.isFrame, guardIds]
theorem make_units {A : Around} {C : Addr} {us : List Value} {kw : List (Str × Value)} : (A.under (.builtin "type.__call__" ⟨.ref C :: us, kw⟩)).units = A.units + 1 := by
  first | rfl | simp [Around.under, Code.cUnits, Code.frames, Code.isFrame]
theorem Room.make {k : Nat} {A : Around} (r : Room (k + 1) A) (C : Addr) (us : List Value) (kw : List (Str × Value)) : Room k (A.under (.builtin "type.__call__" ⟨.ref C :: us, kw⟩)) :=
  ⟨r.hd, by have := r.dp; rw [make_depth]; omega, by have := r.un; rw [make_units]; omega⟩
theorem Room.depth {k : Nat} {A : Around} (r : Room k A) : A.depth < recursionLimit := by have := r.dp; omega
theorem Room.units {k : Nat} {A : Around} (r : Room k A) : A.units + 64 < cLine := by have := r.un; omega
theorem Room.units0 {k : Nat} {A : Around} (r : Room k A) : A.units < cLine := by have := r.un; omega

/-! ### argument lists and displays -/
def tNil : TA := fun _ H Q => Q [] H
def tCons (ta : TE) (tr : TA) : TA := fun σ H Q => ta σ H fun x H1 => tr σ H1 fun xs H2 => Q (x :: xs) H2
section
variable {X : Cx} {e : Expr} {es : List Expr} {te : TE} {t : TA} {pos : Pos}
theorem pa_nil : PA X [] tNil := fun _ _ _ _ H Q I h => Calls.spliced_nil ⟨[], H, I, .nil, h⟩
theorem pa_cons (ha : PE X e te) (hr : PA X es t) (hs : starEach (e :: es) X.env = (false, eval e X.env) :: starEach es X.env := by rfl) : PA X (e :: es) (tCons te t) := by
  intro pos pins s σ H Q I h
  rw [hs]
  show wpAny _ _ (spliced ((false, eval e X.env) :: backTo pos (starEach es X.env))) _ _ s
  refine Calls.spliced_cons (thn (ha pins s σ H _ I h) fun u s1 ⟨x, H1, I1, r1, q1⟩ => ?_)
  exact thn (hr pos pins s1 σ H1 _ I1 q1) fun us s2 ⟨xs, H2, I2, r2, q2⟩ => ⟨x :: xs, H2, I2, .cons r1 r2, q2⟩

/-- a tuple, a list of written items -/
def tTup (t : TA) : TE := fun σ H Q => t σ H fun xs H1 => xs.length ≤ sizeLine ∧ ∀ p, H1 p = none → Q (.ref p) (upd H1 p (.tup xs))
def tLst (t : TA) : TE := fun σ H Q => t σ H fun xs H1 => xs.length ≤ sizeLine ∧ ∀ p, H1 p = none → Q (.ref p) (upd H1 p (.lst xs))
theorem pe_tup {x1} (h : PA X es t) : PE X (.Tuple es x1 pos) (tTup t) := by
  intro pins s σ H Q I hq
  refine wpAny_Tuple_spliced (thn (h pos pins s σ H _ I hq) fun us s1 ⟨xs, H1, I1, r, z, q⟩ => ⟨by rw [← r.length]; exact z, ?_⟩)
  have hf : H1 s1.heap.objs.size = none := I1.hok.fresh (Nat.le_refl _)
  refine ⟨.ref s1.heap.objs.size, upd H1 s1.heap.objs.size (.tup xs), I1.laid (t' := s1.toks) (fun b u e => Heap.get?_push_of_some _ e) (Nat.le_refl _) ?_, rfl, q _ hf⟩
  exact ⟨z, us, r, ⟨_, Heap.get?_push_size _ rfl, rfl, _, rfl⟩⟩
theorem pe_lst (h : PA X es t) : PE X (.List es pos) (tLst t) := by
  intro pins s σ H Q I hq
  refine wpAny_List_spliced (thn (h pos pins s σ H _ I hq) fun us s1 ⟨xs, H1, I1, r, z, q⟩ => ⟨by rw [← r.length]; exact z, ?_⟩)
  have hf : H1 s1.heap.objs.size = none := I1.hok.fresh (Nat.le_refl _)
  refine ⟨.ref s1.heap.objs.size, upd H1 s1.heap.objs.size (.lst xs), I1.laid (t' := s1.toks) (fun b u e => Heap.get?_push_of_some _ e) (Nat.le_refl _) ?_, rfl, q _ hf⟩
  exact ⟨z, us, 0, r, Heap.get?_push_size _ rfl⟩
end

/-! ### what a def promises -/
/-- a def's promise: the bound arguments in the parameters' order, the heap, the wanted end, the wanted exception -/
abbrev Sp := List V → Hp → VK → XK → Prop
/-- how an exception lies behind a call (file 08 gives it): the callers' frames, abstract heap and state ahead of the call, the wish, the exception, the state -/
abbrev CXT := List Env → Hp → Shared → XK → Value → Shared → Prop

/-- the state at a call -/
structure Env0 (P : Program) (w : World) (K : PySem.W.Frag) (mg : Str → Option Value) (base : Heap) (A : Around) (outer : List Env) (s : Shared) (H : Hp) : Prop where
  frames : A.frames = some outer
  mod : Mod K mg base
  bs : ∀ b o, base.get? b = some o → s.heap.get? b = some o ∧ H b = none
  bsz : base.objs.size ≤ s.heap.objs.size
  funs : s.heap.FunFrames base outer
  frf : ∀ b ∈ frs outer, H b = none
  hok : HOk P w H s.heap
  bare : AllBare s.gens
/-- a call's end -/
def CE (outer : List Env) (P : Program) (w : World) (H : Hp) (s : Shared) (Q : VK) (u : Value) (s' : Shared) : Prop :=
  ∃ v H', s'.os = s.os ∧ AllBare s'.gens ∧ Un (frs outer) [] H H' s.heap s'.heap ∧ HOk P w H' s'.heap ∧ RelV v u ∧ Q v H'
def CR (CX : CXT) (outer : List Env) (P : Program) (w : World) (H : Hp) (s : Shared) (Q : VK) (E : XK) (r : Result) (s' : Shared) : Prop :=
  match r with
  | .ok (.ret u) => CE outer P w H s Q u s'
  | .ok _ => False
  | .error e => CX outer H s E e s'
structure FnOk (P : Program) (w : World) (K : PySem.W.Frag) (mg : Str → Option Value) (base : Heap) (CX : CXT) (k : Nat) (f : Addr) (fd : FuncData) (ps : List Str) (sp : Sp) : Prop where
  len : ∀ vs H Q E, sp vs H Q E → vs.length = ps.length
  run : ∀ (A : Around) (outer : List Env) (s : Shared) (H : Hp) (args : Args) (us : List Value) (vs : List V) (Q : VK) (E : XK), Room k A → Env0 P w K mg base A outer s H → BindsTo s fd args (ps.zip us) → Vals vs us → sp vs H Q E →
    codeAny (model P w) A (.call (.ref f) args) (CR CX outer P w H s Q E) s
theorem FnOk.mono {P : Program} {w : World} {K : PySem.W.Frag} {mg : Str → Option Value} {base : Heap} {CX : CXT} {j k : Nat} {f : Addr} {fd : FuncData} {ps : List Str} {sp : Sp} (F : FnOk P w K mg base CX j f fd ps sp) (h : j ≤ k) :
    FnOk P w K mg base CX k f fd ps sp := ⟨F.len, fun A outer s H args us vs Q E hr => F.run A outer s H args us vs Q E (hr.mono h)⟩
/-- a weaker promise -/
theorem FnOk.imp {P : Program} {w : World} {K : PySem.W.Frag} {mg : Str → Option Value} {base : Heap} {CX : CXT} {k : Nat} {f : Addr} {fd : FuncData} {ps : List Str} {sp sp' : Sp} (F : FnOk P w K mg base CX k f fd ps sp)
    (h : ∀ vs H Q E, sp' vs H Q E → sp vs H Q E) : FnOk P w K mg base CX k f fd ps sp' :=
  ⟨fun vs H Q E q => F.len vs H Q E (h _ _ _ _ q), fun A outer s H args us vs Q E hr he hb hv hs => F.run A outer s H args us vs Q E hr he hb hv (h _ _ _ _ hs)⟩

theorem Env0.make {P : Program} {w : World} {K : PySem.W.Frag} {mg : Str → Option Value} {base : Heap} {A : Around} {outer : List Env} {s : Shared} {H : Hp} (e : Env0 P w K mg base A outer s H) (C : Addr) (us : List Value) (kw : List (Str × Value)) :
    Env0 P w K mg base (A.under (.builtin "type.__call__" ⟨.ref C :: us, kw⟩)) outer s H := ⟨by first | exact e.frames | (simpa [Around.under, Code.envs, Code.isFrame, pushEnvs] using e.frames), e.mod, e.bs, e.bsz, e.funs, e.frf, e.hok, e.bare⟩
theorem Env0.in1 {P : Program} {w : World} {K : PySem.W.Frag} {mg : Str → Option Value} {base : Heap} {A : Around} {outer : List Env} {s : Shared} {H : Hp} (e : Env0 P w K mg base A outer s H) :
    Env0 P w K mg base A.in1 outer s H := ⟨e.frames, e.mod, e.bs, e.bsz, e.funs, e.frf, e.hok, e.bare⟩

section
variable {X : Cx} {pins : List (Addr × Obj)} {σ : St} {H : Hp} {s s' : Shared}
/-- from a body: what a callee wants -/
theorem Inv.env0 (I : Inv X pins σ H s) : Env0 X.prog X.w X.K X.mg X.base X.A X.stack s H :=
  ⟨I.ok.frames, I.ok.mod, I.bs, Nat.le_trans I.ok.bsz I.sz, I.stack, I.stkFree, I.hok, I.bare⟩
/-- behind a call -/
theorem Inv.after {Q : VK} {u : Value} (I : Inv X pins σ H s) (h : CE X.stack X.prog X.w H s Q u s') : EP X pins σ Q u s' := by
  obtain ⟨v, H', os, bare, un, hok, r, q⟩ := h
  obtain ⟨hh, g, d, t, os'⟩ := s'
  obtain rfl : os' = s.os := os
  exact ⟨v, H', I.call (h' := hh) (g' := g) (d' := d) (t' := t) (ch := []) un hok bare (fun b z => absurd z (by simp)), r, q⟩
end

/-! ### calls -/
/-- f(..): the written arguments, then the defaults dvs; E: what is wanted of an exception -/
def tCall (sp : Sp) (dvs : List V) (E : XK) (t : TA) : TE := fun σ H Q => t σ H fun vs H1 => sp (vs ++ dvs) H1 Q E
/-- o.m(..) of an instance of the class at C -/
def tMeth (C : Addr) (m : Str) (sp : Sp) (dvs : List V) (E : XK) (ta : TE) (t : TA) : TE := fun σ H Q => ta σ H fun x H1 => ∃ a dx fs, x = .ref a ∧ H1 a = some (.ins C dx fs) ∧ fs.lookup m = none ∧
  t σ H1 fun vs H2 => sp (x :: (vs ++ dvs)) H2 Q E
/-- C(..): a new instance and its dict, then __init__ -/
def tMake (C : Addr) (sp : Sp) (dvs : List V) (E : XK) (t : TA) : TE := fun σ H Q => t σ H fun vs H1 => ∀ x dx, H1 x = none → H1 dx = none → dx ≠ x →
  sp (.ref x :: (vs ++ dvs)) (upd (upd H1 dx (.own x)) x (.ins C dx [])) (fun v H2 => v = .non ∧ Q (.ref x) H2) E

/-- how the parameters are bound: us the positional arguments, kw the keywords' values by name, ds the defaults that fill up -/
def Binds (K : PySem.W.Frag) (fd : FuncData) (ps : List Str) (ds : List Value) : Prop :=
  ∀ (s : Shared) (us : List Value), K.In s.heap → (us ++ ds).length = ps.length → BindsTo s fd ⟨us, []⟩ (ps.zip (us ++ ds))
/-- every parameter is given -/
theorem Binds.all {K : PySem.W.Frag} {fd : FuncData} {ps : List Str} (h : ∀ us : List Value, us.length = ps.length → bindArgs fd ⟨us, []⟩ = pure (ps.zip us)) : Binds K fd ps [] := fun s us _ hl => by
  rw [List.append_nil] at hl ⊢
  exact .of_eq (h us hl)

/-- an exception of a callee reaches what this body wants of exceptions -/
def Passes (CX : CXT) (X : Cx) (E : XK) : Prop := ∀ (pins : List (Addr × Obj)) (σ : St) (H : Hp) (s : Shared) (e : Value) (s' : Shared), Inv X pins σ H s → CX X.stack H s E e s' → X.xe e s'

section
variable {X : Cx} {CX : CXT} {k : Nat} {f C : Addr} {fd : FuncData} {ps : List Str} {sp : Sp} {dvs : List V} {ds : List Value} {E : XK} {x m : Str} {p pos apos : Pos} {e o : Expr} {es : List Expr} {ta : TE} {t : TA}

/-- the callee runs -/
theorem run_fn {pins : List (Addr × Obj)} {σ : St} {H : Hp} {s : Shared} {Q : VK} {us : List Value} {vs : List V} (F : FnOk X.prog X.w X.K X.mg X.base CX k f fd ps sp) (hr : Room k X.A) (hb : Binds X.K fd ps ds) (hd : Vals dvs ds) (hx : Passes CX X E)
    (I : Inv X pins σ H s) (r : Vals vs us) (h : sp (vs ++ dvs) H Q E) : wpAny (model X.prog X.w) X.A (call (.ref f) us) (EP X pins σ Q) X.xe s := by
  have r2 : Vals (vs ++ dvs) (us ++ ds) := r.append hd
  have hl : (us ++ ds).length = ps.length := by rw [← r2.length]; exact F.len _ _ _ _ h
  refine wpAny_call (codeAny_mono (F.run X.A X.stack s H ⟨us, []⟩ (us ++ ds) (vs ++ dvs) Q E hr I.env0 (hb s us I.kIn hl) r2 h) fun r s' hq => ?_)
  cases r with
  | error e => exact hx pins σ H s e s' I hq
  | ok fl =>
    cases fl with
    | ret u => exact I.after hq
    | next => exact False.elim hq
    | brk => exact False.elim hq
    | cont => exact False.elim hq

theorem pe_call (F : FnOk X.prog X.w X.K X.mg X.base CX k f fd ps sp) (hr : Room k X.A) (hg : Gl X x) (hm : X.mg x = some (.ref f)) (hk : PySem.W.keepIn X.K (.ref f) = true) (hb : Binds X.K fd ps ds) (hd : Vals dvs ds) (hx : Passes CX X E)
    (ha : PA X (e :: es) t) (hdb : (x == ("__debug__" : Str)) = false := by decide) (he : starEach (e :: es) X.env = (false, eval e X.env) :: starEach es X.env := by rfl) (hpl : (backTo pos (starEach es X.env)).any (·.1) = false := by rfl) :
    PE X (.Call (.Name x p) (e :: es) [] pos) (tCall sp dvs E t) := by
  intro pins s σ H Q I h
  refine wpAny_Call_Name_kw (ld_glob I hg hm ?_ hdb)
  refine PySem.W.callWith_K (h₀ := X.base) I.ok.mod.kin hk (thn (ha pos pins s σ H _ I h) fun us s1 ⟨vs, H1, I1, r, q⟩ => ⟨I1.kIn, ?_⟩) he hpl
  exact run_fn F hr hb hd hx I1 r q
theorem pe_call0 (F : FnOk X.prog X.w X.K X.mg X.base CX k f fd ps sp) (hr : Room k X.A) (hg : Gl X x) (hm : X.mg x = some (.ref f)) (hk : PySem.W.keepIn X.K (.ref f) = true) (hb : Binds X.K fd ps ds) (hd : Vals dvs ds) (hx : Passes CX X E)
    (hdb : (x == ("__debug__" : Str)) = false := by decide) : PE X (.Call (.Name x p) [] [] pos) (tCall sp dvs E tNil) := by
  intro pins s σ H Q I h
  refine wpAny_Call_Name_kw (ld_glob I hg hm ?_ hdb)
  exact PySem.W.callWith_K0 I.kIn hk (run_fn (us := []) F hr hb hd hx I .nil h)

/-- o.m(e, ..) -/
theorem pe_meth {pl : Sem Bool} (he : PE X o ta) (c : Cls X.K C) (hm : Meth X.K C m f) (F : FnOk X.prog X.w X.K X.mg X.base CX k f fd ps sp) (hr : Room k X.A) (hb : Binds X.K fd ps ds) (hd : Vals dvs ds) (hx : Passes CX X E) (ha : PA X (e :: es) t)
    (hst : starEach (e :: es) X.env = (false, eval e X.env) :: starEach es X.env := by rfl) (hpl : (backTo pos (starEach es X.env)).any (·.1) = false := by rfl)
    (ht : eval (.Call (.Attribute o m apos) (e :: es) [] pos) X.env = (do
      let ov ← eval o X.env
      standAt apos.atName
      let (f, first) ← holding [ov] (getMethod ov m pl)
      callWith pos f first (backTo pos (starEach (e :: es) X.env)) (backToKw pos (keywordEach [] X.env))) := by rfl) :
    PE X (.Call (.Attribute o m apos) (e :: es) [] pos) (tMeth C m sp dvs E ta t) := by
  intro pins s σ H Q I h
  refine PySem.W.methodCall_KW (pl := pl) (thn (he pins s σ H _ I h) fun u s1 ⟨x, H1, I1, rx, a, dx, fs, ex, ea, l, q⟩ => ?_) ht
  subst ex
  obtain rfl : u = Value.ref a := rx
  refine getmeth_ok I1 ea c hm l ?_
  refine PySem.W.callWith_K (first := [.ref a]) (h₀ := X.base) I.ok.mod.kin hm.kp (thn (ha pos pins s1 σ H1 _ I1 q) fun us s2 ⟨vs, H2, I2, r, q2⟩ => ⟨I2.kIn, ?_⟩) hst hpl
  exact run_fn (us := .ref a :: us) (vs := .ref a :: vs) F hr hb hd hx I2 (.cons rfl r) q2
/-- o.m() -/
theorem pe_meth0 {pl : Sem Bool} (he : PE X o ta) (c : Cls X.K C) (hm : Meth X.K C m f) (F : FnOk X.prog X.w X.K X.mg X.base CX k f fd ps sp) (hr : Room k X.A) (hb : Binds X.K fd ps ds) (hd : Vals dvs ds) (hx : Passes CX X E)
    (ht : eval (.Call (.Attribute o m apos) [] [] pos) X.env = (do
      let ov ← eval o X.env
      standAt apos.atName
      let (f, first) ← holding [ov] (getMethod ov m pl)
      callWith pos f first (backTo pos (starEach [] X.env)) (backToKw pos (keywordEach [] X.env))) := by rfl) :
    PE X (.Call (.Attribute o m apos) [] [] pos) (tMeth C m sp dvs E ta tNil) := by
  intro pins s σ H Q I h
  refine PySem.W.methodCall_KW (pl := pl) (thn (he pins s σ H _ I h) fun u s1 ⟨x, H1, I1, rx, a, dx, fs, ex, ea, l, q⟩ => ?_) ht
  subst ex
  obtain rfl : u = Value.ref a := rx
  refine getmeth_ok I1 ea c hm l ?_
  exact PySem.W.callWith_K0 (first := [.ref a]) I1.kIn hm.kp (run_fn (us := [.ref a]) (vs := [.ref a]) F hr hb hd hx I1 (.cons rfl .nil) q)

/-- what a class must have to be made -/
structure Mk (K : PySem.W.Frag) (C f : Addr) : Prop where
  makes : PySem.W.makesIn K C = true
  init : PySem.W.findIn K (.ref C) "__init__" = some (some (.ref f))
  fn : PySem.W.isFn K (.ref f) = true
  kp : PySem.W.keepIn K (.ref C) = true

theorem run_make {pins : List (Addr × Obj)} {σ : St} {H : Hp} {s : Shared} {Q : VK} {us : List Value} {vs : List V} (M : Mk X.K C f) (F : FnOk X.prog X.w X.K X.mg X.base CX k f fd ps sp) (hr : Room (k + 1) X.A) (hb : Binds X.K fd ps ds) (hd : Vals dvs ds)
    (hx : Passes CX X E) (I : Inv X pins σ H s) (r : Vals vs us)
    (h : ∀ x dx, H x = none → H dx = none → dx ≠ x → sp (.ref x :: (vs ++ dvs)) (upd (upd H dx (.own x)) x (.ins C dx [])) (fun v H2 => v = .non ∧ Q (.ref x) H2) E) :
    wpAny (model X.prog X.w) X.A (call (.ref C) us) (EP X pins σ Q) X.xe s := by
  have hq := h (s.heap.objs.size + 1) s.heap.objs.size (I.hok.fresh (Nat.le_succ _)) (I.hok.fresh (Nat.le_refl _)) (Nat.ne_of_lt (Nat.lt_succ_self _))
  have I2 := Inv.made (C := C) I
  have r2 : Vals (V.ref (s.heap.objs.size + 1) :: (vs ++ dvs)) (Value.ref (s.heap.objs.size + 1) :: (us ++ ds)) := .cons rfl (r.append hd)
  have hl : (Value.ref (s.heap.objs.size + 1) :: us ++ ds).length = ps.length := by
    have e := r2.length
    rw [F.len _ _ _ _ hq] at e
    exact e.symm
  refine wpAny_call (make_map (f := f) I.kIn M.makes M.init (beq_iff_eq.mp M.fn) (codeAny_mono (F.run _ X.stack _ _ ⟨Value.ref (s.heap.objs.size + 1) :: us, []⟩ (Value.ref (s.heap.objs.size + 1) :: (us ++ ds)) _ _ E (hr.make C us [])
    (I2.env0.make C us []) (hb _ (Value.ref (s.heap.objs.size + 1) :: us) I2.kIn hl) r2 hq) fun r s' hq' => ?_))
  cases r with
  | error e => exact hx pins σ _ _ e s' I2 hq'
  | ok fl =>
    cases fl with
    | ret u =>
      obtain ⟨v, H', I3, rv, ev, q3⟩ := I2.after hq'
      subst ev
      exact ⟨rv, ⟨V.ref (s.heap.objs.size + 1), H', I3, rfl, q3⟩⟩
    | next => exact False.elim hq'
    | brk => exact False.elim hq'
    | cont => exact False.elim hq'
theorem pe_make (M : Mk X.K C f) (F : FnOk X.prog X.w X.K X.mg X.base CX k f fd ps sp) (hr : Room (k + 1) X.A) (hg : Gl X x) (hm : X.mg x = some (.ref C)) (hb : Binds X.K fd ps ds) (hd : Vals dvs ds) (hx : Passes CX X E)
    (ha : PA X (e :: es) t) (hdb : (x == ("__debug__" : Str)) = false := by decide) (he : starEach (e :: es) X.env = (false, eval e X.env) :: starEach es X.env := by rfl) (hpl : (backTo pos (starEach es X.env)).any (·.1) = false := by rfl) :
    PE X (.Call (.Name x p) (e :: es) [] pos) (tMake C sp dvs E t) := by
  intro pins s σ H Q I h
  refine wpAny_Call_Name_kw (ld_glob I hg hm ?_ hdb)
  refine PySem.W.callWith_K (h₀ := X.base) I.ok.mod.kin M.kp (thn (ha pos pins s σ H _ I h) fun us s1 ⟨vs, H1, I1, r, q⟩ => ⟨I1.kIn, ?_⟩) he hpl
  exact run_make M F hr hb hd hx I1 r q
theorem pe_make0 (M : Mk X.K C f) (F : FnOk X.prog X.w X.K X.mg X.base CX k f fd ps sp) (hr : Room (k + 1) X.A) (hg : Gl X x) (hm : X.mg x = some (.ref C)) (hb : Binds X.K fd ps ds) (hd : Vals dvs ds) (hx : Passes CX X E)
    (hdb : (x == ("__debug__" : Str)) = false := by decide) : PE X (.Call (.Name x p) [] [] pos) (tMake C sp dvs E tNil) := by
  intro pins s σ H Q I h
  refine wpAny_Call_Name_kw (ld_glob I hg hm ?_ hdb)
  exact PySem.W.callWith_K0 I.kIn M.kp (run_make (us := []) M F hr hb hd hx I .nil h)
end

/-! ### keywords -/
/-- the values of the keywords, from the left -/
def PK (X : Cx) (kws : List Keyword) (t : TA) : Prop :=
  ∀ (pos : Pos) (pins : List (Addr × Obj)) (s : Shared) (σ : St) (H : Hp) (Q : List V → Hp → Prop), Inv X pins σ H s → t σ H Q → wpAny (model X.prog X.w) X.A (evalAll ((backToKw pos (keywordEach kws X.env)).map (·.2))) (AP X pins σ Q) X.xe s
section
variable {X : Cx} {CX : CXT} {k : Nat} {f C : Addr} {fd : FuncData} {ps ks : List Str} {sp : Sp} {E : XK} {x m : Str} {p pos apos kpos : Pos} {e o : Expr} {es : List Expr} {kws : List Keyword} {te ta : TE} {t tk : TA} {nm : Option Str}
theorem pk_nil : PK X [] tNil := fun _ _ _ _ H Q I h => wpAny_evalAll_nil ⟨[], H, I, .nil, h⟩
theorem pk_cons (ha : PE X e te) (hr : PK X kws t) : PK X (⟨nm, e, kpos⟩ :: kws) (tCons te t) := by
  intro pos pins s σ H Q I h
  show wpAny _ _ (evalAll ((do let v ← eval e X.env; standAt pos; pure v) :: (backToKw pos (keywordEach kws X.env)).map (·.2))) _ _ s
  refine wpAny_evalAll_cons (wpAny_bind (thn (ha pins s σ H _ I h) fun u s1 ⟨x, H1, I1, r1, q1⟩ => wpAny_bind (wpAny_standAt (wpAny_pure ?_))))
  exact thn (hr pos pins s1 σ H1 _ I1 q1) fun us s2 ⟨xs, H2, I2, r2, q2⟩ => ⟨x :: xs, H2, I2, .cons r1 r2, q2⟩

/-- how a call with keywords binds: g puts the positional values us and the keywords' values ws (names ks) in the parameters' order, defaults among them -/
structure KBinds (K : PySem.W.Frag) (fd : FuncData) (ps ks : List Str) (g : List Value → List Value → List Value) (gV : List V → List V → List V) : Prop where
  to : ∀ (s : Shared) (us ws : List Value), K.In s.heap → (g us ws).length = ps.length → BindsTo s fd ⟨us, ks.zip ws⟩ (ps.zip (g us ws))
  rel : ∀ {vs : List V} {us : List Value} {zs : List V} {ws : List Value}, Vals vs us → Vals zs ws → Vals (gV vs zs) (g us ws)
def tCallK (sp : Sp) (gV : List V → List V → List V) (E : XK) (t tk : TA) : TE := fun σ H Q => t σ H fun vs H1 => tk σ H1 fun zs H2 => sp (gV vs zs) H2 Q E
variable {g : List Value → List Value → List Value} {gV : List V → List V → List V}
theorem run_fnk {pins : List (Addr × Obj)} {σ : St} {H : Hp} {s : Shared} {Q : VK} {us ws : List Value} {vs zs : List V} (F : FnOk X.prog X.w X.K X.mg X.base CX k f fd ps sp) (hr : Room k X.A) (hb : KBinds X.K fd ps ks g gV) (hx : Passes CX X E)
    (I : Inv X pins σ H s) (r : Vals vs us) (rz : Vals zs ws) (h : sp (gV vs zs) H Q E) : wpAny (model X.prog X.w) X.A (call (.ref f) us (ks.zip ws)) (EP X pins σ Q) X.xe s := by
  have r2 := hb.rel r rz
  have hl : (g us ws).length = ps.length := by rw [← r2.length]; exact F.len _ _ _ _ h
  refine wpAny_call (codeAny_mono (F.run X.A X.stack s H ⟨us, ks.zip ws⟩ (g us ws) (gV vs zs) Q E hr I.env0 (hb.to s us ws I.kIn hl) r2 h) fun r s' hq => ?_)
  cases r with
  | error e => exact hx pins σ H s e s' I hq
  | ok fl =>
    cases fl with
    | ret u => exact I.after hq
    | next => exact False.elim hq
    | brk => exact False.elim hq
    | cont => exact False.elim hq
/-- f(e, .., k = v, ..) -/
theorem pe_callK (F : FnOk X.prog X.w X.K X.mg X.base CX k f fd ps sp) (hr : Room k X.A) (hg : Gl X x) (hm : X.mg x = some (.ref f)) (hk : PySem.W.keepIn X.K (.ref f) = true) (hb : KBinds X.K fd ps ks g gV) (hx : Passes CX X E)
    (ha : PA X (e :: es) t) (hkw : PK X kws tk) (hall : (backToKw pos (keywordEach kws X.env)).all (·.1.isSome) = true := by rfl) (hks : (backToKw pos (keywordEach kws X.env)).filterMap (·.1) = ks := by rfl)
    (hdb : (x == ("__debug__" : Str)) = false := by decide) (he : starEach (e :: es) X.env = (false, eval e X.env) :: starEach es X.env := by rfl)
    (hpl : ((backTo pos (starEach (e :: es) X.env)).any (·.1) || (backToKw pos (keywordEach kws X.env)).any (·.1.isNone)) = false := by rfl) :
    PE X (.Call (.Name x p) (e :: es) kws pos) (tCallK sp gV E t tk) := by
  intro pins s σ H Q I h
  refine wpAny_Call_Name_kw (ld_glob I hg hm ?_ hdb)
  refine PySem.W.callWith_KW (h₀ := X.base) I.ok.mod.kin hk hall (thn (ha pos pins s σ H _ I h) fun us s1 ⟨vs, H1, I1, r, q⟩ => ?_) hpl he
  refine thn (hkw pos pins s1 σ H1 _ I1 q) fun ws s2 ⟨zs, H2, I2, rz, q2⟩ => ⟨I2.kIn, ?_⟩
  rw [hks]
  exact run_fnk F hr hb hx I2 r rz q2
end

/-! ### a def's body keeps its promise -/
/-- names: the parameters first -/
structure FnScope (N P : List Str) (sc : Scope) : Prop where
  kind : sc.kind = .function
  co : sc.isCoroutine = false
  gen : sc.isGenerator = false
  nd : N.Nodup
  pre : N.take P.length = P
  par : ∀ x ∈ P, sc.names.lookup x = some .local ∨ sc.names.lookup x = some .cell
  nofree : ∀ y ∈ sc.names, y.2 ≠ .free

theorem bindL_out {kindOf : Str → Option NameKind} {x : Str} : ∀ {binds : List (Str × Value)} {m : Str → Option Value}, (∀ v, (x, v) ∉ binds) → bindL kindOf binds m x = m x
  | [], _, _ => rfl
  | (n, v) :: r, m, h => by
    unfold bindL
    rw [bindL_out fun w hw => h w (List.mem_cons_of_mem _ hw)]
    split
    · have : x ≠ n := by rintro rfl; exact h v List.mem_cons_self
      simp [this]
    · rfl
theorem bindC_out {kindOf : Str → Option NameKind} {x : Str} : ∀ {binds : List (Str × Value)} {m : Str → Option Value}, (∀ v, (x, v) ∉ binds) → bindC kindOf binds m x = m x
  | [], _, _ => rfl
  | (n, v) :: r, m, h => by
    unfold bindC
    rw [bindC_out fun w hw => h w (List.mem_cons_of_mem _ hw)]
    split
    · rfl
    · have : x ≠ n := by rintro rfl; exact h v List.mem_cons_self
      simp [this]
theorem bindL_get {kindOf : Str → Option NameKind} {x : Str} {v : Value} : ∀ {P : List Str} {vs : List Value} {i : Nat} {m : Str → Option Value}, P.Nodup → P[i]? = some x → vs[i]? = some v → kindOf x = some .local →
    bindL kindOf (P.zip vs) m x = some v
  | [], _, _, _, _, h, _, _ => by simp at h
  | _ :: _, [], _, _, _, _, h, _ => by simp at h
  | p :: P, w :: vs, 0, m, nd, h1, h2, hk => by
    simp at h1 h2; subst h1; subst h2
    show bindL kindOf ((p, w) :: P.zip vs) m p = _
    unfold bindL
    rw [bindL_out fun v hv => (List.nodup_cons.mp nd).1 (List.of_mem_zip hv).1, if_pos hk]
    simp
  | p :: P, w :: vs, i + 1, m, nd, h1, h2, hk => by
    show bindL kindOf ((p, w) :: P.zip vs) m x = _
    unfold bindL
    exact bindL_get (i := i) (List.nodup_cons.mp nd).2 (by simpa using h1) (by simpa using h2) hk
theorem bindC_get {kindOf : Str → Option NameKind} {x : Str} {v : Value} : ∀ {P : List Str} {vs : List Value} {i : Nat} {m : Str → Option Value}, P.Nodup → P[i]? = some x → vs[i]? = some v → kindOf x ≠ some .local →
    bindC kindOf (P.zip vs) m x = some v
  | [], _, _, _, _, h, _, _ => by simp at h
  | _ :: _, [], _, _, _, _, h, _ => by simp at h
  | p :: P, w :: vs, 0, m, nd, h1, h2, hk => by
    simp at h1 h2; subst h1; subst h2
    show bindC kindOf ((p, w) :: P.zip vs) m p = _
    unfold bindC
    rw [bindC_out fun v hv => (List.nodup_cons.mp nd).1 (List.of_mem_zip hv).1, if_neg hk]
    simp
  | p :: P, w :: vs, i + 1, m, nd, h1, h2, hk => by
    show bindC kindOf ((p, w) :: P.zip vs) m x = _
    unfold bindC
    exact bindC_get (i := i) (List.nodup_cons.mp nd).2 (by simpa using h1) (by simpa using h2) hk

/-- the names' values at the entry -/
def start (N : List Str) (vs : List V) : St := vs.map some ++ List.replicate (N.length - vs.length) none

/-- the context of a def's body, at its entry; an exception leaves the frame, then lies as CX says -/
def cxOf (CX : CXT) (P : Program) (w : World) (K : PySem.W.Frag) (mg : Str → Option Value) (base : Heap) (N : List Str) (qual : Str) (scope : Scope) (f : Addr) (cd : Value) (A : Around) (outer : List Env) (s : Shared) (H : Hp) (E : XK) : Cx where
  prog := P
  w := w
  K := K
  mg := mg
  base := base
  A := A.deeper (envOfC qual scope s.heap.objs.size f cd)
  N := N
  s₀ := s
  H₀ := H
  env := envOfC qual scope s.heap.objs.size f cd
  outer := outer
  stack := envOfC qual scope s.heap.objs.size f cd :: outer
  ex := []
  calm := true
  fn := fun _ => true
  pn := []
  xe := fun e s' => wpAny (model P w) (A.deeper (envOfC qual scope s.heap.objs.size f cd)) (leaving (envOfC qual scope s.heap.objs.size f cd) e) (fun _ s'' => CX outer H s E e s'') (fun e' s'' => CX outer H s E e' s'') s'

theorem cell_has {sc : Scope} {n : Nat} {x : Str} (h : sc.names.lookup x = some .cell) : ∃ c, (cellsFrom n sc.names []).lookup x = some c := by
  have q := PySem.W.cellsFrom_some sc.names n [] (.inl h)
  exact Option.isSome_iff_exists.mp q

theorem inv_start {CX : CXT} {P : Program} {w : World} {K : PySem.W.Frag} {mg : Str → Option Value} {base : Heap} {N ps : List Str} {qual : Str} {scope : Scope} {f : Addr} {cd : Value} {A : Around} {outer : List Env} {s s1 : Shared} {H : Hp} {E : XK} {us : List Value} {vs : List V}
    (S : FnScope N ps scope) (hd : A.handled = none) (e0 : Env0 P w K mg base A outer s H) (hl : vs.length = ps.length) (r : Vals vs us)
    (x : InCallC s s.heap.objs.size (bindL (envOfC qual scope s.heap.objs.size f cd).kindOf (ps.zip us) fun _ => none) (cellsFrom (s.heap.objs.size + 1) scope.names []) (bindC (envOfC qual scope s.heap.objs.size f cd).kindOf (ps.zip us) fun _ => none) s1) :
    Inv (cxOf CX P w K mg base N qual scope f cd A outer s H E) [] (start N vs) H s1 := by
  have hpl : ps.length ≤ N.length := by have := congrArg List.length S.pre; rw [List.length_take] at this; omega
  obtain ⟨h1, tk, rfl, hk⟩ := x.done
  have noA : ∀ b : Addr, b ∉ (cxOf CX P w K mg base N qual scope f cd A outer s H E).ex := fun b z => absurd (show b ∈ ([] : List Addr) from z) (by simp)
  refine ⟨⟨e0.mod, S.kind, rfl, rfl, Nat.le_refl _, fun y z c h1 h2 => ?_, fun y hy => ?_, fun y c _ h => ?_, fun _ => hd, Around.frames_deeper e0.frames, .inr ⟨rfl, rfl⟩, fun b z => absurd z (noA b), e0.bs, e0.bsz, fun b _ _ => noA b, fun b z => absurd z (noA b), e0.funs, e0.frf⟩,
    rfl, e0.bare, Un.kept hk, ⟨_, x.toInCall.ns, fun i y v h1 h2 h3 => ?_⟩, fun y c h => ⟨_, x.cell y c h⟩, e0.hok.fresh (Nat.le_refl _), fun y c h => ?_, fun p hp => absurd (show p ∈ ([] : List (Addr × Obj)) from hp) (by simp), e0.hok.kept hk, ?_⟩
  · exact name_of_addr x.apart (PySem.mem_of_lookup h1) (PySem.mem_of_lookup h2)
  · have hy : scope.names.lookup y = some .cell ∨ scope.names.lookup y = some .free := hy
    rcases hy with hy | hy
    · exact cell_has hy
    · exact absurd rfl (S.nofree _ (PySem.mem_of_lookup hy))
  · exact Nat.le_of_lt (x.above y c (PySem.mem_of_lookup h))
  · have hi : i < vs.length := by
      unfold start at h2
      by_cases hi : i < vs.length
      · exact hi
      · rw [List.getElem?_append_right (by simpa using hi)] at h2
        rw [List.getElem?_replicate] at h2
        split at h2 <;> cases h2
    have ha : vs[i]? = some v := by
      unfold start at h2
      rw [List.getElem?_append_left (by simpa using hi), List.getElem?_map] at h2
      cases e : vs[i]? with
      | none => rw [e] at h2; cases h2
      | some a => rw [e] at h2; cases h2; rfl
    obtain ⟨u, hu, rv⟩ := r.get ha
    have hp : ps[i]? = some y := by
      rw [← S.pre, List.getElem?_take_of_lt (by omega)]; exact h1
    have ndP : ps.Nodup := by rw [← S.pre]; exact S.nd.sublist (List.take_sublist _ _)
    refine ⟨u, rv, ?_⟩
    rcases S.par y (List.mem_of_getElem? hp) with k | k
    · exact .inl ⟨k, bindL_get ndP hp hu k⟩
    · obtain ⟨c, e⟩ := cell_has (n := s.heap.objs.size + 1) k
      refine .inr ⟨.inl k, c, e, ?_⟩
      have q := x.cell y c e
      rw [bindC_get ndP hp hu (by show scope.names.lookup y ≠ _; rw [k]; decide)] at q
      exact q
  · exact e0.hok.fresh (Nat.le_of_lt (x.above y c (PySem.mem_of_lookup h)))
  · unfold start
    show _ = N.length
    rw [List.length_append, List.length_map, List.length_replicate]
    omega

/-- THE RULE: a def (or a method) of the text, by its body. The body's reading t is chosen for each entry; it is run at the parameters' values -/
theorem fn_of {CX : CXT} {P : Program} {w : World} {K : PySem.W.Frag} {mg : Str → Option Value} {base : Heap} {k : Nat} {f : Addr} {name qual : Str} {params : Arguments} {body : List Stmt} {scope : Scope} {dV kV doc pm cdv ct oc : Value} {an od : Option Addr}
    {osl : Array (Option Value)} {N ps : List Str} {sp : Sp} (lk : K.lookup f = some ⟨oc, od, .func (PySem.W.fnOf name qual params body scope dV kV doc pm an cdv ct), osl⟩) (hcd : PySem.W.codeIn K cdv qual = true) (S : FnScope N ps scope)
    (len : ∀ vs H Q E, sp vs H Q E → vs.length = ps.length)
    (hbody : ∀ (A : Around) (outer : List Env) (s : Shared) (H : Hp) (vs : List V) (Q : VK) (E : XK), Room k (A.deeper (envOfC qual scope s.heap.objs.size f cdv)) → sp vs H Q E →
      ∃ t, PSs (cxOf CX P w K mg base N qual scope f cdv A outer s H E) body t ∧ t { nx := fun _ H' => Q .non H', rt := Q } (start N vs) H) :
    FnOk P w K mg base CX (k + 1) f (PySem.W.fnOf name qual params body scope dV kV doc pm an cdv ct) ps sp := by
  refine ⟨len, fun A outer s H args us vs Q E hr e0 hb r hsp => ?_⟩
  have hl := len _ _ _ _ hsp
  have KX : K.In s.heap := e0.mod.kin.keeps fun b o e => (e0.bs b o e).1
  have lim : s.heap.NoLimit := e0.mod.nolimit.keeps fun b o e => (e0.bs b o e).1
  have hkind : ∀ y ∈ ps.zip us, scope.names.lookup y.1 = some .local ∨ (scope.names.lookup y.1 = some .cell ∧ ((cellsFrom (s.heap.objs.size + 1) scope.names []).lookup y.1).isSome = true) := fun ⟨n, v⟩ hy => by
    rcases S.par n (List.of_mem_zip hy).1 with q | q
    · exact .inl q
    · exact .inr ⟨q, PySem.W.cellsFrom_some _ _ _ (.inl q)⟩
  refine codeAny_call_function hr.depth (KX _ _ lk) rfl S.co S.gen rfl (PySem.W.codeRec_of KX hcd) (hb _ _ _ _ ?_)
  refine wpAny_newFunctionEnv_cells S.kind hkind fun env he s1 x => ?_
  subst he
  refine ⟨lim.keeps x.toInCall.keep, codeAny_func ?_⟩
  obtain ⟨t, ht, hq⟩ := hbody A outer s H vs Q E (hr.deeper _) hsp
  have I : Inv (cxOf CX P w K mg base N qual scope f cdv A outer s H E) [] (start N vs) H s1 := inv_start S hr.hd e0 hl r x
  refine wpAny_mono (ht [] s1 (start N vs) H _ I hq) (fun fl s' hs => ?_) fun e s' hs => hs
  have fin : ∀ {σ' : St} {H' : Hp} {v : V} {u : Value}, Inv (cxOf CX P w K mg base N qual scope f cdv A outer s H E) [] σ' H' s' → RelV v u → Q v H' → CE outer P w H s Q u s' :=
    fun {σ' H' v u} J rv q => ⟨v, H', J.os, J.bare, J.base, J.hok, rv, q⟩
  cases fl with
  | ret u =>
    obtain ⟨v, σ', H', J, rv, q⟩ := hs
    exact fin J rv q
  | next =>
    obtain ⟨σ', H', J, q⟩ := hs
    exact fin (v := V.non) (u := Value.none) J rfl q
  | brk =>
    obtain ⟨_, _, _, q⟩ := hs
    exact False.elim q
  | cont =>
    obtain ⟨_, _, _, q⟩ := hs
    exact False.elim q
end L2

namespace L2
open PySem PySem.Spec PyProof.Rows
section
variable {X : Cx} {x : Str} {p pos : Pos} {e : Expr} {es : List Expr} {t : TA} {id T : String} {r : List V → Hp → VK → Prop}

def tCB (r : List V → Hp → VK → Prop) (t : TA) : TE := fun σ H Q => t σ H fun vs H1 => r vs H1 Q
/-- f(e, ..), f a built-in function -/
theorem pe_callB (hc : CallR X (.builtin id) r) (hg : Gl X x) (hm : X.mg x = none) (hv : bootBuiltins x = some (.builtin id)) (ha : PA X (e :: es) t) (hn : x ≠ "__name__" := by decide) (hdb : (x == ("__debug__" : Str)) = false := by decide)
    (he : starEach (e :: es) X.env = (false, eval e X.env) :: starEach es X.env := by rfl) (hpl : (backTo pos (starEach es X.env)).any (·.1) = false := by rfl) : PE X (.Call (.Name x p) (e :: es) [] pos) (tCB r t) := by
  intro pins s σ H Q I h
  refine wpAny_Call_Name_kw (ld_blt I hg hm hv ?_ hn hdb)
  exact PyProof.Rows.callWith_builtin1 (thn (ha pos pins s σ H _ I h) fun us s1 ⟨vs, H1, I1, r1, q1⟩ => hc pins s1 σ H1 vs us Q I1 r1 q1) he hpl
/-- T(e, ..), T a built-in type -/
theorem pe_callTy (hc : CallR X (.type T) r) (hg : Gl X x) (hm : X.mg x = none) (hv : bootBuiltins x = some (.type T)) (ha : PA X (e :: es) t) (hn : x ≠ "__name__" := by decide) (hdb : (x == ("__debug__" : Str)) = false := by decide)
    (he : starEach (e :: es) X.env = (false, eval e X.env) :: starEach es X.env := by rfl) (hpl : (backTo pos (starEach es X.env)).any (·.1) = false := by rfl) : PE X (.Call (.Name x p) (e :: es) [] pos) (tCB r t) := by
  intro pins s σ H Q I h
  refine wpAny_Call_Name_kw (ld_blt I hg hm hv ?_ hn hdb)
  exact PyProof.Rows.callWith_type1 (thn (ha pos pins s σ H _ I h) fun us s1 ⟨vs, H1, I1, r1, q1⟩ => hc pins s1 σ H1 vs us Q I1 r1 q1) he hpl
/-- T() -/
theorem pe_callTy0 (hc : CallR X (.type T) r) (hg : Gl X x) (hm : X.mg x = none) (hv : bootBuiltins x = some (.type T)) (hn : x ≠ "__name__" := by decide) (hdb : (x == ("__debug__" : Str)) = false := by decide) :
    PE X (.Call (.Name x p) [] [] pos) (tCB r tNil) := by
  intro pins s σ H Q I h
  refine wpAny_Call_Name_kw (ld_blt I hg hm hv ?_ hn hdb)
  exact PyProof.Rows.callWith_type0 (hc pins s σ H [] [] Q I .nil h)
end
end L2

namespace HT
open PySem PyProof.Rows

/-- t < u of tuples of ints -/
def lexLt : List Int → List Int → Bool
  | [], [] => false
  | [], _ :: _ => true
  | _ :: _, [] => false
  | x :: xs, y :: ys => if x = y then lexLt xs ys else decide (x < y)
theorem lexLt_cons (x y : Int) (xs ys : List Int) : lexLt (x :: xs) (y :: ys) = if x = y then lexLt xs ys else decide (x < y) := rfl
theorem lexLt_nil_nil : lexLt [] [] = false := rfl
theorem lexLt_nil_cons (y : Int) (ys : List Int) : lexLt [] (y :: ys) = true := rfl
theorem lexLt_cons_nil (x : Int) (xs : List Int) : lexLt (x :: xs) [] = false := rfl

theorem eqAt_int (A : Around) (s : Shared) (a : Int) (t : Tok) (c : Int) (u : Tok) : ∃ e, SeqAt.EqAt A s (.int a t) (.int c u) e ∧ (e = true ↔ a = c) :=
  ⟨(a == c), SeqAt.EqAt.int_int a t c u, by simp⟩
theorem rcLt_int (A : Around) (s : Shared) (a : Int) (t : Tok) (c : Int) (u : Tok) (prog : Program) (w : World) (E : Value → Shared → Prop) (Q : Value → Shared → Prop) (h : Q (.bool (decide (a < c))) s) :
    wpAny (model prog w) A (richCompare .Lt (.int a t) (.int c u)) Q E s :=
  (PyProof.Rows.lt_int h : wpAny (model prog w) A (compareOp .Lt (.int a t) (.int c u)) Q E s)

section
open PySem.SeqAt
open PySem.AutoSeq1 (wpAny_loadPart')
open PySem.MeetsSeq PySem.MeetsSeq2 PySem.MeetsSeq3

theorem tuple_lt_ints (l b : Addr) (items items2 : Array Value) (n n2 : Nat) (dd dd2 : Option Addr) (sl sl2 : Array (Option Value)) (ns ms : List Int) (hi : IntsAre items.toList ns) (hj : IntsAre items2.toList ms) :
    Meets (Builtin.«tuple.__lt__» ⟨[.ref l, .ref b], []⟩)
      (fun _ R s => s.heap.get? l = some { cls := .type "tuple", dict := dd, data := .seq items n, slots := sl } ∧ s.heap.get? b = some { cls := .type "tuple", dict := dd2, data := .seq items2 n2, slots := sl2 } ∧
        R (.ok (.ret (.bool (lexLt ns ms)))) s) :=
  .of_wp fun prog w A R s h => by
    obtain ⟨hp, g, d, tk, os⟩ := s; obtain ⟨hl, hb, h⟩ := h
    have f2 := AutoSeq1.sub_tuple_tuple
    have z1 : items.size = ns.length := by rw [← hi.length]; simp
    have z2 : items2.size = ms.length := by rw [← hj.length]; simp
    wp_walk using wpAny_loadPart' hl, wpAny_loadPart' hb, wpAny_forIn_list _ (fun rest b s' => b.1 = none ∧ s' = ⟨hp, g, d, tk, os⟩ ∧ ∃ (vs ws : List Value) (ns' ms' : List Int), rest = vs.zip ws ∧
      IntsAre vs ns' ∧ IntsAre ws ms' ∧ ns'.length + items2.size = ms'.length + items.size ∧ R (.ok (.ret (.bool (lexLt ns' ms')))) ⟨hp, g, d, tk, os⟩) _
    case turn =>
      rintro ⟨y, x⟩ rest b s' ⟨hb', rfl, vs, ws, ns', ms', hz, hvi, hwi, hlen, hR⟩
      cases hvi with
      | nil => rw [List.zip_nil_left] at hz; cases hz
      | cons a t hvi' =>
        cases hwi with
        | nil => rw [List.zip_nil_right] at hz; cases hz
        | cons c u hwi' =>
          rw [List.zip_cons_cons] at hz
          injection hz with hyx hrest
          injection hyx with hy hx
          subst hy hx
          rw [lexLt_cons] at hR
          simp only [List.length_cons] at hlen
          obtain ⟨e, he, hiff⟩ := eqAt_int A.in1 ⟨hp, g, d, tk, os⟩ a t c u
          refine wpAny_bind (he prog w _ _ ?_)
          cases e with
          | true =>
            rw [if_pos (hiff.mp rfl)] at hR
            wp_walk
            exact ⟨rfl, rfl, _, _, _, _, hrest, hvi', hwi', by omega, hR⟩
          | false =>
            rw [if_neg (fun q => absurd (hiff.mpr q) Bool.false_ne_true)] at hR
            have hri := rcLt_int A.in1 ⟨hp, g, d, tk, os⟩ a t c u prog w
            wp_walk using hri
            exact ⟨_, rfl, by simpa using hR⟩
    case fin =>
      rintro ⟨b1, b2⟩ s' ⟨hb', rfl, vs, ws, ns', ms', hz, hvi, hwi, hlen, hR⟩
      simp only at hb'
      subst hb'
      have hv : lexLt ns' ms' = decide (items.size < items2.size) := by
        cases hvi with
        | nil =>
          cases hwi with
          | nil =>
            simp only [List.length_nil] at hlen
            rw [lexLt_nil_nil]
            exact (decide_eq_false (by omega)).symm
          | cons c u hw =>
            simp only [List.length_nil, List.length_cons] at hlen
            rw [lexLt_nil_cons]
            exact (decide_eq_true (by omega)).symm
        | cons a t hv =>
          cases hwi with
          | nil =>
            simp only [List.length_nil, List.length_cons] at hlen
            rw [lexLt_cons_nil]
            exact (decide_eq_false (by omega)).symm
          | cons c u hw =>
            rw [List.zip_cons_cons] at hz
            cases hz
      rw [hv] at hR
      wp_walk
      exact ⟨_, rfl, by simpa [Builtin.Tuple.tupleCompareSizes] using hR⟩
    case h =>
      exact ⟨rfl, rfl, items.toList, items2.toList, ns, ms, rfl, hi, hj, by omega, h⟩
end

section
variable {prog : Program} {w : World} {A : Around} {E : Value → Shared → Prop} {s : Shared}

theorem lt_tupInts {l b : Addr} {items items2 : Array Value} {ns ms : List Int} {Q : Value → Shared → Prop} (hl : IsTup s.heap l items) (hb : IsTup s.heap b items2) (hi : IntsAre items.toList ns) (hj : IntsAre items2.toList ms)
    (hu : A.units < cLine) (h : Q (.bool (lexLt ns ms)) s) : wpAny (model prog w) A (compareOp .Lt (.ref l) (.ref b)) Q E s := by
  obtain ⟨⟨cls, dd, data, sl⟩, ho, hc, n, hd⟩ := id hl
  obtain ⟨⟨cls2, dd2, data2, sl2⟩, ho2, hc2, n2, hd2⟩ := id hb
  simp only at hc hd hc2 hd2
  subst hc hd hc2 hd2
  exact richCompare_meets_room (op := .Lt) ⟨_, ho, rfl⟩ ⟨_, ho2, rfl⟩ PySem.F.slot_tuple_lt PySem.F.entry_tuple_lt (PySem.F.args_tuple_lt_2 _ _) (tuple_lt_ints l b items items2 n n2 dd dd2 sl sl2 ns ms hi hj)
    ⟨ho, ho2, show Value.bool (lexLt ns ms) ≠ Value.notImplemented ∧ Q (.bool (lexLt ns ms)) s from ⟨(fun x => nomatch x), h⟩⟩ hu

/-- t + u, t not empty -/
theorem cat_tup {t b : Addr} {vs ws : List Value} {Q : Value → Shared → Prop} (ht : IsTup s.heap t vs.toArray) (hb : IsTup s.heap b ws.toArray) (hv : vs ≠ [])
    (h1 : ws = [] → Q (.ref t) s) (h2 : ws ≠ [] → Q (.ref s.heap.objs.size) { s with heap := s.heap.push { cls := .type "tuple", data := .seq (vs ++ ws).toArray } })
    (hsz : vs.length + ws.length ≤ sizeLine) : wpAny (model prog w) A (binaryOp .Add (.ref t) (.ref b)) Q E s := by
  obtain ⟨⟨cls, dd, data, sl⟩, ho, hc, n, hd⟩ := id ht
  obtain ⟨⟨cls2, dd2, data2, sl2⟩, ho2, hc2, n2, hd2⟩ := id hb
  simp only at hc hd hc2 hd2
  subst hc hd hc2 hd2
  have e : vs.toArray ++ ws.toArray = (vs ++ ws).toArray := by simp
  by_cases hw : ws = []
  · exact concat_meets ⟨_, ho, rfl⟩ ⟨_, ho2, rfl⟩ noFill_tuple_add seq_tuple_add PySem.F.slot_tuple_add PySem.F.entry_tuple_add (PySem.F.args_tuple_add_2 _ _)
      (tuple_addW1 t b vs.toArray ws.toArray n n2 dd dd2 sl sl2 (by simpa using hv) (by simp [hw])) ⟨ho, ho2, h1 hw⟩
  · refine concat_meets ⟨_, ho, rfl⟩ ⟨_, ho2, rfl⟩ noFill_tuple_add seq_tuple_add PySem.F.slot_tuple_add PySem.F.entry_tuple_add (PySem.F.args_tuple_add_2 _ _)
      (tuple_addW2 t b vs.toArray ws.toArray n n2 dd dd2 sl sl2 (by simpa using hv) (by simpa using hw) (by rw [List.size_toArray, List.size_toArray]; exact hsz)) ⟨ho, ho2, ?_⟩
    rw [e]
    exact h2 hw

/-! ### t[a:b], not the whole -/
/-- a slice's bound as a place among n (d where it is left out) -/
def sIx (n d : Nat) : Option Int → Nat
  | none => d
  | some v => if v < 0 then (v + (n : Int)).toNat else min v.toNat n
theorem sIx_none (n d : Nat) : sIx n d none = d := rfl
theorem sIx_nat (n d k : Nat) : sIx n d (some (k : Int)) = min k n := by
  show (if (k : Int) < 0 then ((k : Int) + (n : Int)).toNat else min (k : Int).toNat n) = min k n
  rw [if_neg (by omega), Int.toNat_natCast]
theorem sIx_le (n d : Nat) (hd : d ≤ n) (o : Option Int) : sIx n d o ≤ n := by
  cases o with
  | none => exact hd
  | some v =>
    show (if v < 0 then (v + (n : Int)).toNat else min v.toNat n) ≤ n
    by_cases hv : v < 0
    · rw [if_pos hv]; omega
    · rw [if_neg hv]; exact Nat.min_le_right _ _
theorem clip_eq (v : Int) (n d : Nat) : (if v < 0 then max (v + (n : Int)) 0 else min v (n : Int)) = ((sIx n d (some v) : Nat) : Int) := by
  show (if v < 0 then max (v + (n : Int)) 0 else min v (n : Int)) = (((if v < 0 then (v + (n : Int)).toNat else min v.toNat n) : Nat) : Int)
  by_cases hv : v < 0
  · simp only [if_pos hv]; omega
  · simp only [if_neg hv]; omega
theorem adjust_gen (lo hi : Option Int) (n : Nat) : Builtin.Slice.sliceAdjust lo hi 1 (n : Int) = (((sIx n 0 lo : Nat) : Int), ((sIx n n hi : Nat) : Int)) := by
  have h1 : ¬ ((1 : Int) < 0) := by omega
  unfold Builtin.Slice.sliceAdjust
  simp only [h1, if_false]
  refine Prod.ext ?_ ?_
  · cases lo with
    | none => rfl
    | some v => exact clip_eq v n 0
  · cases hi with
    | none => rfl
    | some v => exact clip_eq v n n
theorem places_gen (i j : Nat) : Builtin.Slice.slicePlaces (i : Int) (j : Int) 1 = j - i := by
  unfold Builtin.Slice.slicePlaces
  have h1 : (1 : Int) > 0 := by omega
  simp only [h1, if_true, Int.ediv_one]
  split <;> omega
theorem slicePart_ {v : Value} {o : Option Int} {Q : Option Int → Shared → Prop} (p : IsPart v o) (h : Q o s) : wpAny (model prog w) A (Builtin.Slice.slicePartIndex v) Q E s := by
  cases p with
  | none => exact slicePart_none h
  | int i t => exact slicePart_int h
theorem sliceApplied_gen {sl : Addr} {vl vu : Value} {lo hi : Option Int} {n : Nat} {Q : Int × Int × Nat → Shared → Prop} (hs : s.heap.IsSliceOf sl vl vu .none) (pl : IsPart vl lo) (pu : IsPart vu hi)
    (h : Q (((sIx n 0 lo : Nat) : Int), 1, sIx n n hi - sIx n 0 lo) s) : wpAny (model prog w) A (Builtin.Slice.sliceApplied (.ref sl) (pure (n : Int))) Q E s := by
  obtain ⟨os, hos, hcs, hds⟩ := id hs
  unfold Builtin.Slice.sliceApplied Builtin.Slice.sliceFields
  refine wpAny_bind (wpAny_bind (wpAny_field hos hds (x := vl) rfl (wpAny_bind (wpAny_field hos hds (x := vu) rfl (wpAny_bind (wpAny_field hos hds (x := .none) rfl (wpAny_pure ?_)))))))
  refine wpAny_bind (slicePart_none ?_)
  show wpAny _ _ (if ((1 : Int) == 0) = true then _ else _) _ _ s
  rw [if_neg (by decide)]
  refine wpAny_bind (slicePart_ pl (wpAny_bind (slicePart_ pu (wpAny_bind (wpAny_pure ?_)))))
  show wpAny _ _ (match Builtin.Slice.sliceAdjust lo hi 1 (n : Int) with | (lo, hi) => pure (lo, (1 : Int), Builtin.Slice.slicePlaces lo hi 1)) _ _ s
  rw [adjust_gen lo hi n]
  show wpAny _ _ (pure (((sIx n 0 lo : Nat) : Int), (1 : Int), Builtin.Slice.slicePlaces ((sIx n 0 lo : Nat) : Int) ((sIx n n hi : Nat) : Int) 1)) _ _ s
  rw [places_gen]
  exact wpAny_pure h
theorem pick_gen (xs : Array Value) (i k : Nat) : ((List.range k).filterMap fun (m : Nat) => xs[((i : Int) + (m : Int) * 1).toNat]?).toArray = ((xs.toList.drop i).take k).toArray := by
  have e : (fun (m : Nat) => xs[((i : Int) + (m : Int) * 1).toNat]?) = fun m => xs[i + m]? := by
    funext m
    have : ((i : Int) + (m : Int) * 1).toNat = i + m := by omega
    rw [this]
  rw [e]
  have := pick_run xs i k
  rw [List.filterMap_map] at this
  have e2 : ((fun x => xs[x]?) ∘ fun x => i + x) = fun m => xs[i + m]? := rfl
  rw [e2] at this
  rw [this]

theorem getItem_tuple_cut {t sl : Addr} {items : Array Value} {vl vu : Value} {lo hi : Option Int} {Q : Value → Shared → Prop} (ht : IsTup s.heap t items) (hs : s.heap.IsSliceOf sl vl vu .none) (pl : IsPart vl lo) (pu : IsPart vu hi)
    (hw : ¬ (sIx items.size 0 lo = 0 ∧ sIx items.size items.size hi = items.size))
    (h : Q (.ref s.heap.objs.size) { s with heap := s.heap.push { cls := .type "tuple", data := .seq ((items.toList.drop (sIx items.size 0 lo)).take (sIx items.size items.size hi - sIx items.size 0 lo)).toArray } })
    (hsz : items.size ≤ sizeLine) : wpAny (model prog w) A (getItem (.ref t) (.ref sl)) Q E s := by
  have htake : sizeOk (.seq ((items.toList.drop (sIx items.size 0 lo)).take (sIx items.size items.size hi - sIx items.size 0 lo)).toArray) := by
    show ((items.toList.drop (sIx items.size 0 lo)).take (sIx items.size items.size hi - sIx items.size 0 lo)).toArray.size ≤ sizeLine
    rw [List.size_toArray, List.length_take, List.length_drop, Array.length_toList]
    omega
  have hj : sIx items.size items.size hi ≤ items.size := sIx_le _ _ (Nat.le_refl _) hi
  obtain ⟨os, hos, hcs, hds⟩ := id hs
  have hTs : s.TypeIs (.ref sl) "slice" := ⟨os, hos, hcs⟩
  unfold getItem
  try with_reducible refine wpAny_holding ?_
  first | refine wpAny_bind (wpAny_pure ?_) | skip
  refine wpAny_bind (wpAny_sequenceKey ht.typeIs (by decide) ?_)
  refine wpAny_bind (wpAny_callSpecial?_slot (name := Str.ofString "__getitem__") ht.typeIs PyProof.Rows.slot_tuple_getitem
    (wpAny_call_entry PyProof.Rows.slot_tuple_getitem ht.typeIs entry_tuple_getitem ?_ (args_tuple_getitem _ _)))
  show wpAny _ _ (Builtin.Tuple.tupleItemsOf (.ref t) >>= _) _ _ s
  refine wpAny_bind (tupleItemsOf_ ht ?_)
  refine wpAny_bind (wpAny_typeOf hTs ?_)
  rw [if_pos (by decide)]
  refine wpAny_bind (sliceApplied_gen hs pl pu ?_)
  have hno : ¬ ((((sIx items.size 0 lo : Nat) : Int) == 0 && (1 : Int) == 1 && (sIx items.size items.size hi - sIx items.size 0 lo) == items.size) = true) := by
    intro q
    rw [Bool.and_eq_true, Bool.and_eq_true] at q
    have q1 : ((sIx items.size 0 lo : Nat) : Int) = 0 := eq_of_beq q.1.1
    have q2 : sIx items.size items.size hi - sIx items.size 0 lo = items.size := eq_of_beq q.2
    exact hw ⟨by omega, by omega⟩
  show wpAny _ _ (if (((sIx items.size 0 lo : Nat) : Int) == 0 && (1 : Int) == 1 && (sIx items.size items.size hi - sIx items.size 0 lo) == items.size) = true then _ else _) _ _ s
  rw [if_neg hno, pick_gen]
  first
    | exact wpAny_bind (m := Builtin.Tuple.tupleExact _) (wpAny_newObj_type (wpAny_pure ⟨_, rfl, wpAny_pure h⟩) htake)
    | exact wpAny_bind (m := Builtin.Tuple.tupleExact _) (wpAny_newObj_type (wpAny_bind (wpAny_pure (wpAny_pure ⟨_, rfl, wpAny_pure h⟩))) htake)
    | exact wpAny_bind (wpAny_bind (m := Builtin.Tuple.tupleExact _) (wpAny_newObj_type (wpAny_pure (wpAny_pure ⟨_, rfl, wpAny_pure h⟩)) htake))
    | exact wpAny_bind (wpAny_bind (m := Builtin.Tuple.tupleExact _) (wpAny_newObj_type (wpAny_pure ⟨_, rfl, wpAny_pure h⟩) htake))
end
end HT

namespace L2
open PySem PySem.Spec PyProof.Rows

/-! ### the parts of a slice -/
abbrev TO := St → Hp → (Option Int → Hp → Prop) → Prop
/-- a slice's part (left out, or an int) -/
def PO (X : Cx) (e : Option Expr) (t : TO) : Prop :=
  ∀ (pins : List (Addr × Obj)) (s : Shared) (σ : St) (H : Hp) (Q : Option Int → Hp → Prop), Inv X pins σ H s → t σ H Q →
    wpAny (model X.prog X.w) X.A (evalPart e X.env) (fun u s' => ∃ o H', Inv X pins σ H' s' ∧ IsPart u o ∧ Q o H') X.xe s
def tNoPart : TO := fun _ H Q => Q none H
def tPart (t : TE) : TO := fun σ H Q => t σ H fun x H1 => ∃ i, x = .int i ∧ Q (some i) H1

theorem intsAre_of {ns : List Int} : ∀ {us : List Value}, Vals (ns.map V.int) us → IntsAre us ns := by
  induction ns with
  | nil => intro us r; rw [List.map_nil] at r; cases r; exact .nil
  | cons n ns ih =>
    intro us r
    rw [List.map_cons] at r
    cases r with
    | cons r1 r2 =>
      obtain ⟨t, e⟩ := r1
      subst e
      exact .cons n t (ih r2)

section
variable {X : Cx} {e : Expr} {te : TE} {lo hi : Option Expr} {tl th : TO} {pos p2 : Pos}

theorem po_none : PO X none tNoPart := by
  intro pins s σ H Q I h
  rw [evalPart_none]
  exact wpAny_pure ⟨none, H, I, .none, h⟩
theorem po_some (h : PE X e te) : PO X (some e) (tPart te) := by
  intro pins s σ H Q I hw
  rw [evalPart_some]
  refine thn (h pins s σ H _ I hw) fun u s1 ⟨x, H1, I1, r1, q1⟩ => ?_
  obtain ⟨i, rfl, q⟩ := q1
  obtain ⟨t, rfl⟩ := r1
  exact ⟨some i, H1, I1, .int i t, q⟩

/-- what a slice of a value is, by values: the slice object stands at sl -/
def SlR (X : Cx) (r : V → Option Int → Option Int → Hp → VK → Prop) : Prop :=
  ∀ (pins : List (Addr × Obj)) (s : Shared) (σ : St) (H : Hp) (x : V) (v vl vu : Value) (lo hi : Option Int) (sl : Addr) (Q : VK), Inv X pins σ H s → RelV x v → s.heap.IsSliceOf sl vl vu .none → IsPart vl lo → IsPart vu hi → r x lo hi H Q →
    ∃ T id, typeLookup (.type T) "__getitem__" = pure (some (.builtin id)) ∧ s.TypeIs v T ∧ wpAny (model X.prog X.w) X.A (getItem v (.ref sl)) (EP X pins σ Q) X.xe s
theorem SlR.or {r r' : V → Option Int → Option Int → Hp → VK → Prop} (h : SlR X r) (h' : SlR X r') : SlR X (fun x lo hi H Q => r x lo hi H Q ∨ r' x lo hi H Q) := by
  intro pins s σ H x v vl vu lo hi sl Q I rx hs pl pu q
  rcases q with q | q
  · exact h pins s σ H x v vl vu lo hi sl Q I rx hs pl pu q
  · exact h' pins s σ H x v vl vu lo hi sl Q I rx hs pl pu q
def tSl (r : V → Option Int → Option Int → Hp → VK → Prop) (te : TE) (tl th : TO) : TE := fun σ H Q => te σ H fun x H1 => tl σ H1 fun l H2 => th σ H2 fun u H3 => r x l u H3 Q
/-- a[lo:hi], any a -/
theorem pe_slice {r : V → Option Int → Option Int → Hp → VK → Prop} (hr : SlR X r) (he : PE X e te) (hl : PO X lo tl) (hu : PO X hi th) : PE X (.Subscript e (.Slice lo hi none p2) pos) (tSl r te tl th) := by
  intro pins s σ H Q I h
  refine Subscript_ (thn (he pins s σ H _ I h) fun v s1 ⟨x, H1, I1, r1, q1⟩ => ?_)
  refine wpAny_Slice (thn (hl pins s1 σ H1 _ I1 q1) fun vl s2 ⟨l, H2, I2, pl, q2⟩ => thn (hu pins s2 σ H2 _ I2 q2) fun vu s3 ⟨u, H3, I3, pu, q3⟩ => ?_)
  rw [evalPart_none]
  refine wpAny_pure ?_
  have I4 : Inv X pins σ H3 { s3 with heap := s3.heap.push { cls := .type "slice", data := .fields #[vl, vu, .none] } } := I3.kept (t' := s3.toks) fun b ob q => Heap.get?_push_of_some _ q
  obtain ⟨T, id, hT, ht, hg⟩ := hr pins { s3 with heap := s3.heap.push { cls := .type "slice", data := .fields #[vl, vu, .none] } } σ H3 x v vl vu l u s3.heap.objs.size Q I4 r1 (Heap.IsSliceOf.new ..) pl pu q3
  show wpAny (model X.prog X.w) X.A (subscriptTail e (.Slice lo hi none p2) v (.ref s3.heap.objs.size)) (EP X pins σ Q) X.xe { s3 with heap := s3.heap.push { cls := .type "slice", data := .fields #[vl, vu, .none] } }
  exact tail_any (ops := [.ref s3.heap.objs.size, v]) ht hT hg (by with_unfolding_all rfl)

/-- the items of xs[lo:hi] -/
def cutV (xs : List V) (lo hi : Option Int) : List V := (xs.drop (HT.sIx xs.length 0 lo)).take (HT.sIx xs.length xs.length hi - HT.sIx xs.length 0 lo)
theorem cutV_length (xs : List V) (lo hi : Option Int) : (cutV xs lo hi).length ≤ xs.length := by
  unfold cutV
  rw [List.length_take, List.length_drop]
  omega
/-- t[lo:hi], not the whole of it (the whole would be t itself) -/
def rSlT (K : PySem.W.Frag) : V → Option Int → Option Int → Hp → VK → Prop := fun x lo hi H Q => ∃ a xs, x = .ref a ∧ SqT K H a xs ∧
  ¬ (HT.sIx xs.length 0 lo = 0 ∧ HT.sIx xs.length xs.length hi = xs.length) ∧ ∀ p, H p = none → Q (.ref p) (upd H p (.tup (cutV xs lo hi)))
theorem sl_tup : SlR X (rSlT X.K) := by
  intro pins s σ H x v vl vu lo hi sl Q I rx hs pl pu h
  obtain ⟨a, xs, rfl, hx, hw, q⟩ := h
  cases rx
  obtain ⟨its, r, ht, hz⟩ := I.tuple hx
  have hlen : its.toArray.size = xs.length := by rw [List.size_toArray]; exact r.length.symm
  refine ⟨"tuple", _, PyProof.Rows.slot_tuple_getitem.lookup, ht.typeIs, ?_⟩
  refine HT.getItem_tuple_cut ht hs pl pu (by rw [hlen]; exact hw) ?_ (by rw [hlen]; exact hz)
  rw [hlen]
  refine ⟨.ref s.heap.objs.size, _, I.laid (t' := s.toks) (o := .tup (cutV xs lo hi)) (fun b ob q => Heap.get?_push_of_some _ q) (Nat.le_refl _) ?_, rfl, q _ (I.hok.fresh (Nat.le_refl _))⟩
  exact ⟨Nat.le_trans (cutV_length xs lo hi) hz, _, (r.drop (HT.sIx xs.length 0 lo)).take (HT.sIx xs.length xs.length hi - HT.sIx xs.length 0 lo), IsTup.new _ _⟩

/-! ### t < u, t + u -/
def rLtT (K : PySem.W.Frag) : R2 := fun x y H Q => ∃ a b ns ms, x = .ref a ∧ y = .ref b ∧ SqT K H a (ns.map V.int) ∧ SqT K H b (ms.map V.int) ∧ Q (.bl (HT.lexLt ns ms)) H
theorem op_ltT (hu : X.A.units < cLine) : OpR X (compareOp .Lt) (rLtT X.K) := by
  intro pins s σ H x y v u Q I rx ry h
  obtain ⟨a, b, ns, ms, rfl, rfl, ha, hb, q⟩ := h
  cases rx
  cases ry
  obtain ⟨its, r1, p1, _⟩ := I.tuple ha
  obtain ⟨its2, r2, p2, _⟩ := I.tuple hb
  have i1 : IntsAre its.toArray.toList ns := intsAre_of r1
  have i2 : IntsAre its2.toArray.toList ms := intsAre_of r2
  exact HT.lt_tupInts p1 p2 i1 i2 hu ⟨.bl (HT.lexLt ns ms), H, I, rfl, q⟩
/-- t + u, t not empty: u empty gives t itself -/
def rCatT (K : PySem.W.Frag) : R2 := fun x y H Q => ∃ a b xs ys, x = .ref a ∧ y = .ref b ∧ SqT K H a xs ∧ SqT K H b ys ∧ xs ≠ [] ∧ xs.length + ys.length ≤ sizeLine ∧
  (ys = [] → Q (.ref a) H) ∧ (ys ≠ [] → ∀ p, H p = none → Q (.ref p) (upd H p (.tup (xs ++ ys))))
theorem Vals.nil_iff {xs : List V} {us : List Value} (r : Vals xs us) : us = [] ↔ xs = [] := by
  cases r with
  | nil => simp
  | cons _ _ => simp
theorem op_catT : OpR X (binaryOp .Add) (rCatT X.K) := by
  intro pins s σ H x y v u Q I rx ry h
  obtain ⟨a, b, xs, ys, rfl, rfl, ha, hb, hx, hz, q1, q2⟩ := h
  cases rx
  cases ry
  obtain ⟨its, r1, p1, _⟩ := I.tuple ha
  obtain ⟨its2, r2, p2, _⟩ := I.tuple hb
  refine HT.cat_tup p1 p2 (fun z => hx (r1.nil_iff.mp z)) (fun z => ⟨.ref a, H, I, rfl, q1 (r2.nil_iff.mp z)⟩) (fun z => ?_) (by rw [← r1.length, ← r2.length]; exact hz)
  refine ⟨.ref s.heap.objs.size, _, I.laid (t' := s.toks) (o := .tup (xs ++ ys)) (fun b ob q => Heap.get?_push_of_some _ q) (Nat.le_refl _) ?_, rfl, q2 (fun w => z (r2.nil_iff.mpr w)) _ (I.hok.fresh (Nat.le_refl _))⟩
  exact ⟨by rw [List.length_append]; exact hz, _, r1.append r2, IsTup.new _ _⟩
/-- tuple(t) -/
theorem call_tupleT : CallR X (.type "tuple") (fun xs H Q => ∃ a ys, xs = [.ref a] ∧ SqT X.K H a ys ∧ Q (.ref a) H) := by
  intro pins s σ H xs us Q I r h
  obtain ⟨a, ys, rfl, ha, q⟩ := h
  obtain ⟨u, rfl, ru⟩ := vals1 r
  cases ru
  obtain ⟨its, _, p1, _⟩ := I.tuple ha
  exact call_tuple_same (items := its.toArray) p1 ⟨.ref a, H, I, rfl, q⟩
end
end L2

namespace L2
open PySem PySem.Spec PyProof.Rows

/-! ### places -/
/-- the place that an index of any sign means -/
def ixN (n : Nat) (i : Int) : Option Nat := if 0 ≤ i then (if i < n then some i.toNat else none) else if -(n : Int) ≤ i then some (i + n).toNat else none
def atI {α : Type} (xs : List α) (i : Int) : Option α := (ixN xs.length i).bind fun j => xs[j]?
theorem ixN_seq {n : Nat} {i : Int} {j : Nat} (h : ixN n i = some j) : seqIndex? i n = some j ∧ j < n ∧ -(n : Int) ≤ i ∧ i < n := by
  unfold ixN at h
  by_cases h0 : 0 ≤ i
  · rw [if_pos h0] at h
    by_cases h1 : i < n
    · rw [if_pos h1] at h
      have e : i.toNat = j := Option.some.inj h
      exact ⟨by rw [seqIndex_of h0 h1, e], by omega, by omega, h1⟩
    · rw [if_neg h1] at h; cases h
  · rw [if_neg h0] at h
    by_cases h1 : -(n : Int) ≤ i
    · rw [if_pos h1] at h
      have e : (i + n).toNat = j := Option.some.inj h
      exact ⟨by rw [seqIndex_neg (by omega) h1, e], by omega, h1, by omega⟩
    · rw [if_neg h1] at h; cases h
theorem atI_get {α : Type} {xs : List α} {i : Int} {v : α} (h : atI xs i = some v) : ∃ j, seqIndex? i xs.length = some j ∧ xs[j]? = some v ∧ j < xs.length ∧ -(xs.length : Int) ≤ i ∧ i < xs.length := by
  unfold atI at h
  cases e : ixN xs.length i with
  | none => rw [e] at h; cases h
  | some j =>
    rw [e] at h
    obtain ⟨h1, h2, h3, h4⟩ := ixN_seq e
    exact ⟨j, h1, h, h2, h3, h4⟩
theorem atI_nat {α : Type} {xs : List α} {j : Nat} {v : α} (h : xs[j]? = some v) : atI xs (j : Int) = some v := by
  have hj : j < xs.length := (List.getElem?_eq_some_iff.mp h).1
  have e : ixN xs.length (j : Int) = some j := by
    unfold ixN
    rw [if_pos (by omega), if_pos (by omega)]; simp
  unfold atI; rw [e]; exact h
theorem atI_last {α : Type} (xs : List α) (v : α) : atI (xs ++ [v]) (-1) = some v := by
  have hl : (xs ++ [v]).length = xs.length + 1 := by simp
  have e : ixN (xs ++ [v]).length (-1) = some xs.length := by
    unfold ixN
    rw [hl, if_neg (by decide), if_pos (by omega)]
    congr 1
    omega
  unfold atI
  rw [e]
  show (xs ++ [v])[xs.length]? = some v
  simp

/-! ### what may be subscripted -/
/-- what stands as an index of a plain subscript -/
def PlainIx (b : Expr) : Prop := ∀ o i, subscripted b false o i = operate [o, i] (getItem o i)
/-- a subscript by values -/
def IxR (X : Cx) (r : R2) : Prop :=
  ∀ (value slice : Expr) (pins : List (Addr × Obj)) (s : Shared) (σ : St) (H : Hp) (x y : V) (v u : Value) (Q : VK), Inv X pins σ H s → RelV x v → RelV y u → r x y H Q →
    subscripted slice false v u = operate [v, u] (getItem v u) → wpAny (model X.prog X.w) X.A (subscriptTail value slice v u) (EP X pins σ Q) X.xe s
/-- a call of a builtin's method by values: the receiver, the arguments -/
def MtR (X : Cx) (id : String) (r : V → List V → Hp → VK → Prop) : Prop :=
  ∀ (pins : List (Addr × Obj)) (s : Shared) (σ : St) (H : Hp) (x : V) (xs : List V) (v : Value) (us : List Value) (Q : VK), Inv X pins σ H s → RelV x v → Vals xs us → r x xs H Q →
    wpAny (model X.prog X.w) X.A (call (.builtin id) (v :: us)) (EP X pins σ Q) X.xe s
section
variable {X : Cx} {a b : Expr} {ta tb : TE} {pos : Pos}
theorem IxR.or {r r' : R2} (h : IxR X r) (h' : IxR X r') : IxR X (fun x y H Q => r x y H Q ∨ r' x y H Q) := by
  intro value slice pins s σ H x y v u Q I rx ry q hs
  rcases q with q | q
  · exact h value slice pins s σ H x y v u Q I rx ry q hs
  · exact h' value slice pins s σ H x y v u Q I rx ry q hs
theorem MtR.or {id : String} {r r' : V → List V → Hp → VK → Prop} (h : MtR X id r) (h' : MtR X id r') : MtR X id (fun x xs H Q => r x xs H Q ∨ r' x xs H Q) := by
  intro pins s σ H x xs v us Q I rx rs q
  rcases q with q | q
  · exact h pins s σ H x xs v us Q I rx rs q
  · exact h' pins s σ H x xs v us Q I rx rs q
/-- a[b] -/
theorem pe_ix {r : R2} (hr : IxR X r) (ha : PE X a ta) (hb : PE X b tb) (hs : PlainIx b) : PE X (.Subscript a b pos) (tOp r ta tb) := by
  intro pins s σ H Q I h
  exact Subscript_ (binT ha hb I h fun v u s2 x y H2 I2 rx ry q => hr a b pins s2 σ H2 x y v u Q I2 rx ry q (hs _ _))

def rIxL (K : PySem.W.Frag) : R2 := fun x y H Q => ∃ p xs i v, x = .ref p ∧ y = .int i ∧ SqL K H p xs ∧ atI xs i = some v ∧ Q v H
def rIxT (K : PySem.W.Frag) : R2 := fun x y H Q => ∃ p xs i v, x = .ref p ∧ y = .int i ∧ SqT K H p xs ∧ atI xs i = some v ∧ Q v H
def rIxS : R2 := fun x y H Q => ∃ z i c, x = .str z ∧ y = .int i ∧ z.length ≤ sizeLine ∧ atI z.cps.toList i = some c ∧ Q (.str ⟨#[c]⟩) H
theorem ix_list : IxR X (rIxL X.K) := by
  intro value slice pins s σ H x y v u Q I rx ry h hs
  obtain ⟨p, xs, i, z, rfl, rfl, hq, he, q⟩ := h
  cases rx
  obtain ⟨t, rfl⟩ := ry
  obtain ⟨its, r, pl, hz⟩ := I.list hq
  obtain ⟨j, h1, h2, h3, h4, h5⟩ := atI_get he
  obtain ⟨w, ew, rw'⟩ := r.get h2
  have hl := r.length
  have hn := line63
  have fin : EP X pins σ Q w s := ⟨z, H, I, rw', q⟩
  by_cases h0 : 0 ≤ i
  · have hj : i.toNat = j := by
      rw [seqIndex_of h0 h5] at h1
      exact Option.some.inj h1
    exact item_listR pl.isList h0 (by omega) (by rw [hj]; simpa using ew) fin hs
  · have hj : (i + (its.toArray.size : Int)).toNat = j := by
      rw [seqIndex_neg (by omega) h4] at h1
      rw [List.size_toArray, ← hl]
      exact Option.some.inj h1
    exact subscriptTail_builtinR (x := w) pl.isList.typeIs slot_list_getitem.lookup
      (wpAny_getItem_list_neg (Q := fun r s' => r = w ∧ EP X pins σ Q r s') pl.isList (by omega) (by rw [List.size_toArray] <;> omega) (by omega) (by rw [hj]; simpa using ew) ⟨rfl, fin⟩) hs
theorem ix_tup : IxR X (rIxT X.K) := by
  intro value slice pins s σ H x y v u Q I rx ry h hs
  obtain ⟨p, xs, i, z, rfl, rfl, hq, he, q⟩ := h
  cases rx
  obtain ⟨t, rfl⟩ := ry
  obtain ⟨its, r, pl, hz⟩ := I.tuple hq
  obtain ⟨j, h1, h2, h3, h4, h5⟩ := atI_get he
  obtain ⟨w, ew, rw'⟩ := r.get h2
  have hl := r.length
  have hn := line63
  have fin : EP X pins σ Q w s := ⟨z, H, I, rw', q⟩
  exact subscriptTail_builtinR (x := w) pl.typeIs slot_tuple_getitem.lookup
    (getItem_tuple (j := j) (Q := fun r s' => r = w ∧ EP X pins σ Q r s') pl (by omega) (by omega) (by rw [List.size_toArray, ← hl]; exact h1) (by simpa using ew) ⟨rfl, fin⟩) hs
theorem ix_str : IxR X rIxS := by
  intro value slice pins s σ H x y v u Q I rx ry h hs
  obtain ⟨z, i, c, rfl, rfl, hz, he, q⟩ := h
  obtain ⟨t, rfl⟩ := rx
  obtain ⟨t', rfl⟩ := ry
  obtain ⟨j, h1, h2, h3, h4, h5⟩ := atI_get he
  have hl : z.cps.toList.length = z.length := by simp [Str.length]
  rw [hl] at h1 h4 h5
  have hn := line63
  exact tail_any (typeIs_str s z t) slot_str_getitem.lookup (getItem_str (c := c) (by
    have e1 : decide (i < -(2 ^ 63 : Int)) = false := decide_eq_false (by omega)
    have e2 : decide (i ≥ 2 ^ 63) = false := decide_eq_false (by omega)
    rw [e1, e2, Bool.or_false]) (by rw [h1]; simpa using h2) ⟨.str ⟨#[c]⟩, H, I.tok _, ⟨_, rfl⟩, q⟩) hs
/-- list, tuple or str -/
def rIx (K : PySem.W.Frag) : R2 := fun x y H Q => rIxL K x y H Q ∨ rIxT K x y H Q ∨ rIxS x y H Q
theorem ix_seq : IxR X (rIx X.K) := ix_list.or (ix_tup.or ix_str)

/-! ### xs[i] = v, any sign -/
/-- the list's object behind a store -/
theorem mapSeq_set (its : List Value) (n j : Nat) (u : Value) : Obj.mapSeq (·.setIfInBounds j u) { cls := .type "list", data := .seq its.toArray n } = { cls := .type "list", data := .seq (its.set j u).toArray n } := by
  simp [Obj.mapSeq]
theorem Inv.lst {pins : List (Addr × Obj)} {σ : St} {H : Hp} {s : Shared} {p : Addr} {xs : List V} (I : Inv X pins σ H s) (h : H p = some (.lst xs)) :
    ∃ (its : List Value) (n : Nat), Vals xs its ∧ s.heap.get? p = some { cls := .type "list", data := .seq its.toArray n } ∧ xs.length ≤ sizeLine := by
  obtain ⟨z, its, n, r, e⟩ := I.hok p _ h
  exact ⟨its, n, r, e, z⟩
/-- the list at p is written by an update of its object -/
theorem Inv.lstUpd {pins : List (Addr × Obj)} {σ : St} {H : Hp} {s : Shared} {p : Addr} {xs ys : List V} {its its' : List Value} {n n' : Nat} {f : Obj → Obj} (I : Inv X pins σ H s) (h : H p = some (.lst xs))
    (ho : s.heap.get? p = some { cls := .type "list", data := .seq its.toArray n }) (hf : f { cls := .type "list", data := .seq its.toArray n } = { cls := .type "list", data := .seq its'.toArray n' }) (r : Vals ys its') (hz : ys.length ≤ sizeLine) (t : Nat) :
    Inv X pins σ (upd H p (.lst ys)) { s with heap := s.heap.update p f, toks := t } := by
  have e : (s.heap.update p f).get? p = some { cls := .type "list", data := .seq its'.toArray n' } := by
    rw [Heap.get?_update_self f ho (by rw [hf] <;> rfl), hf]
  refine I.write (x := p) (e := p) (by rw [h]; trivial) (.inl rfl) (fun b u hb q => (Heap.get?_update_other _ _ (Ne.symm hb)).trans q) ⟨_, e⟩ ?_
  exact ⟨hz, its', n', r, e⟩
def rSetL : V → V → V → Hp → (Hp → Prop) → Prop := fun o i v H Q => ∃ p xs k j, o = .ref p ∧ i = .int k ∧ H p = some (.lst xs) ∧ ixN xs.length k = some j ∧ Q (upd H p (.lst (xs.set j v)))
theorem set_list : PSet X rSetL := by
  intro pins s σ H o i v ov iv u Q I ro ri rv h
  obtain ⟨p, xs, k, j, rfl, rfl, hp, hj, q⟩ := h
  cases ro
  obtain ⟨t, rfl⟩ := ri
  obtain ⟨its, n, r, ho, hz⟩ := I.lst hp
  obtain ⟨h1, h2, h3, h4⟩ := ixN_seq hj
  have hl := r.length
  have hn := line63
  have I' : Inv X pins σ (upd H p (.lst (xs.set j v))) { s with heap := s.heap.update p (Obj.mapSeq (·.setIfInBounds j u)) } :=
    I.lstUpd hp ho (mapSeq_set its n j u) (r.set rv j) (by rw [List.length_set]; exact hz) s.toks
  by_cases h0 : 0 ≤ k
  · have hk : k.toNat = j := by
      rw [seqIndex_of h0 h4] at h1
      exact Option.some.inj h1
    exact PySem.W.ki_setAt ho h0 (by omega) (by rw [List.size_toArray, ← hl]; exact h4) (by rw [hk]; exact ⟨_, I', q⟩)
  · have hk : (k + (its.toArray.size : Int)).toNat = j := by
      rw [seqIndex_neg (by omega) h3] at h1
      rw [List.size_toArray, ← hl]
      exact Option.some.inj h1
    exact PySem.W.ki_setBack ho (by omega) (by rw [List.size_toArray, ← hl]; exact h3) (by omega) (by rw [hk]; exact ⟨_, I', q⟩)

/-! ### slices -/
theorem slice_bounds (lo hi : Option Int) (n : Nat) : (sliceBounds lo hi none n).1 = ((HT.sIx n 0 lo : Nat) : Int) ∧ (sliceBounds lo hi none n).2.1 = ((HT.sIx n n hi : Nat) : Int) ∧ (sliceBounds lo hi none n).2.2 = 1 := by
  refine ⟨?_, ?_, rfl⟩
  · cases lo with
    | none => simp [sliceBounds, HT.sIx]
    | some i =>
      simp only [sliceBounds, HT.sIx, Option.getD_none, show (1 : Int) > 0 by decide, if_true]
      by_cases h : i < 0
      · simp only [h, if_true] <;> omega
      · simp only [h, if_false] <;> omega
  · cases hi with
    | none => simp [sliceBounds, HT.sIx]
    | some i =>
      simp only [sliceBounds, HT.sIx, Option.getD_none, show (1 : Int) > 0 by decide, if_true]
      by_cases h : i < 0
      · simp only [h, if_true] <;> omega
      · simp only [h, if_false] <;> omega
theorem slicePick_cut (its : List Value) (lo hi : Option Int) : slicePick its.toArray lo hi none = ((its.drop (HT.sIx its.length 0 lo)).take (HT.sIx its.length its.length hi - HT.sIx its.length 0 lo)).toArray := by
  obtain ⟨h1, h2, h3⟩ := slice_bounds lo hi its.toArray.size
  unfold slicePick
  rw [h1, h2, h3]
  simp only [sliceRange_one, pick_run, List.size_toArray] <;> rfl
/-- xs[lo:hi] of a list: a new list -/
def rSlL (K : PySem.W.Frag) : V → Option Int → Option Int → Hp → VK → Prop := fun x lo hi H Q => ∃ a xs, x = .ref a ∧ SqL K H a xs ∧ ∀ p, H p = none → Q (.ref p) (upd H p (.lst (cutV xs lo hi)))
theorem sl_list : SlR X (rSlL X.K) := by
  intro pins s σ H x v vl vu lo hi sl Q I rx hs pl pu h
  obtain ⟨a, xs, rfl, hx, q⟩ := h
  cases rx
  obtain ⟨its, r, ht, hz⟩ := I.list hx
  have hlen := r.length
  refine ⟨"list", _, slot_list_getitem.lookup, ht.isList.typeIs, ?_⟩
  refine wpAny_getItem_list_slice ht.isList hs pl pu .none (by simp) ?_ (by rw [List.size_toArray] <;> omega)
  rw [slicePick_cut, ← hlen]
  refine ⟨.ref s.heap.objs.size, _, I.laid (t' := s.toks) (o := .lst (cutV xs lo hi)) (fun b ob q => Heap.get?_push_of_some _ q) (Nat.le_refl _) ?_, rfl, q _ (I.hok.fresh (Nat.le_refl _))⟩
  exact ⟨Nat.le_trans (cutV_length xs lo hi) hz, _, 0, (r.drop (HT.sIx xs.length 0 lo)).take (HT.sIx xs.length xs.length hi - HT.sIx xs.length 0 lo), Heap.get?_push_size _ rfl⟩

/-! ### in, not in: flat items -/
def flatV : V → Bool
  | .non => true
  | .bl _ => true
  | .int _ => true
  | .str _ => true
  | _ => false
/-- == of flat values -/
def eqV : V → V → Bool
  | .non, .non => true
  | .bl a, .bl b => a == b
  | .bl a, .int b => (if a then 1 else 0) == b
  | .int a, .bl b => a == (if b then 1 else 0)
  | .int a, .int b => a == b
  | .str a, .str b => a == b
  | _, _ => false
theorem eqAt_V {A : Around} {s : Shared} {y x : V} {u v : Value} (ry : RelV y u) (rx : RelV x v) (fy : flatV y = true) (fx : flatV x = true) : SeqAt.EqAt A s u v (eqV y x) := by
  cases y with
  | non =>
    cases ry
    cases x with
    | non => cases rx; exact SeqAt.EqAt.same _
    | bl b => cases rx; exact SeqAt.EqAt.none_bool b
    | int b => obtain ⟨t, rfl⟩ := rx; exact SeqAt.EqAt.none_int b t
    | str b => obtain ⟨t, rfl⟩ := rx; exact SeqAt.EqAt.none_str b t
    | _ => exact absurd (show false = true from fx) Bool.false_ne_true
  | bl a =>
    cases ry
    cases x with
    | non => cases rx; exact SeqAt.EqAt.bool_none a
    | bl b => cases rx; exact SeqAt.EqAt.bool_bool a b
    | int b => obtain ⟨t, rfl⟩ := rx; exact SeqAt.EqAt.bool_int a b t
    | str b => obtain ⟨t, rfl⟩ := rx; exact SeqAt.EqAt.bool_str a b t
    | _ => exact absurd (show false = true from fx) Bool.false_ne_true
  | int a =>
    obtain ⟨t', rfl⟩ := ry
    cases x with
    | non => cases rx; exact SeqAt.EqAt.int_none a t'
    | bl b => cases rx; exact SeqAt.EqAt.int_bool a t' b
    | int b => obtain ⟨t, rfl⟩ := rx; exact SeqAt.EqAt.int_int a t' b t
    | str b => obtain ⟨t, rfl⟩ := rx; exact SeqAt.EqAt.int_str a t' b t
    | _ => exact absurd (show false = true from fx) Bool.false_ne_true
  | str a =>
    obtain ⟨t', rfl⟩ := ry
    cases x with
    | non => cases rx; exact SeqAt.EqAt.str_none a t'
    | bl b => cases rx; exact SeqAt.EqAt.str_bool a t' b
    | int b => obtain ⟨t, rfl⟩ := rx; exact SeqAt.EqAt.str_int a t' b t
    | str b => obtain ⟨t, rfl⟩ := rx; exact SeqAt.EqAt.str_str a t' b t
    | _ => exact absurd (show false = true from fx) Bool.false_ne_true
  | _ => exact absurd (show false = true from fy) Bool.false_ne_true
/-- the items' answers, read off the values (a value's own answer does not lean on its token) -/
def eqU (x : V) (u : Value) : Bool := match u with
  | .none => eqV .non x
  | .bool b => eqV (.bl b) x
  | .int i _ => eqV (.int i) x
  | .str z _ => eqV (.str z) x
  | _ => false
theorem eqU_of {x y : V} {u : Value} (r : RelV y u) (f : flatV y = true) : eqU x u = eqV y x := by
  cases y with
  | non => cases r; rfl
  | bl b => cases r; rfl
  | int i => obtain ⟨t, rfl⟩ := r; rfl
  | str z => obtain ⟨t, rfl⟩ := r; rfl
  | _ => exact absurd (show false = true from f) Bool.false_ne_true
theorem any_eqU {x : V} : ∀ {xs : List V} {us : List Value}, Vals xs us → xs.all flatV = true → us.any (eqU x) = xs.any fun y => eqV y x
  | _, _, .nil, _ => rfl
  | y :: xs, u :: us, .cons r t, f => by
    rw [List.all_cons, Bool.and_eq_true] at f
    rw [List.any_cons, List.any_cons, eqU_of r f.1, any_eqU t f.2]
theorem mem_eqAt {A : Around} {s : Shared} {x : V} {v : Value} (rx : RelV x v) (fx : flatV x = true) : ∀ {xs : List V} {us : List Value}, Vals xs us → xs.all flatV = true → ∀ u ∈ us, SeqAt.EqAt A s u v (eqU x u)
  | _, _, .nil, _ => fun u hu => by cases hu
  | y :: xs, u :: us, .cons r t, f => fun u' hu => by
    rw [List.all_cons, Bool.and_eq_true] at f
    rcases List.mem_cons.mp hu with rfl | hu
    · rw [eqU_of r f.1]; exact eqAt_V r rx f.1 fx
    · exact mem_eqAt rx fx t f.2 u' hu
def inV (x : V) (xs : List V) : Bool := xs.any fun y => eqV y x
/-- x in a list or tuple of flat items -/
def rIn (K : PySem.W.Frag) (neg : Bool) : R2 := fun x y H Q => ∃ p xs, y = .ref p ∧ (SqL K H p xs ∨ SqT K H p xs) ∧ flatV x = true ∧ xs.all flatV = true ∧ Q (.bl (if neg then !inV x xs else inV x xs)) H
theorem op_in_seq : OpR X (compareOp .In) (rIn X.K false) := by
  intro pins s σ H x y v u Q I rx ry h
  obtain ⟨p, xs, rfl, hq, fx, fs, q⟩ := h
  cases ry
  rcases hq with hq | hq
  · obtain ⟨its, r, pl, hz⟩ := I.list hq
    refine SeqAt.in_listAt (eqU x) pl.isList (fun w hw => mem_eqAt rx fx r fs w (by simpa using hw)) ⟨.bl _, H, I, rfl, ?_⟩
    rw [show its.toArray.any (eqU x) = its.any (eqU x) by simp, any_eqU r fs]
    exact q
  · obtain ⟨its, r, pl, hz⟩ := I.tuple hq
    refine SeqAt.in_tupleAt (eqU x) pl (fun w hw => mem_eqAt rx fx r fs w (by simpa using hw)) ⟨.bl _, H, I, rfl, ?_⟩
    rw [show its.toArray.any (eqU x) = its.any (eqU x) by simp, any_eqU r fs]
    exact q
theorem op_notIn_seq : OpR X (compareOp .NotIn) (rIn X.K true) := by
  intro pins s σ H x y v u Q I rx ry h
  obtain ⟨p, xs, rfl, hq, fx, fs, q⟩ := h
  cases ry
  rcases hq with hq | hq
  · obtain ⟨its, r, pl, hz⟩ := I.list hq
    refine SeqAt.notIn_listAt (eqU x) pl.isList (fun w hw => mem_eqAt rx fx r fs w (by simpa using hw)) ⟨.bl _, H, I, rfl, ?_⟩
    rw [show its.toArray.any (eqU x) = its.any (eqU x) by simp, any_eqU r fs]
    exact q
  · obtain ⟨its, r, pl, hz⟩ := I.tuple hq
    refine SeqAt.notIn_tupleAt (eqU x) pl (fun w hw => mem_eqAt rx fx r fs w (by simpa using hw)) ⟨.bl _, H, I, rfl, ?_⟩
    rw [show its.toArray.any (eqU x) = its.any (eqU x) by simp, any_eqU r fs]
    exact q
theorem op_notIn_str : OpR X (compareOp .NotIn) (fun x y H Q => ∃ i j, x = .str i ∧ y = .str j ∧ Q (.bl (!(!(Builtin.Str.occurrences j i 0 j.length 1).isEmpty))) H) := by
  intro pins s σ H x y v u Q I rx ry h
  obtain ⟨i, j, rfl, rfl, q⟩ := h
  obtain ⟨t, rfl⟩ := rx
  obtain ⟨t', rfl⟩ := ry
  exact notIn_str ⟨.bl _, H, I, rfl, q⟩

/-! ### len, list(x), tuple(x) of any list or tuple that is read -/
theorem call_len_seq : CallR X (.builtin "len") (fun xs H Q => ∃ p ys, xs = [.ref p] ∧ (SqL X.K H p ys ∨ SqT X.K H p ys) ∧ Q (.int ys.length) H) := by
  intro pins s σ H xs us Q I r h
  obtain ⟨p, ys, rfl, hq, q⟩ := h
  obtain ⟨u, rfl, rx⟩ := vals1 r
  cases rx
  have hn := line63
  rcases hq with hq | hq
  · obtain ⟨its, r', pl, hz⟩ := I.list hq
    have hlen := r'.length
    exact Calls.call_len_list pl.isList (by simp only [List.size_toArray] <;> omega) ⟨.int ys.length, H, I.tok _, ⟨s.toks + 1, by rw [List.size_toArray, hlen]⟩, q⟩
  · obtain ⟨its, r', pl, hz⟩ := I.tuple hq
    have hlen := r'.length
    exact len_tuple pl (by simp only [List.size_toArray] <;> omega) ⟨.int ys.length, H, I.tok _, ⟨s.toks + 1, by rw [List.size_toArray, hlen]⟩, q⟩
theorem call_len_str : CallR X (.builtin "len") (fun xs H Q => ∃ z, xs = [.str z] ∧ z.length ≤ sizeLine ∧ Q (.int z.length) H) := by
  intro pins s σ H xs us Q I r h
  obtain ⟨z, rfl, hz, q⟩ := h
  obtain ⟨u, rfl, t, rfl⟩ := vals1 r
  have hn := line63
  exact len_str (by omega) ⟨.int z.length, H, I.tok _, ⟨_, rfl⟩, q⟩
theorem CallR.or {f : Value} {r r' : List V → Hp → VK → Prop} (h : CallR X f r) (h' : CallR X f r') : CallR X f (fun xs H Q => r xs H Q ∨ r' xs H Q) := by
  intro pins s σ H xs us Q I rs q
  rcases q with q | q
  · exact h pins s σ H xs us Q I rs q
  · exact h' pins s σ H xs us Q I rs q
theorem call_list_of : CallR X (.type "list") (fun xs H Q => ∃ p ys, xs = [.ref p] ∧ (SqL X.K H p ys ∨ SqT X.K H p ys) ∧ ∀ l, H l = none → Q (.ref l) (upd H l (.lst ys))) := by
  intro pins s σ H xs us Q I r h
  obtain ⟨p, ys, rfl, hq, q⟩ := h
  obtain ⟨u, rfl, rx⟩ := vals1 r
  cases rx
  have fin : ∀ (its : List Value), Vals ys its → ys.length ≤ sizeLine → ∀ (h' : Heap) (c' : Nat), (∀ b o', s.heap.get? b = some o' → h'.get? b = some o') →
      h'.get? s.heap.objs.size = some { cls := .type "list", dict := none, data := .seq its.toArray c', slots := #[] } → EP X pins σ Q (.ref s.heap.objs.size) { s with heap := h' } := fun its r' hz h' c' kp e =>
    ⟨.ref s.heap.objs.size, _, I.laid (t' := s.toks) kp (Nat.le_refl _) (show ObjOk X.prog X.w _ h' _ (.lst ys) from ⟨hz, its, c', r', e⟩), rfl, q _ (I.hok.fresh (Nat.le_refl _))⟩
  rcases hq with hq | hq
  · obtain ⟨its, r', pl, hz⟩ := I.list hq
    have hlen := r'.length
    obtain ⟨o, ho, hc, n, hd⟩ := pl.isList
    exact call_list_seq p (.inl rfl) ho hc hd (fun h' c' kp e => fin its r' hz h' c' kp e) (by simp only [List.size_toArray] <;> omega)
  · obtain ⟨its, r', pl, hz⟩ := I.tuple hq
    have hlen := r'.length
    obtain ⟨o, ho, hc, n, hd⟩ := pl
    exact call_list_seq p (.inr rfl) ho hc hd (fun h' c' kp e => fin its r' hz h' c' kp e) (by simp only [List.size_toArray] <;> omega)
theorem call_tuple_of : CallR X (.type "tuple") (fun xs H Q => ∃ p ys, xs = [.ref p] ∧ ((SqL X.K H p ys ∧ ∀ l, H l = none → Q (.ref l) (upd H l (.tup ys))) ∨ (SqT X.K H p ys ∧ Q (.ref p) H))) := by
  intro pins s σ H xs us Q I r h
  obtain ⟨p, ys, rfl, h⟩ := h
  obtain ⟨u, rfl, rx⟩ := vals1 r
  cases rx
  rcases h with ⟨hq, q⟩ | ⟨hq, q⟩
  · obtain ⟨its, r', pl, hz⟩ := I.list hq
    have hlen := r'.length
    refine call_tuple_list pl.isList (fun h' kp => ?_) (by simp only [List.size_toArray] <;> omega)
    have I1 : Inv X pins σ H { s with heap := h' } := I.kept (t' := s.toks) kp
    have I2 : Inv X pins σ (upd H h'.objs.size (.tup ys)) { s with heap := h'.push { cls := .type "tuple", data := .seq its.toArray } } :=
      I1.laid (t' := s.toks) (fun b o e => Heap.get?_push_of_some _ e) (Nat.le_refl _) (show ObjOk X.prog X.w _ _ _ (.tup ys) from ⟨hz, its, r', IsTup.new _ _⟩)
    exact ⟨.ref h'.objs.size, _, I2, rfl, q _ (I1.hok.fresh (Nat.le_refl _))⟩
  · obtain ⟨its, r', pl, hz⟩ := I.tuple hq
    exact call_tuple_same pl ⟨.ref p, H, I, rfl, q⟩

/-! ### the call of a builtin's method: o.m(..) -/
/-- the value is of that builtin type -/
def tyV (K : PySem.W.Frag) (T : String) (x : V) (H : Hp) : Prop := match x with
  | .str _ => T = "str"
  | .int _ => T = "int"
  | .ref p => (T = "list" ∧ ∃ xs, SqL K H p xs) ∨ (T = "tuple" ∧ ∃ o, K.lookup p = some o ∧ o.cls = .type "tuple" ∧ o.dict = none) ∨
      (T = "dict" ∧ ((∃ kvs, H p = some (.dK kvs)) ∨ ∃ kvs, H p = some (.dT kvs))) ∨ (T = "set" ∧ ∃ S n, H p = some (.set S n))
  | _ => False
theorem tyV_is {pins : List (Addr × Obj)} {σ : St} {H : Hp} {s : Shared} {T : String} {x : V} {v : Value} (I : Inv X pins σ H s) (r : RelV x v) (ty : tyV X.K T x H) :
    s.TypeIs v T ∧ ∀ a, v = .ref a → ∃ ob, s.heap.get? a = some ob ∧ ob.dict = none := by
  cases x with
  | str z =>
    obtain ⟨t, rfl⟩ := r
    cases (show T = "str" from ty)
    exact ⟨typeIs_str s z t, fun _ e => nomatch e⟩
  | int i =>
    obtain ⟨t, rfl⟩ := r
    cases (show T = "int" from ty)
    exact ⟨typeIs_int s i t, fun _ e => nomatch e⟩
  | ref p =>
    cases r
    rcases ty with ⟨rfl, xs, hq⟩ | ⟨rfl, o, hk, hc, hd⟩ | ⟨rfl, hk⟩ | ⟨rfl, S, n, hk⟩
    · obtain ⟨its, _, pl, _⟩ := I.list hq
      refine ⟨pl.isList.typeIs, fun a e => ?_⟩
      cases e
      obtain ⟨o, n, e, c, hd, _⟩ := pl
      exact ⟨o, e, hd⟩
    · refine ⟨⟨o, I.kIn p o hk, hc⟩, fun a e => ?_⟩
      cases e
      exact ⟨o, I.kIn _ o hk, hd⟩
    · have z : ∃ o, s.heap.get? p = some o ∧ o.ExactDict := by
        rcases hk with ⟨kvs, hk⟩ | ⟨kvs, hk⟩
        · obtain ⟨_, _, _, _, o, _, _, e, ex, _⟩ := I.hok p _ hk
          exact ⟨o, e, ex⟩
        · obtain ⟨_, _, _, _, o, _, _, e, ex, _⟩ := I.hok p _ hk
          exact ⟨o, e, ex⟩
      obtain ⟨o, e, ex⟩ := z
      refine ⟨⟨o, e, ex.1⟩, fun a e2 => ?_⟩
      cases e2
      exact ⟨o, e, ex.2.1⟩
    · obtain ⟨o, _, _, _, e, ex, _⟩ := I.hok p _ hk
      refine ⟨⟨o, e, ex.1⟩, fun a e2 => ?_⟩
      cases e2
      exact ⟨o, e, ex.2.1⟩
  | _ => exact False.elim ty
def tBM0 (K : PySem.W.Frag) (T : String) (r : V → List V → Hp → VK → Prop) (to : TE) : TE := fun σ H Q => to σ H fun x H1 => tyV K T x H1 ∧ r x [] H1 Q
def tBM (K : PySem.W.Frag) (T : String) (r : V → List V → Hp → VK → Prop) (to : TE) (t : TA) : TE := fun σ H Q => to σ H fun x H1 => tyV K T x H1 ∧ t σ H1 fun xs H2 => r x xs H2 Q
variable {o e : Expr} {es : List Expr} {to : TE} {t : TA} {name : Str} {apos cpos : Pos} {T id : String} {r : V → List V → Hp → VK → Prop}
theorem pe_bm0 (pa : PlainAttrs T) (slot : Slot T name id) (hty : typeOf (.builtin id) = pure (.type "method_descriptor")) (hm : MtR X id r) (ho : PE X o to)
    (hbase : attributeBase o name X.env (eval o X.env) = eval o X.env := by rfl) (hline : (apos.endLine == cpos.line) = true := by rfl) : PE X (.Call (.Attribute o name apos) [] [] cpos) (tBM0 X.K T r to) := by
  intro pins s σ H Q I h
  refine wpAny_Call_method0_late hbase hline (thn (ho pins s σ H _ I h) fun v s1 ⟨x, H1, I1, r1, ty, q1⟩ => ?_)
  obtain ⟨h1, h2⟩ := tyV_is I1 r1 ty
  exact ⟨T, id, pa, slot, hty, h1, h2, Calls.callWith_builtin rfl (PySem.evalArgs_none (hm pins s1 σ H1 x [] v [] Q I1 r1 .nil q1))⟩
theorem pe_bm (pa : PlainAttrs T) (slot : Slot T name id) (hty : typeOf (.builtin id) = pure (.type "method_descriptor")) (hm : MtR X id r) (ho : PE X o to) (ha : PA X (e :: es) t)
    (hbase : attributeBase o name X.env (eval o X.env) = eval o X.env := by rfl)
    (hfew : ((backTo cpos (starEach (e :: es) X.env)).all (fun x => !x.1) && (backToKw cpos (keywordEach [] X.env)).all (fun x => x.1.isSome)
      && decide ((e :: es).length + ([] : List Keyword).length + (if ([] : List Keyword).isEmpty then 0 else 1) < 30)) = true := by rfl)
    (hline : (apos.endLine == cpos.line) = true := by rfl) (hs : starEach (e :: es) X.env = (false, eval e X.env) :: starEach es X.env := by rfl) (hplain : (backTo cpos (starEach es X.env)).any (·.1) = false := by rfl) :
    PE X (.Call (.Attribute o name apos) (e :: es) [] cpos) (tBM X.K T r to t) := by
  intro pins s σ H Q I h
  refine wpAny_Call_method_late hbase hfew hline rfl (thn (ho pins s σ H _ I h) fun v s1 ⟨x, H1, I1, r1, ty, q1⟩ => ?_)
  obtain ⟨h1, h2⟩ := tyV_is I1 r1 ty
  refine ⟨T, id, pa, slot, hty, h1, h2, ?_⟩
  have hA := ha cpos pins s1 σ H1 _ I1 q1
  rw [hs] at hA ⊢
  refine Calls.callWith_builtin (by show (false || (backTo cpos (starEach es X.env)).any (·.1)) = false; rw [hplain] <;> rfl) (Calls.evalArgs_plain ?_)
  exact thn hA fun us s2 ⟨vs, H2, I2, r2, q2⟩ => hm pins s2 σ H2 x vs v us Q I2 r1 r2 q2
/- xs.append(e), list.index on a module's tuple .. are MtR facts of 06m -/
end
end L2

namespace L2
open PySem PySem.Spec PyProof.Rows

def MtM (X : Cx) (id : String) (r : V → List V → Hp → VK → Prop) : Prop :=
  ∀ (pins : List (Addr × Obj)) (s : Shared) (σ : St) (H : Hp) (x : V) (xs : List V) (v : Value) (us : List Value) (Q : VK), Inv X pins σ H s → RelV x v → Vals xs us → r x xs H Q →
    wpAny (model X.prog X.w) X.A (call (.builtin id) (v :: us)) (EP X pins σ Q) X.xe s

/-! ### lists of values -/
theorem Vals.one : ∀ {x : V} {us : List Value}, Vals [x] us → ∃ u, us = [u] ∧ RelV x u
  | _, _, .cons r .nil => ⟨_, rfl, r⟩
theorem Vals.two : ∀ {x y : V} {us : List Value}, Vals [x, y] us → ∃ u v, us = [u, v] ∧ RelV x u ∧ RelV y v
  | _, _, _, .cons r (.cons q .nil) => ⟨_, _, rfl, r, q⟩
theorem Vals.zero : ∀ {us : List Value}, Vals [] us → us = []
  | _, .nil => rfl
theorem Vals.dropLast {xs : List V} {us : List Value} (h : Vals xs us) : Vals xs.dropLast us.dropLast := by
  induction h with
  | nil => exact .nil
  | cons r t ih =>
    cases t with
    | nil => exact .nil
    | cons q t' => exact .cons r ih
theorem Vals.eraseIdx : ∀ {xs : List V} {us : List Value} (i : Nat), Vals xs us → Vals (xs.eraseIdx i) (us.eraseIdx i)
  | _, _, _, .nil => .nil
  | _, _, 0, .cons _ t => t
  | _, _, i + 1, .cons r t => .cons r (Vals.eraseIdx i t)
theorem Vals.reverse {xs : List V} {us : List Value} (h : Vals xs us) : Vals xs.reverse us.reverse := by
  induction h with
  | nil => exact .nil
  | cons r t ih => rw [List.reverse_cons, List.reverse_cons]; exact Vals.append ih (.cons r .nil)
theorem Vals.rep {xs : List V} {us : List Value} (h : Vals xs us) : ∀ k : Nat, Vals (List.replicate k xs).flatten (List.replicate k us).flatten
  | 0 => .nil
  | k + 1 => by
    rw [List.replicate_succ, List.replicate_succ, List.flatten_cons, List.flatten_cons]
    exact Vals.append h (Vals.rep h k)
theorem erase_last {α : Type} (l : List α) : l.eraseIdx (l.length - 1) = l.dropLast := by
  induction l with
  | nil => rfl
  | cons a r ih =>
    cases r with
    | nil => rfl
    | cons b r =>
      have e : (a :: b :: r).length - 1 = ((b :: r).length - 1) + 1 := by
        have h1 : (a :: b :: r).length = r.length + 2 := rfl
        have h2 : (b :: r).length = r.length + 1 := rfl
        omega
      rw [e, List.eraseIdx_cons_succ, ih]
      all_goals rfl
theorem len_erase {α : Type} : ∀ (l : List α) (i : Nat), (l.eraseIdx i).length ≤ l.length
  | [], _ => Nat.le_refl _
  | _ :: _, 0 => Nat.le_succ _
  | _ :: r, i + 1 => Nat.succ_le_succ (len_erase r i)
theorem foldl_rep (its : List Value) : ∀ (k : Nat) (acc : List Value),
    List.foldl (fun x1 x2 => x1 ++ x2) acc.toArray (List.replicate k its.toArray) = (acc ++ (List.replicate k its).flatten).toArray
  | 0, acc => by simp
  | k + 1, acc => by
    have e : acc.toArray ++ its.toArray = (acc ++ its).toArray := by simp
    have e2 : (acc ++ its) ++ (List.replicate k its).flatten = acc ++ (List.replicate (k + 1) its).flatten := by
      rw [List.replicate_succ, List.flatten_cons, List.append_assoc]
    rw [← e2, ← foldl_rep its k (acc ++ its), ← e, List.replicate_succ, List.foldl_cons]

section
variable {X : Cx} {pins : List (Addr × Obj)} {σ : St} {H : Hp} {s : Shared} {l b : Addr} {xs ys zs : List V}

/-! ### the two steps: a tracked list is rewritten, a new list is laid -/
theorem Inv.lset {its its' : List Value} {n : Nat} {f : Array Value → Array Value} {t' : Nat} (I : Inv X pins σ H s) (hH : H l = some (.lst xs))
    (e : s.heap.get? l = some { cls := .type "list", data := .seq its.toArray n }) (hf : f its.toArray = its'.toArray) (hv : Vals ys its') (hz : ys.length ≤ sizeLine) :
    Inv X pins σ (upd H l (.lst ys)) { s with heap := s.heap.update l (Obj.mapSeq f), toks := t' } := by
  have q := PySem.IsL.update e f
  rw [hf] at q
  refine I.write (x := l) (e := l) (by rw [hH]; exact trivial) (.inl rfl) (fun b' u hb hu => (Heap.get?_update_other s.heap (Obj.mapSeq f) (Ne.symm hb)).trans hu) ⟨_, q⟩ ?_
  exact ⟨hz, its', _, hv, q⟩
theorem Inv.lnew {its : List Value} {t' : Nat} (I : Inv X pins σ H s) (hv : Vals ys its) (hz : ys.length ≤ sizeLine) :
    Inv X pins σ (upd H s.heap.objs.size (.lst ys)) { s with heap := s.heap.push { cls := .type "list", data := .seq its.toArray }, toks := t' } :=
  I.laid (fun _ _ q => Heap.get?_push_of_some _ q) (Nat.le_refl _) ⟨hz, its, 0, hv, Heap.get?_push_size _ rfl⟩
theorem Inv.fresh (I : Inv X pins σ H s) : H s.heap.objs.size = none := I.hok.fresh (Nat.le_refl _)
theorem Inv.lstM (I : Inv X pins σ H s) (hH : H l = some (.lst xs)) : xs.length ≤ sizeLine ∧ ∃ (its : List Value) (n : Nat), Vals xs its ∧ xs.length = its.length ∧ s.heap.get? l = some { cls := .type "list", data := .seq its.toArray n } := by
  obtain ⟨z, its, n, r, e⟩ := I.hok l _ hH
  exact ⟨z, its, n, r, r.length, e⟩

theorem notLongL {n : Nat} (h : n ≤ sizeLine) : Builtin.List.listTooLong n = false := by
  unfold Builtin.List.listTooLong
  exact decide_eq_false (by omega)
end

section
variable {X : Cx}

/-! ### methods -/
def rAppend : V → List V → Hp → VK → Prop := fun x vs H Q => ∃ l xs y, x = .ref l ∧ vs = [y] ∧ H l = some (.lst xs) ∧ xs.length < sizeLine ∧ Q .non (upd H l (.lst (xs ++ [y])))
theorem mt_append : MtM X "list.append" rAppend := by
  intro pins s σ H x vs v us Q I rx rv h
  obtain ⟨l, xs, y, rfl, rfl, hH, hz, q⟩ := h
  cases rx
  obtain ⟨u, rfl, ru⟩ := rv.one
  obtain ⟨z, its, n, r, hl, e⟩ := I.lstM hH
  refine call_meets F.slot_list_append ⟨_, e, rfl⟩ F.entry_list_append (F.args_list_append_2 _ _) (PySem.list_append l its.toArray n u (by rw [List.size_toArray]; omega)) ⟨e, ?_⟩
  refine ⟨.non, _, I.lset (its' := its ++ [u]) hH e (by simp) (r.append (.cons ru .nil)) ?_, rfl, q⟩
  rw [List.length_append, List.length_singleton]
  omega

def rExtend : V → List V → Hp → VK → Prop := fun x vs H Q => ∃ l b xs zs, x = .ref l ∧ vs = [.ref b] ∧ H l = some (.lst xs) ∧ H b = some (.lst zs) ∧ xs.length + zs.length ≤ sizeLine ∧ Q .non (upd H l (.lst (xs ++ zs)))
theorem mt_extend : MtM X "list.extend" rExtend := by
  intro pins s σ H x vs v us Q I rx rv h
  obtain ⟨l, b, xs, zs, rfl, rfl, hH, hB, hz, q⟩ := h
  cases rx
  obtain ⟨u, rfl, ru⟩ := rv.one
  cases ru
  obtain ⟨z, its, n, r, hl, e⟩ := I.lstM hH
  obtain ⟨z2, its2, n2, r2, hl2, e2⟩ := I.lstM hB
  have hsz : its.toArray.size + its2.toArray.size ≤ sizeLine := by rw [List.size_toArray, List.size_toArray]; omega
  have hlong : ¬ (!its.toArray.isEmpty && Builtin.List.listTooLong (its.toArray.size + its2.toArray.size)) = true := by
    rw [notLongL hsz, Bool.and_false]
    exact Bool.false_ne_true
  refine call_meets F.slot_list_extend ⟨_, e, rfl⟩ F.entry_list_extend (F.args_list_extend_2 _ _)
    (AutoSeq1.list_extend_list_list_0 l its.toArray n b its2.toArray n2 hlong (by rw [List.size_toArray]; omega) (by omega)) ⟨e, e2, ?_⟩
  refine ⟨.non, _, I.lset (its' := its ++ its2) hH e (by simp) (r.append r2) ?_, rfl, q⟩
  rw [List.length_append]
  omega

def rPop : V → List V → Hp → VK → Prop := fun x vs H Q => ∃ l xs y, x = .ref l ∧ vs = [] ∧ H l = some (.lst xs) ∧ xs[xs.length - 1]? = some y ∧ Q y (upd H l (.lst xs.dropLast))
theorem mt_pop : MtM X "list.pop" rPop := by
  intro pins s σ H x vs v us Q I rx rv h
  obtain ⟨l, xs, y, rfl, rfl, hH, hy, q⟩ := h
  cases rx
  have hus := rv.zero
  subst hus
  obtain ⟨z, its, n, r, hl, e⟩ := I.lstM hH
  obtain ⟨u, hu, ru⟩ := r.get hy
  have hy' : its.toArray[its.toArray.size - 1]? = some u := by
    show its.toArray[its.length - 1]? = some u
    rw [← Array.getElem?_toList, ← hl]
    exact hu
  refine call_meets F.slot_list_pop ⟨_, e, rfl⟩ F.entry_list_pop (F.args_list_pop_1 _) (MeetsSeq.list_pop_last l its.toArray n u hy' (by rw [List.size_toArray]; omega)) ⟨e, ?_⟩
  refine ⟨y, _, I.lset (its' := its.dropLast) hH e ?_ r.dropLast ?_, ru, q⟩
  · show its.toArray.eraseIdxIfInBounds (its.toArray.size - 1) = its.dropLast.toArray
    rw [List.size_toArray, List.eraseIdxIfInBounds_toArray, erase_last]
  · rw [List.length_dropLast]
    omega

def rPopAt : V → List V → Hp → VK → Prop := fun x vs H Q => ∃ l xs i k y, x = .ref l ∧ vs = [.int i] ∧ H l = some (.lst xs) ∧ -(2 ^ 63) ≤ i ∧ i < 2 ^ 63 ∧ seqIndex? i xs.length = some k ∧ xs[k]? = some y ∧ Q y (upd H l (.lst (xs.eraseIdx k)))
theorem mt_popAt : MtM X "list.pop" rPopAt := by
  intro pins s σ H x vs v us Q I rx rv h
  obtain ⟨l, xs, i, k, y, rfl, rfl, hH, h1, h2, hk, hy, q⟩ := h
  cases rx
  obtain ⟨u, rfl, ru⟩ := rv.one
  obtain ⟨t, rfl⟩ := ru
  obtain ⟨z, its, n, r, hl, e⟩ := I.lstM hH
  obtain ⟨w, hw, rw'⟩ := r.get hy
  refine call_meets F.slot_list_pop ⟨_, e, rfl⟩ F.entry_list_pop (F.args_list_pop_2 _ _)
    (MeetsSeq.list_pop_at l its.toArray n i t k w (fitsIndex_both h1 h2) (by rw [List.size_toArray, ← hl]; exact hk) (by rw [← Array.getElem?_toList]; exact hw) (by rw [List.size_toArray]; omega)) ⟨e, ?_⟩
  refine ⟨y, _, I.lset (its' := its.eraseIdx k) hH e ?_ (r.eraseIdx k) ?_, rw', q⟩
  · show its.toArray.eraseIdxIfInBounds k = (its.eraseIdx k).toArray
    rw [List.eraseIdxIfInBounds_toArray]
  · have := len_erase xs k
    omega

def rReverse : V → List V → Hp → VK → Prop := fun x vs H Q => ∃ l xs, x = .ref l ∧ vs = [] ∧ H l = some (.lst xs) ∧ Q .non (upd H l (.lst xs.reverse))
theorem mt_reverse : MtM X "list.reverse" rReverse := by
  intro pins s σ H x vs v us Q I rx rv h
  obtain ⟨l, xs, rfl, rfl, hH, q⟩ := h
  cases rx
  have hus := rv.zero
  subst hus
  obtain ⟨z, its, n, r, hl, e⟩ := I.lstM hH
  refine call_meets F.slot_list_reverse ⟨_, e, rfl⟩ F.entry_list_reverse (F.args_list_reverse_1 _) (AutoSeq1.list_reverse_list_0 l its.toArray n (by rw [List.size_toArray]; omega)) ⟨e, ?_⟩
  refine ⟨.non, _, I.lset (its' := its.reverse) hH e (by simp) r.reverse ?_, rfl, q⟩
  rw [List.length_reverse]
  omega

def rClear : V → List V → Hp → VK → Prop := fun x vs H Q => ∃ l xs, x = .ref l ∧ vs = [] ∧ H l = some (.lst xs) ∧ Q .non (upd H l (.lst []))
theorem mt_clear : MtM X "list.clear" rClear := by
  intro pins s σ H x vs v us Q I rx rv h
  obtain ⟨l, xs, rfl, rfl, hH, q⟩ := h
  cases rx
  have hus := rv.zero
  subst hus
  obtain ⟨z, its, n, r, hl, e⟩ := I.lstM hH
  refine call_meets F.slot_list_clear ⟨_, e, rfl⟩ F.entry_list_clear (F.args_list_clear_1 _) (AutoSeq1.list_clear_list_0 l its.toArray n (by rw [List.size_toArray]; omega)) ⟨e, ?_⟩
  exact ⟨.non, _, I.lset (its' := []) (ys := []) hH e rfl .nil (Nat.zero_le _), rfl, q⟩

/-! ### list + list, list += list, list * int -/
def rCat : R2 := fun x y H Q => ∃ l b xs zs, x = .ref l ∧ y = .ref b ∧ H l = some (.lst xs) ∧ H b = some (.lst zs) ∧ xs.length + zs.length ≤ sizeLine ∧ ∀ p, H p = none → Q (.ref p) (upd H p (.lst (xs ++ zs)))
theorem op_cat : OpR X (binaryOp .Add) rCat := by
  intro pins s σ H x y v u Q I rx ry h
  obtain ⟨l, b, xs, zs, rfl, rfl, hH, hB, hz, q⟩ := h
  cases rx
  cases ry
  obtain ⟨z, its, n, r, hl, e⟩ := I.lstM hH
  obtain ⟨z2, its2, n2, r2, hl2, e2⟩ := I.lstM hB
  refine PySem.P.add_list e e2 ?_ (by rw [List.size_toArray, List.size_toArray]; omega)
  have ea : its.toArray ++ its2.toArray = (its ++ its2).toArray := by simp
  rw [ea]
  exact ⟨.ref _, _, I.lnew (t' := s.toks) (r.append r2) (by rw [List.length_append]; omega), rfl, q _ I.fresh⟩
/-- a list times an int (a negative one is nothing) -/
def rRep : R2 := fun x y H Q => ∃ l k xs, x = .ref l ∧ y = .int k ∧ H l = some (.lst xs) ∧ -(2 ^ 63) ≤ k ∧ k < 2 ^ 63 ∧ xs.length * k.toNat ≤ sizeLine ∧
  ∀ p, H p = none → Q (.ref p) (upd H p (.lst (List.replicate k.toNat xs).flatten))
theorem len_rep {α : Type} (xs : List α) (k : Nat) : (List.replicate k xs).flatten.length = k * xs.length := by
  induction k with
  | zero => simp
  | succ k ih => rw [List.replicate_succ, List.flatten_cons, List.length_append, ih, Nat.succ_mul, Nat.add_comm]
theorem op_rep : OpR X (binaryOp .Mult) rRep := by
  intro pins s σ H x y v u Q I rx ry h
  obtain ⟨l, k, xs, rfl, rfl, hH, h1, h2, hz, q⟩ := h
  cases rx
  obtain ⟨t, rfl⟩ := ry
  obtain ⟨z, its, n, r, hl, e⟩ := I.lstM hH
  have hlen : its.toArray.size * k.toNat ≤ sizeLine := by rw [List.size_toArray, ← hl]; exact hz
  have hcap : ¬ its.toArray.size * k.toNat > (2 ^ 63 - 1) / 8 := by
    have : (sizeLine : Nat) ≤ (2 ^ 63 - 1) / 8 := by decide
    omega
  have hfit : ¬ (!Builtin.List.listFitsIndex k) = true := by
    rw [fitsIndex_both h1 h2]
    exact Bool.false_ne_true
  have hlong : ¬ Builtin.List.listTooLong (its.toArray.size * k.toNat) = true := by
    rw [notLongL hlen]
    exact Bool.false_ne_true
  have hnew : List.foldl (fun x1 x2 => x1 ++ x2) #[] (List.replicate (if its.toArray.isEmpty = true then 0 else k.toNat) its.toArray) = (List.replicate k.toNat its).flatten.toArray := by
    have f0 : ∀ m : Nat, List.foldl (fun x1 x2 => x1 ++ x2) #[] (List.replicate m its.toArray) = (List.replicate m its).flatten.toArray := fun m => by
      have := foldl_rep its m []
      rw [List.nil_append] at this
      exact this
    rw [f0]
    cases its with
    | nil => simp
    | cons a r' => rw [if_neg (by simp)]
  refine wpAny_binaryOp_repeat_ref (T := "list") (U := "int") (by decide) ⟨_, e, rfl⟩ (fun s' => typeIs_int s' k t) noFill_list_mul F.fills_int_mul F.slot_int_rmul repeat_list F.slot_int_index.lookup
    (call_meets F.slot_int_rmul (typeIs_int s k t) F.entry_int_rmul (F.args_int_rmul_2 _ _) (int___rmul___int_list k t l its.toArray n)
      ⟨e, rfl, ⟨_, e, rfl⟩, call_meets F.slot_list_mul ⟨_, e, rfl⟩ F.entry_list_mul (F.args_list_mul_2 _ _) (AutoListH.list___mul___list_int_3 l its.toArray n k t hfit hcap hlong) ⟨e, ?_⟩⟩)
  rw [hnew]
  exact ⟨.ref _, _, I.lnew (t' := s.toks) (r.rep k.toNat) (by rw [len_rep, Nat.mul_comm]; exact hz), rfl, q _ I.fresh⟩

/-! ### del xs[i] -/
theorem del_list {pins : List (Addr × Obj)} {s : Shared} {σ : St} {H : Hp} {l : Addr} {xs : List V} {i : Int} {t : Tok} {k : Nat} {Q : Unit → Shared → Prop} (I : Inv X pins σ H s) (hH : H l = some (.lst xs))
    (h1 : -(2 ^ 63) ≤ i) (h2 : i < 2 ^ 63) (hk : seqIndex? i xs.length = some k) (h : ∀ s', Inv X pins σ (upd H l (.lst (xs.eraseIdx k))) s' → Q () s') :
    wpAny (model X.prog X.w) X.A (delItem (.ref l) (.int i t)) Q X.xe s := by
  obtain ⟨z, its, n, r, hl, e⟩ := I.lstM hH
  refine PySem.P.delItem_list (k := k) e (fitsIndex_both h1 h2) (by rw [List.size_toArray, ← hl]; exact hk) (h _ ?_) (by rw [List.size_toArray]; omega)
  refine I.lset (its' := its.eraseIdx k) (t' := s.toks) hH e ?_ (r.eraseIdx k) ?_
  · show its.toArray.eraseIdxIfInBounds k = (its.eraseIdx k).toArray
    rw [List.eraseIdxIfInBounds_toArray]
  · have := len_erase xs k
    omega
end

/-! ### xs[a:b] = ys -/
section
variable {prog : Program} {w : World} {A : Around} {E : Value → Shared → Prop} {s : Shared}
theorem splice_eq (its its2 : List Value) (a c : Nat) : its.toArray.extract 0 a ++ its2.toArray ++ its.toArray.extract c its.toArray.size = (its.take a ++ its2 ++ its.drop c).toArray := by
  apply Array.toList_inj.mp
  first
    | (simp
       exact List.take_of_length_le (by simp))
    | simp [List.take_of_length_le]
    | simp
theorem bounds_run {a c n : Nat} (hac : a ≤ c) (hc : c ≤ n) : sliceBounds (some (a : Int)) (some (c : Int)) none n = ((a : Int), (c : Int), 1) := by
  simp only [sliceBounds, Option.getD_none]
  have h1 : ¬ ((a : Int) < 0) := by omega
  have h2 : ¬ ((c : Int) < 0) := by omega
  simp only [h1, h2, if_false, show (1 : Int) > 0 by decide, if_true]
  congr 1
  · omega
  · congr 1; omega
set_option maxRecDepth 100000 in
/-- list.__setitem__ with a slice of step one and another list -/
theorem setItem_slice {l b sl : Addr} {items new : Array Value} {n n2 : Nat} {vl vu : Value} {a c : Nat} {Q : Unit → Shared → Prop}
    (e : s.heap.get? l = some { cls := .type "list", data := .seq items n }) (e2 : s.heap.get? b = some { cls := .type "list", data := .seq new n2 }) (hne : l ≠ b)
    (hs : s.heap.IsSliceOf sl vl vu .none) (pl : IsPart vl (some (a : Int))) (pu : IsPart vu (some (c : Int))) (hac : a ≤ c) (hc : c ≤ items.size)
    (hsz : items.size + new.size ≤ sizeLine) (h : Q () { s with heap := s.heap.update l (Obj.mapSeq fun xs => xs.extract 0 a ++ new ++ xs.extract c xs.size) }) :
    wpAny (model prog w) A (setItem (.ref l) (.ref sl) (.ref b)) Q E s := by
  have hl : s.heap.IsList l items := PySem.IsL.isList e
  have hb : s.heap.IsList b new := PySem.IsL.isList e2
  obtain ⟨os, hos, hcs, hds⟩ := id hs
  have hTs : s.TypeIs (.ref sl) "slice" := ⟨os, hos, hcs⟩
  have hstep : ¬ ((rawPart none == rawInt 0) = true) := Bool.false_ne_true
  have hsame : Builtin.List.listSameRef (.ref l) (.ref b) = false := by
    unfold Builtin.List.listSameRef
    exact beq_eq_false_iff_ne.mpr hne
  have hmax : (max (a : Int) (c : Int)).toNat = c := by omega
  have hz' : ((fun xs : Array Value => xs.extract 0 a ++ new ++ xs.extract c xs.size) items).size ≤ sizeLine + 1 := by
    simp only [Array.size_append, Array.size_extract]
    omega
  unfold setItem
  try with_reducible refine wpAny_holding ?_
  first | refine wpAny_bind (wpAny_pure ?_) | skip
  refine wpAny_bind (wpAny_sequenceKey hl.typeIs (by decide) ?_)
  refine wpAny_bind (wpAny_callSpecial?_slot (name := Str.ofString "__setitem__") hl.typeIs slot_list_setitem
    (wpAny_call_entry slot_list_setitem hl.typeIs entry_list_setitem ?_ (args_list_setitem _ _ _)))
  show wpAny _ _ (Builtin.List.listSubscript? (.ref sl) >>= _) _ _ s
  refine wpAny_bind ?_
  unfold Builtin.List.listSubscript?
  refine wpAny_bind (wpAny_specialOf hTs slice_no_index ?_)
  simp only [Option.isNone_none, if_true]
  refine wpAny_pure ?_
  show wpAny _ _ (typeOf (.ref sl) >>= _) _ _ s
  refine wpAny_bind (wpAny_typeOf hTs ?_)
  first
    | rw [if_neg (by decide)]
    | refine PySem.W.KFB.if_not (by decide) ?_
  rw [listSliceParts_eq]
  refine wpAny_bind (wpAny_bind (wpAny_field hos hds (x := .none) rfl (wpAny_bind (wpAny_listPart .none ?_))))
  rw [if_neg hstep]
  refine wpAny_bind (wpAny_field hos hds (x := vl) rfl (wpAny_bind (wpAny_listPart pl ?_)))
  refine wpAny_bind (wpAny_field hos hds (x := vu) rfl (wpAny_bind (wpAny_listPart pu (wpAny_pure ?_))))
  first
    | simp only [hsame, Bool.false_eq_true, if_false]
    | refine PySem.W.KFB.if_not hsame ?_
    | (dsimp only
       rw [if_neg (by rw [hsame]; exact Bool.false_ne_true)])
  refine wpAny_bind (m := Builtin.List.listAllItems (.ref b) "must assign iterable to extended slice") ?_
  unfold Builtin.List.listAllItems
  refine wpAny_bind (wpAny_typeOf hb.typeIs ?_)
  first
    | refine PySem.W.KFB.if_so (by decide) ?_
    | rw [if_pos (by decide)]
    | simp only [beq_self_eq_true, Bool.true_or, if_true]
  unfold Builtin.List.listItems
  refine wpAny_bind (wpAny_seqItems e2 rfl (wpAny_pure ?_))
  refine wpAny_bind (wpAny_bind (wpAny_seqItems e rfl (wpAny_pure ?_)))
  refine wpAny_bind (wpAny_of_eq ((sliceIndices_raw (some (a : Int)) (some (c : Int)) none items.size (by simp)).trans (congrArg (pure : Int × Int × Int → Sem (Int × Int × Int)) (bounds_run hac hc))) ?_)
  show wpAny _ _ (if ((1 : Int) == 1) = true then _ else _) _ _ s
  rw [if_pos (by decide)]
  refine wpAny_bind (wpAny_rule ?_)
  first
    | simp only [notLongL hsz, Bool.false_eq_true, if_false]
    | refine PySem.W.KFB.if_not (notLongL hsz) ?_
  first | refine wpAny_bind (wpAny_pure ?_) | skip
  show wpAny _ _ (updateSeq l (fun xs => xs.extract 0 ((a : Int)).toNat ++ new ++ xs.extract (max (a : Int) (c : Int)).toNat xs.size) >>= _) _ _ s
  rw [hmax, Int.toNat_natCast]
  refine wpAny_bind (wpAny_updateSeq (hz := Nat.le_trans (Nat.le_add_right _ _) hsz) (_hz' := hz') e rfl ?_)
  refine wpAny_bind (wpAny_letGo ?_)
  first
    | exact wpAny_bind (wpAny_pure (wpAny_pure ⟨.none, rfl, wpAny_pure h⟩))
    | exact wpAny_pure ⟨.none, rfl, wpAny_pure h⟩
end

section
variable {X : Cx}
/-- xs[a:c] = ys of another list, at the value level: sl is the slice object that was just made -/
theorem set_slice {pins : List (Addr × Obj)} {s : Shared} {σ : St} {H : Hp} {l b sl : Addr} {xs ys : List V} {a c : Int} {vl vu : Value} {Q : Unit → Shared → Prop} (I : Inv X pins σ H s)
    (hH : H l = some (.lst xs)) (hB : H b = some (.lst ys)) (hne : l ≠ b) (hs : s.heap.IsSliceOf sl vl vu .none) (ra : RelV (.int a) vl) (rc : RelV (.int c) vu) (h0 : 0 ≤ a) (hac : a ≤ c) (hc : c ≤ xs.length)
    (hz : xs.length + ys.length ≤ sizeLine) (h : ∀ s', Inv X pins σ (upd H l (.lst (xs.take a.toNat ++ ys ++ xs.drop c.toNat))) s' → Q () s') :
    wpAny (model X.prog X.w) X.A (setItem (.ref l) (.ref sl) (.ref b)) Q X.xe s := by
  obtain ⟨ta, rfl⟩ := ra
  obtain ⟨tc, rfl⟩ := rc
  obtain ⟨z, its, n, r, hl, e⟩ := I.lstM hH
  obtain ⟨z2, its2, n2, r2, hl2, e2⟩ := I.lstM hB
  obtain ⟨a', rfl⟩ := Int.eq_ofNat_of_zero_le h0
  obtain ⟨c', rfl⟩ := Int.eq_ofNat_of_zero_le (Int.le_trans h0 hac)
  simp only [Int.toNat_natCast] at h
  refine setItem_slice (a := a') (c := c') e e2 hne hs (.int _ _) (.int _ _) (by omega) (by rw [List.size_toArray]; omega) (by rw [List.size_toArray, List.size_toArray]; omega) (h _ ?_)
  refine I.lset (its' := its.take a' ++ its2 ++ its.drop c') (t' := s.toks) hH e ?_ (Vals.append (Vals.append (r.take _) r2) (r.drop _)) ?_
  · exact splice_eq its its2 a' c'
  · rw [List.length_append, List.length_append, List.length_take, List.length_drop]
    omega
end
end L2

namespace Att
open PySem PySem.W PySem.Calls PyProof.Rows

/-! ### the script -/
theorem ints_of_wellAll {P : Params} {h : Heap} : ∀ (ns : List Int) (vs : List Value), WellAll P h vs (ns.map WData.int) → IntsAre vs ns := by
  intro ns
  induction ns with
  | nil =>
    intro vs w
    rw [List.map_nil] at w
    cases w
    exact .nil
  | cons n ns ih =>
    intro vs w
    rw [List.map_cons] at w
    cases w with
    | cons a b =>
      cases a
      exact .cons _ _ (ih _ b)

theorem script_of {l : OpenLaw} {n : Nat} (hn : l.most = some n) {P : Params} {h : Heap} {args : List WData} {vals : List Value}
    (hpre : l.row.toRowW.claim.pre args = true) (hwl : WellAll P h vals args) :
    ∃ a vs ns, vals = [Value.ref a] ∧ args = [WData.list (ns.map WData.int)] ∧ h.get? a = some { cls := .type "list", data := .seq vs.toArray } ∧ IntsAre vs ns ∧ ns.length ≤ n := by
  have hsh : WShape.hasAll [] args [.list .int] = true := (pre_splitW hpre).1
  have hc : l.pre.holds [] { args := args } = true := (pre_splitW hpre).2
  obtain ⟨d, r, rfl, h1, h2⟩ := hasAllW_cons hsh
  obtain rfl := hasAllW_nil h2
  obtain ⟨xs, rfl, h3⟩ := hasW_list h1
  obtain ⟨ns, rfl⟩ := items_int h3
  have hlen : ns.length ≤ n := by
    unfold OpenLaw.pre at hc
    have h4 : (WTm.not (.lt (.lit (.int (n : Int))) (.len (.arg 0)))).holds [] { args := [.list (ns.map .int)] } = true := by
      have h4 := (holds_andW hc).1
      rw [hn] at h4
      exact h4
    have h5 := condW_of h4 (w_not (w_lt w_lit (w_len_list (w_arg rfl))))
    rw [List.length_map] at h5
    refine Nat.le_of_not_lt fun q => ?_
    have q' : (n : Int) < ((ns.length : Nat) : Int) := by omega
    first
      | (rw [decide_eq_true q'] at h5; exact absurd h5 (by decide))
      | (simp at h5; omega)
  cases hwl with
  | cons w1 w2 =>
    cases w2
    cases w1 with
    | list ho hall => exact ⟨_, _, ns, rfl, rfl, ho, ints_of_wellAll ns _ hall, hlen⟩

theorem post_true (l : OpenLaw) (args : List WData) : l.row.toRowW.claim.post args (.bool true) args = true :=
  postW_of (r := l.row.toRowW) (X := (true == true))
    (show WShape.has [] (.bool true) .bool = true by first | rfl | decide | simp [WShape.has, WShape.arms, WShape.armsAll])
    (show (WTm.eq .res (.lit (.bool true))).value [] { args := args, res := some (.bool true), after := args } = some (.bool (true == true)) from w_eq_bool (w_res rfl) w_lit) rfl

/-! ### the attachment: holds_open's last premise (the goal 'hc' behind k_head) from a wpAny of the law's body -/
theorem attach {l : OpenLaw} {n : Nat} {q : Program} {loose : List Str} {XP : (Str → Option Value) → Heap → Prop} {YP : World → Heap → Prop} {d : DefRec} {x : Str}
    (hn : l.most = some n) (hdf : d.params.defaults = [])
    (hbind : ∀ pm cd doc v : Value, bindArgs (docDef d.name d.params d.body d.scope pm cd doc) ⟨[v], []⟩ = pure [(x, v)])
    (hx : d.scope.names.lookup x = some .local ∨ d.scope.names.lookup x = some .cell)
    (hk : d.scope.kind = .function) (hco : d.scope.isCoroutine = false) (hgen : d.scope.isGenerator = false)
    (body : ∀ (w : World) (s₀ s₁ s : Shared) (mg mb : Str → Option Value) (fa : Addr) (o : Obj) (pm cd doc : Value) (a : Addr) (vs : List Value) (ns : List Int),
      Ground q loose [] XP w s₀ mg mb s₁.heap → YP w s₁.heap →
      s₁.heap.get? fa = some o → o.data = .func (docDef d.name d.params d.body d.scope pm cd doc) → s₁.heap.CodeRec cd d.name → mg d.name = some (.ref fa) →
      s₁.heap.get? a = some { cls := .type "list", data := .seq vs.toArray } → IntsAre vs ns → ns.length ≤ n →
      s.gens = #[] → s.os = s₁.os →
      Fr s₁.heap s₁.heap.objs.size s.heap (bindL (envOfC d.name d.scope s₁.heap.objs.size fa cd).kindOf [(x, .ref a)] fun _ => none) →
      Cl s₁.heap.objs.size (cellsFrom (s₁.heap.objs.size + 1) d.scope.names []) s.heap (bindC (envOfC d.name d.scope s₁.heap.objs.size fa cd).kindOf [(x, .ref a)] fun _ => none) →
      wpAny (model l.prog w) (callerA.deeper (envOfC d.name d.scope s₁.heap.objs.size fa cd)) (execs d.body (envOfC d.name d.scope s₁.heap.objs.size fa cd))
        (fun f s' => f = .ret (.bool true) ∧ OldK s₁.heap s'.heap ∧ s'.os = s₁.os ∧ AllBare s'.gens) (fun _ _ => False) s) :
    WalkO q loose XP YP l.row.toRowW d [] (fun f vs => PySem.call f vs) := by
  intro w s₀ s₁ mg mb G Y fa o pm cd doc dV kV ho hd hcd hD hmg hg args vals as hpre hlay hrd hwl hlo
  obtain rfl : dV = .none := Dflts.none hD hdf
  obtain rfl : kV = .none := Dflts.noKw hD
  obtain ⟨a, vs, ns, rfl, rfl, hobj, hints, hlen⟩ := script_of hn hpre hwl
  refine enter_call ?_
  refine call_cells_ret (o := o) (by rw [depth_caller]; decide) ho (fd_plain hd) G.T.nolimit hcd (hbind pm cd doc (.ref a)) (fun y hy => ?_) (fun h₁ tk F X => ?_) hco hgen hk
  · obtain rfl : y = (x, Value.ref a) := List.mem_singleton.mp hy
    rcases hx with e | e
    · exact .inl e
    · exact .inr ⟨e, cellsFrom_some _ _ _ (.inl e)⟩
  · refine wpAny_mono (body w s₀ s₁ { s₁ with heap := h₁, toks := tk } mg mb fa o pm cd doc a vs ns G Y ho (fd_plain hd) hcd hmg hobj hints hlen hg rfl F X) (fun f s' hq => ?_) (fun _ _ hq => hq)
    obtain ⟨rfl, h2, h3, h4⟩ := hq
    exact ⟨.inl ⟨.bool true, .bool true, [], rfl, fun _ => rfl, .bool true, post_true l _, fun _ => ⟨List.Pairwise.nil, fun _ hm => (nomatch hm)⟩⟩, h2, h3, h4⟩

/-- the same from a codeAny of the CALL (for a layer whose function contracts speak of calls) -/
theorem attach_call {l : OpenLaw} {n : Nat} {q : Program} {loose : List Str} {XP : (Str → Option Value) → Heap → Prop} {YP : World → Heap → Prop} {d : DefRec}
    (hn : l.most = some n) (hdf : d.params.defaults = [])
    (call : ∀ (w : World) (s₀ s₁ : Shared) (mg mb : Str → Option Value) (fa : Addr) (o : Obj) (pm cd doc : Value) (a : Addr) (vs : List Value) (ns : List Int),
      Ground q loose [] XP w s₀ mg mb s₁.heap → YP w s₁.heap →
      s₁.heap.get? fa = some o → o.data = .func (docDef d.name d.params d.body d.scope pm cd doc) → s₁.heap.CodeRec cd d.name → mg d.name = some (.ref fa) →
      s₁.heap.get? a = some { cls := .type "list", data := .seq vs.toArray } → IntsAre vs ns → ns.length ≤ n → s₁.gens = #[] →
      codeAny (model l.prog w) callerA (.call (.ref fa) ⟨[.ref a], []⟩) (fun r s' => r = .ok (.ret (.bool true)) ∧ OldK s₁.heap s'.heap ∧ s'.os = s₁.os ∧ AllBare s'.gens) s₁) :
    WalkO q loose XP YP l.row.toRowW d [] (fun f vs => PySem.call f vs) := by
  intro w s₀ s₁ mg mb G Y fa o pm cd doc dV kV ho hd hcd hD hmg hg args vals as hpre hlay hrd hwl hlo
  obtain rfl : dV = .none := Dflts.none hD hdf
  obtain rfl : kV = .none := Dflts.noKw hD
  obtain ⟨a, vs, ns, rfl, rfl, hobj, hints, hlen⟩ := script_of hn hpre hwl
  refine enter_call (codeAny_mono (call w s₀ s₁ mg mb fa o pm cd doc a vs ns G Y ho (fd_plain hd) hcd hmg hobj hints hlen hg) fun r s' hq => ?_)
  obtain ⟨rfl, h2, h3, h4⟩ := hq
  exact ⟨.inl ⟨.bool true, .bool true, [], rfl, fun _ => rfl, .bool true, post_true l _, fun _ => ⟨List.Pairwise.nil, fun _ hm => (nomatch hm)⟩⟩, h2, h3, h4⟩

/-- the same where the top left finished generators (o_head chose holds_openN): nothing may have changed at all and no generator may be left -/
theorem attachN {l : OpenLaw} {n : Nat} {q : Program} {loose : List Str} {XP : (Str → Option Value) → Heap → Prop} {YP : World → Heap → Prop} {d : DefRec} {x : Str}
    (hn : l.most = some n) (hdf : d.params.defaults = [])
    (hbind : ∀ pm cd doc v : Value, bindArgs (docDef d.name d.params d.body d.scope pm cd doc) ⟨[v], []⟩ = pure [(x, v)])
    (hx : d.scope.names.lookup x = some .local ∨ d.scope.names.lookup x = some .cell)
    (hk : d.scope.kind = .function) (hco : d.scope.isCoroutine = false) (hgen : d.scope.isGenerator = false)
    (body : ∀ (w : World) (s₀ s₁ s : Shared) (mg mb : Str → Option Value) (fa : Addr) (o : Obj) (pm cd doc : Value) (a : Addr) (vs : List Value) (ns : List Int),
      Ground q loose [] XP w s₀ mg mb s₁.heap → YP w s₁.heap →
      s₁.heap.get? fa = some o → o.data = .func (docDef d.name d.params d.body d.scope pm cd doc) → s₁.heap.CodeRec cd d.name → mg d.name = some (.ref fa) →
      s₁.heap.get? a = some { cls := .type "list", data := .seq vs.toArray } → IntsAre vs ns → ns.length ≤ n →
      s.gens = #[] → s.os = s₁.os →
      Fr s₁.heap s₁.heap.objs.size s.heap (bindL (envOfC d.name d.scope s₁.heap.objs.size fa cd).kindOf [(x, .ref a)] fun _ => none) →
      Cl s₁.heap.objs.size (cellsFrom (s₁.heap.objs.size + 1) d.scope.names []) s.heap (bindC (envOfC d.name d.scope s₁.heap.objs.size fa cd).kindOf [(x, .ref a)] fun _ => none) →
      wpAny (model l.prog w) (callerA.deeper (envOfC d.name d.scope s₁.heap.objs.size fa cd)) (execs d.body (envOfC d.name d.scope s₁.heap.objs.size fa cd))
        (fun f s' => f = .ret (.bool true) ∧ (∀ b o, s₁.heap.get? b = some o → s'.heap.get? b = some o) ∧ s'.os = s₁.os ∧ s'.gens = #[]) (fun _ _ => False) s) :
    WalkN q loose XP YP l.row.toRowW d [] (fun f vs => PySem.call f vs) := by
  intro w s₀ s₁ mg mb G Y fa o pm cd doc dV kV ho hd hcd hD hmg hg args vals as hpre hlay hrd hwl hlo
  obtain rfl : dV = .none := Dflts.none hD hdf
  obtain rfl : kV = .none := Dflts.noKw hD
  obtain ⟨a, vs, ns, rfl, rfl, hobj, hints, hlen⟩ := script_of hn hpre hwl
  refine enter_callW ?_
  refine call_cells_ret (o := o) (by rw [depth_caller]; decide) ho (fd_plain hd) G.T.nolimit hcd (hbind pm cd doc (.ref a)) (fun y hy => ?_) (fun h₁ tk F X => ?_) hco hgen hk
  · obtain rfl : y = (x, Value.ref a) := List.mem_singleton.mp hy
    rcases hx with e | e
    · exact .inl e
    · exact .inr ⟨e, cellsFrom_some _ _ _ (.inl e)⟩
  · refine wpAny_mono (body w s₀ s₁ { s₁ with heap := h₁, toks := tk } mg mb fa o pm cd doc a vs ns G Y ho (fd_plain hd) hcd hmg hobj hints hlen hg rfl F X) (fun f s' hq => ?_) (fun _ _ hq => hq)
    obtain ⟨rfl, h2, h3, h4⟩ := hq
    exact ⟨.inl ⟨.bool true, .bool true, [], rfl, fun _ => rfl, .bool true, post_true l _, fun _ => ⟨List.Pairwise.nil, fun _ hm => (nomatch hm)⟩⟩, h2, h3, h4⟩

/-! ### rules over ANY heap (no ledger) from facts about the written part K: the library's own take a ledger (News) for what they write -/
section
variable {prog : Program} {w : World} {A : Around} {E : Value → Shared → Prop} {s : Shared} {K : Frag}

/-- a def of the module, or a method (qual 'C.m'), entered: the frame is the next address; cells behind it -/
theorem call_fn {R : Result → Shared → Prop} {name qual : Str} {params : Arguments} {body : List Stmt} {scope : Scope} {dV kV doc pm cdv ct oc : Value} {an od : Option Addr} {osl : Array (Option Value)} {f : Addr} {args : Args} {binds : List (Str × Value)}
    (X : K.In s.heap) (hlim : s.heap.NoLimit) (ho : K.lookup f = some ⟨oc, od, .func (fnOf name qual params body scope dV kV doc pm an cdv ct), osl⟩) (hcd : codeIn K cdv qual = true) (hroom : A.depth < recursionLimit)
    (hbind : BindsTo s (fnOf name qual params body scope dV kV doc pm an cdv ct) args binds)
    (hkind : (binds.all fun y => scope.names.lookup y.1 == some .local || scope.names.lookup y.1 == some .cell) = true)
    (h : ∀ s₁, InCallC s s.heap.objs.size (bindL (envOfC qual scope s.heap.objs.size f cdv).kindOf binds fun _ => none) (cellsFrom (s.heap.objs.size + 1) scope.names [])
        (bindC (envOfC qual scope s.heap.objs.size f cdv).kindOf binds fun _ => none) s₁ →
      wpAny (model prog w) (A.deeper (envOfC qual scope s.heap.objs.size f cdv)) (execs body (envOfC qual scope s.heap.objs.size f cdv))
        (fun fl s' => R (.ok (.ret (match fl with | .ret v => v | _ => .none))) s')
        (fun e s' => wpAny (model prog w) (A.deeper (envOfC qual scope s.heap.objs.size f cdv)) (leaving (envOfC qual scope s.heap.objs.size f cdv) e) (fun _ s'' => R (.error e) s'') (fun e' s'' => R (.error e') s'') s') s₁)
    (hco : scope.isCoroutine = false) (hgen : scope.isGenerator = false) (hk : scope.kind = .function) : codeAny (model prog w) A (.call (.ref f) args) R s := by
  refine codeAny_call_function hroom (X _ _ ho) rfl hco hgen rfl (codeRec_of X hcd) (hbind _ _ _ _ ?_)
  refine wpAny_newFunctionEnv_cells hk (kindsX hkind _) fun env he s₁ x => ?_
  subst he
  exact ⟨hlim.keeps x.toInCall.keep, codeAny_func (h s₁ x)⟩

/-- C(..): dict at size, instance at size + 1, then __init__ -/
theorem make_obj {R : Result → Shared → Prop} {C fI : Addr} {rest : List Value} {kw : List (Str × Value)}
    (X : K.In s.heap) (hm : makesIn K C = true) (hi : findIn K (.ref C) "__init__" = some (some (.ref fI))) (hf : isFn K (.ref fI) = true)
    (h : codeAny (model prog w) (A.under (.builtin "type.__call__" ⟨.ref C :: rest, kw⟩)) (.call (.ref fI) ⟨.ref (s.heap.objs.size + 1) :: rest, kw⟩) (InitBack (s.heap.objs.size + 1) R)
      { s with heap := (s.heap.push emptyDict).push (instObj C s.heap.objs.size) }) : codeAny (model prog w) A (.call (.ref C) ⟨rest, kw⟩) R s := by
  obtain ⟨hh, g, d, t, os⟩ := s
  exact make_core (makes_of X hm) (looks_findIn X hi) (fun self => bind_fn X self (beq_iff_eq.mp hf)) (.inl rfl) h

/-- x.name where the instance's dict holds the name and the class does not -/
theorem get_field {x C : Addr} {ox : Obj} {es : List DictEntry} {n : Nat} {name : Str} {expr : Bool} {v : Value} {Q : Value → Shared → Prop}
    (X : K.In s.heap) (I : PySem.W.InstAt s.heap x ox C (some (dictOf es n))) (hg : plainGet K C name = true) (hh : hasDictIn K C = true) (ha : findIn K (.ref C) name = some none)
    (hl : getL name es = some (some v)) (hv : handedIn v = true) (h : Q v { s with toks := s.toks + 1 }) : wpAny (model prog w) A (getAttr (.ref x) name expr) Q E s :=
  get_value X I (plainGet_of hg).1 (findObj_own hh ha rfl hl) hv h

/-- x.m(..): the method found in the class -/
theorem get_method {x C f : Addr} {ox : Obj} {es : List DictEntry} {n : Nat} {name : Str} {pl : Sem Bool} {Q : Value × List Value → Shared → Prop}
    (X : K.In s.heap) (I : PySem.W.InstAt s.heap x ox C (some (dictOf es n))) (hg : plainGet K C name = true) (hf : findIn K (.ref C) name = some (some (.ref f))) (ht : isFn K (.ref f) = true)
    (hl : getL name es = some none) (h : Q (.ref f, [.ref x]) s) : wpAny (model prog w) A (getMethod (.ref x) name pl) Q E s :=
  method_fn X I (plainGet_of hg).1 (plainGet_of hg).2 hf (beq_iff_eq.mp ht) (by show (lookIn name (dictOf es n)).map _ = _; rw [lookIn_dict, hl]; rfl) h

/-! the whole heap as the ledger: makes every rule that writes through a ledger a rule over any heap -/
def noObjs (h : Heap) : Heap := { h with objs := #[] }
theorem noObjs_get (h : Heap) (b : Addr) : (noObjs h).get? b = none := by
  cases e : (noObjs h).get? b with
  | none => rfl
  | some o => exact absurd (Heap.lt_size e) (Nat.not_lt_zero _)
def ledger (h : Heap) (L d : Addr) : List (Addr × Obj) := (List.range h.objs.size).filterMap fun a => if a = L ∨ a = d then none else (h.get? a).map fun o => (a, o)
theorem mem_ledger {h : Heap} {L d a : Addr} {o : Obj} : (a, o) ∈ ledger h L d ↔ a ≠ L ∧ a ≠ d ∧ h.get? a = some o := by
  unfold ledger
  rw [List.mem_filterMap]
  constructor
  · rintro ⟨b, _, e⟩
    split at e
    · cases e
    · rename_i hb
      obtain ⟨o', ho, e'⟩ := Option.map_eq_some_iff.mp e
      cases e'
      exact ⟨fun q => hb (.inl q), fun q => hb (.inr q), ho⟩
  · rintro ⟨n1, n2, ho⟩
    refine ⟨a, List.mem_range.mpr (Heap.lt_size ho), ?_⟩
    rw [if_neg (show ¬ (a = L ∨ a = d) from fun q => q.elim n1 n2), ho] <;> rfl
theorem news_ledger {h : Heap} {L d : Addr} {od : Obj} (hne : d ≠ L) (ho : h.get? d = some od) : News (noObjs h) L h ([] ++ (d, od) :: ledger h L d) := by
  rintro ⟨a, o⟩ hp
  rcases List.mem_cons.mp hp with e | hp
  · cases e
    exact ⟨ho, hne, noObjs_get _ _⟩
  · obtain ⟨n1, n2, e⟩ := mem_ledger.mp hp
    exact ⟨e, n1, noObjs_get _ _⟩
theorem fr_all {h : Heap} {L : Addr} {m : Str → Option Value} (n : h.Ns L m) : Fr (noObjs h) L h m :=
  ⟨n, fun b o e => (by rw [noObjs_get] at e; cases e), Nat.zero_le _⟩
/-- Upd of the head entry (for append_K, setItem_K ..) -/
theorem upd_ledger {h : Heap} {L d : Addr} {o o' : Obj} : Upd d o o' ((d, o) :: ledger h L d) ((d, o') :: ledger h L d) :=
  .head fun ⟨_, _⟩ hp => (mem_ledger.mp hp).2.1

/-- x.name = v over any heap: L is any namespace of the heap (the frame's, say): its map stays, its object is not told; all else but the dict stays -/
theorem set_field {x C dx L : Addr} {ox : Obj} {m : Str → Option Value} {es es' : List DictEntry} {n n' : Nat} {name : Str} {v : Value} {Q : Unit → Shared → Prop}
    (X : K.In s.heap) (I : PySem.W.InstAt s.heap x ox C (some (dictOf es n))) (hd : ox.dict = some dx) (hL : s.heap.Ns L m) (hne : dx ≠ L)
    (hs : findIn K (.ref C) "__setattr__" = some (some (.builtin "object.__setattr__"))) (hp : plainOver K C = true) (ht : takerIn K C name = some none) (hh : hasDictIn K C = true) (hl : (getL name es).isSome = true)
    (e : (putL name (PyData.keyHash w.params name) (.str name (s.toks + 1)) v es, putN name es n) = (es', n')) (hz : es'.length ≤ 1000)
    (h : ∀ h' : Heap, h'.Ns L m → h'.get? dx = some (dictOf es' n') → (∀ b o, b ≠ dx → b ≠ L → s.heap.get? b = some o → h'.get? b = some o) → Q () { s with heap := h', toks := s.toks + 2 }) :
    wpAny (model prog w) A (setAttr (.ref x) name v) Q E s := by
  obtain ⟨e1, e2⟩ := Prod.mk.inj e
  have hdx : s.heap.get? dx = some (dictOf es n) := by
    have := I.dict
    rw [hd] at this
    exact this
  refine set_plain X I hs (osa_dict (s := { s with toks := s.toks + 1 }) (h₀ := noObjs s.heap) (L := L) (m := m) (od := dictOf es n) (od' := dictOf es' n') (es := es') (n := n') (pre := []) (post := ledger s.heap L dx)
    (fr_all hL) (news_ledger hne hdx) X I hd hp ht hh hl (fun _ q => nomatch q) (fun ⟨_, _⟩ q => (mem_ledger.mp q).2.1) (by rw [putName_dict, e1, e2]) rfl hz fun h' F' N' => ?_)
  exact h h' F'.ns (N'.get (List.Mem.head _)) fun b o n1 n2 ho => N'.get (List.Mem.tail _ (mem_ledger.mpr ⟨n2, n1, ho⟩))
end
end Att

namespace L2
open PySem PySem.Spec PyProof.Rows

theorem vals_ints : ∀ {vs : List Value} {ns : List Int}, IntsAre vs ns → Vals (ns.map V.int) vs
  | _, _, .nil => .nil
  | _, _, .cons n t h => .cons ⟨t, rfl⟩ (vals_ints h)

/-- nothing is tracked but the script, known to the object (or it is an object of the module) -/
def Only (H : Hp) : Prop := ∀ b, H b = none ∨ ∃ o xs, H b = some (.frz o (.lst xs))

/-- THE HEAD: the law's promise, at the heap behind the top. F, the promise of the law's def, may use that base is part of the heap (so K.In base, base.Ns mainGlobals mg stand in Mod) -/
theorem law_call {P : Program} {w : World} {K : PySem.W.Frag} {mg mb : Str → Option Value} {CX : CXT} {k : Nat} {fa a : Addr} {fd : FuncData} {x : Str} {sp : Sp} {s₁ : Shared} {vs : List Value} {ns : List Int}
    (KX : K.In s₁.heap) (hns : s₁.heap.Ns mainGlobals mg) (hb : s₁.heap.Ns builtinsNs mb) (hbb : ∀ x : Str, x ≠ "__name__" → mb x = bootBuiltins x) (hlim : s₁.heap.NoLimit) (hg : s₁.gens = #[])
    (ha : s₁.heap.get? a = some { cls := .type "list", data := .seq vs.toArray }) (hi : IntsAre vs ns) (hl : ns.length ≤ sizeLine) (hr : Room k callerA)
    (F : ∀ base : Heap, K.In base → base.Ns mainGlobals mg → FnOk P w K mg base CX k fa fd [x] sp) (hbind : ∀ (s : Shared) (u : Value), BindsTo s fd ⟨[u], []⟩ [(x, u)])
    (hsp : ∀ H : Hp, Only H → SqL K H a (ns.map V.int) → sp [.ref a] H (fun v _ => v = .bl true) fun _ _ _ => False)
    (hCX : ∀ H e s', CX [] H s₁ (fun _ _ _ => False) e s' → False) :
    codeAny (model P w) callerA (.call (.ref fa) ⟨[.ref a], []⟩) (fun r s' => r = .ok (.ret (.bool true)) ∧ OldK s₁.heap s'.heap ∧ s'.os = s₁.os ∧ AllBare s'.gens) s₁ := by
  have rv := vals_ints hi
  have lenV := hi.length
  -- from an abstract heap in which nothing but the script may be tracked
  have core : ∀ H : Hp, Only H → SqL K H a (ns.map V.int) → HOk P w H s₁.heap → (∀ b, H b ≠ none → b = a) → (H a ≠ none → K.lookup a = none) →
      codeAny (model P w) callerA (.call (.ref fa) ⟨[.ref a], []⟩) (fun r s' => r = .ok (.ret (.bool true)) ∧ OldK s₁.heap s'.heap ∧ s'.os = s₁.os ∧ AllBare s'.gens) s₁ := by
    intro H hO hS hok hA hK
    have base_of : ∀ {b : Addr} {o : Obj}, s₁.heap.get? b = some o → H b = none → (hidT s₁.heap H).get? b = some o := fun e n => hidT_get e n
    have noA : ∀ {b : Addr} {o : Obj} {es : Array DictEntry} {ep : Nat}, s₁.heap.get? b = some o → o.data = .dict es ep → H b = none := fun {b o es ep} e d => by
      cases q : H b with
      | none => rfl
      | some u =>
        have e' : b = a := hA b (by rw [q]; simp)
        subst e'
        rw [ha] at e; cases e
        have d' : Data.seq vs.toArray _ = Data.dict es ep := d
        cases d'
    have nsK : ∀ {b : Addr} {m : Str → Option Value}, s₁.heap.Ns b m → (hidT s₁.heap H).Ns b m := fun {b m} ⟨o, es, ep, e, d, r⟩ => ⟨o, es, ep, base_of e (noA e d), d, r⟩
    have hKb : K.In (hidT s₁.heap H) := fun b o e => base_of (KX b o e) (by
      cases q : H b with
      | none => rfl
      | some u =>
        have e' : b = a := hA b (by rw [q]; simp)
        subst e'
        rw [hK (by rw [q]; simp)] at e; cases e)
    have hM : Mod K mg (hidT s₁.heap H) := ⟨hKb, nsK hns, ⟨mb, nsK hb, hbb⟩, let ⟨mc, h1, h2⟩ := hlim; ⟨mc, nsK h1, h2⟩⟩
    have e0 : Env0 P w K mg (hidT s₁.heap H) callerA [] s₁ H := ⟨rfl, hM, fun b o e => of_hidT e, Nat.le_of_eq (hidT_size _ _), trivial, fun b hb => absurd (show b ∈ ([] : List Addr) from hb) (by simp), hok, .of_eq hg⟩
    refine codeAny_mono ((F _ hKb (nsK hns)).run callerA [] s₁ H ⟨[.ref a], []⟩ [.ref a] [.ref a] _ _ hr e0 (hbind s₁ (.ref a)) (.cons rfl .nil) (hsp H hO hS)) fun r s' h => ?_
    cases r with
    | error e => exact (hCX H e s' h).elim
    | ok fl =>
      cases fl with
      | next => exact False.elim h
      | brk => exact False.elim h
      | cont => exact False.elim h
      | ret u =>
        obtain ⟨v, H', os, bare, un, hok', r', q⟩ := h
        have q' : v = .bl true := q
        subst q'
        obtain rfl : u = Value.bool true := r'
        refine ⟨rfl, OldK.of_keep fun b o e => ?_, os, bare⟩
        cases q : H b with
        | none => exact un.keep b o e q (by intro z; exact absurd (show b ∈ ([] : List Addr) from z) (by simp)) (by simp)
        | some u =>
          rcases hO b with z | ⟨ob, xs, z⟩
          · rw [q] at z; cases z
          · have z2 := un.frzs b ob _ z
            obtain ⟨e1, _⟩ := hok b _ z
            obtain ⟨e2, _⟩ := hok' b _ z2
            rw [e] at e1; cases e1
            exact e2
  cases hk : K.lookup a with
  | some o =>
    -- the script is one of the module's own objects
    have e := KX a o hk
    rw [ha] at e
    cases e
    refine core (fun _ => none) (fun _ => .inl rfl) (.inr ⟨_, vs.toArray, _, hk, rfl, rfl, rfl, by rw [List.size_toArray, lenV]; exact hl, by simpa using rv⟩) (fun b u z => by have z' : (none : Option HO) = some u := z; cases z') (fun b z => absurd rfl z) fun z => absurd rfl z
  | none =>
    refine core (fun b => if b = a then some (.frz { cls := .type "list", data := .seq vs.toArray } (.lst (ns.map V.int))) else none) (fun b => ?_) (.inl (.inr ⟨{ cls := .type "list", data := .seq vs.toArray }, if_pos rfl⟩)) (fun b u z => ?_) (fun b z => ?_) fun _ => hk
    · by_cases hb : b = a
      · exact .inr ⟨_, _, if_pos hb⟩
      · exact .inl (if_neg hb)
    · by_cases hb : b = a
      · have z' := (if_pos hb).symm.trans z
        cases z'
        subst hb
        exact ⟨ha, by rw [List.length_map]; exact hl, vs, _, rv, ha⟩
      · have z' := (if_neg hb).symm.trans z
        cases z'
    · by_cases hb : b = a
      · exact hb
      · exact absurd (if_neg hb) z
end L2

namespace L2
open PySem PySem.Spec PyProof.Rows

abbrev KOf {K : PySem.W.Frag} {h : Heap} (_ : K.In h) : PySem.W.Frag := K

/-- the goal that k_head leaves (case hc), from the law's promise. F gives the function object fd (K's own) once, then the promise over every base -/
theorem walk_of {l : PySem.W.OpenLaw} {n k : Nat} {q : Program} {loose : List Str} {XP : (Str → Option Value) → Heap → Prop} {YP : World → Heap → Prop} {d : DefRec} {K : Params → PySem.W.Frag} {CX : World → CXT} {sp : World → Sp} {x : Str}
    (hn : l.most = some n) (hn2 : n ≤ sizeLine) (hdf : d.params.defaults = []) (hr : Room k callerA)
    (hY : ∀ (w : World) (h : Heap), YP w h → (K w.params).In h)
    (F : ∀ (w : World) (mg : Str → Option Value) (fa : Addr) (h : Heap), (K w.params).In h → h.Ns mainGlobals mg → mg d.name = some (.ref fa) →
      ∃ fd : FuncData, (∀ (s : Shared) (u : Value), BindsTo s fd ⟨[u], []⟩ [(x, u)]) ∧
        ∀ base : Heap, (K w.params).In base → base.Ns mainGlobals mg → FnOk l.prog w (K w.params) mg base (CX w) k fa fd [x] (sp w))
    (hsp : ∀ (w : World) (H : Hp) (a : Addr) (ns : List Int), ns.length ≤ n → Only H → SqL (K w.params) H a (ns.map V.int) → sp w [.ref a] H (fun v _ => v = .bl true) fun _ _ _ => False)
    (hCX : ∀ (w : World) (H : Hp) (s : Shared) (e : Value) (s' : Shared), CX w [] H s (fun _ _ _ => False) e s' → False) :
    PySem.W.WalkO q loose XP YP l.row.toRowW d [] (fun f vs => PySem.call f vs) := by
  refine Att.attach_call hn hdf fun w s₀ s₁ mg mb fa o pm cd doc a vs ns G Y ho hd hcd hmg hobj hints hlen hg => ?_
  have KX := hY w _ Y
  obtain ⟨fd, hb, hF⟩ := F w mg fa _ KX G.T.g hmg
  exact law_call KX G.T.g G.T.b G.T.builtins G.T.nolimit hg hobj hints (Nat.le_trans hlen hn2) hr hF hb (fun H hO hS => hsp w H a ns hlen hO hS) fun H e s' => hCX w H s₁ e s'
/-- the same where the promise hangs on the written part alone: (sp := My.sp_law), no hole under a binder -/
theorem walk_ofK {l : PySem.W.OpenLaw} {n k : Nat} {q : Program} {loose : List Str} {XP : (Str → Option Value) → Heap → Prop} {YP : World → Heap → Prop} {d : DefRec} {K : Params → PySem.W.Frag} {CX : CXT} {sp : PySem.W.Frag → Sp} {x : Str}
    (hn : l.most = some n) (hn2 : n ≤ sizeLine) (hdf : d.params.defaults = []) (hr : Room k callerA)
    (hY : ∀ (w : World) (h : Heap), YP w h → (K w.params).In h)
    (F : ∀ (w : World) (mg : Str → Option Value) (fa : Addr) (h : Heap), (K w.params).In h → h.Ns mainGlobals mg → mg d.name = some (.ref fa) →
      ∃ fd : FuncData, (∀ (s : Shared) (u : Value), BindsTo s fd ⟨[u], []⟩ [(x, u)]) ∧
        ∀ base : Heap, (K w.params).In base → base.Ns mainGlobals mg → FnOk l.prog w (K w.params) mg base CX k fa fd [x] (sp (K w.params)))
    (hsp : ∀ (K : PySem.W.Frag) (H : Hp) (a : Addr) (ns : List Int), ns.length ≤ n → Only H → SqL K H a (ns.map V.int) → sp K [.ref a] H (fun v _ => v = .bl true) fun _ _ _ => False)
    (hCX : ∀ (H : Hp) (s : Shared) (e : Value) (s' : Shared), CX [] H s (fun _ _ _ => False) e s' → False) :
    PySem.W.WalkO q loose XP YP l.row.toRowW d [] (fun f vs => PySem.call f vs) :=
  walk_of (K := K) (CX := fun _ => CX) (sp := fun w => sp (K w.params)) hn hn2 hdf hr hY F (fun w H a ns h1 h2 h3 => hsp (K w.params) H a ns h1 h2 h3) fun _ H s e s' => hCX H s e s'
end L2

/- THE LAST THEOREM (shape; LID, My.* are yours):
   My.Adr: a structure of the addresses that your layer names (classes, functions); My.Txt K t: a structure (Prop) of the equations over K;
   My.txt_mk : {K} {implicit addresses ..} (e1 : nsIn K mainGlobals "law" = some (some (.ref f))) (e2 : K.lookup f = some ⟨oc, od, .func (fnOf "law" "law" params body scope dV kV doc pm an cdv ct), sl⟩) (e3 : codeIn K cdv "law" = true) .. : ∃ t, My.Txt K t

set_option maxRecDepth 100000 in
set_option maxHeartbeats 0 in
theorem PySem.Challenge.cw_LID_holds : PySem.Challenge.rw_LID.Holds := by
  w_on; o_law; k_head; (case hw => w_witness2)
  k_fill
  refine L2.walk_of (l := PySem.Challenge.rw_LID) (n := 63) (k := 40) (x := "script") (CX := fun w => ..) (sp := fun _ => My.sp_law) rfl (by decide) rfl ⟨rfl, by decide, by decide⟩ (fun w h Y => PySem.W.kIn_of Y) ?F ?S ?C
  case F =>
    intro w mg fa h KX G hmg
    have T : ∃ t, My.Txt (L2.KOf KX) t := by
      dsimp only [L2.KOf]                          -- K must stand as «<heap const> w.params» for k_is
      refine' My.txt_mk ?e1 ?e2 ?e3 ..
      (case e1 => PySem.W.k_is)                    -- in the order: a name -> its address -> its object -> its parts
      (case e2 => PySem.W.k_is)
      ..
    obtain ⟨t, T⟩ := T
    have e0 := hmg.symm.trans (PySem.W.mg_of KX G T.law)
    cases e0                                       -- fa is the law's own address
    exact ⟨_, fun s u => .of_eq rfl, fun base kb nb => My.law_fn T kb nb⟩     -- if «.of_eq rfl» comes too early: refine' ⟨_, ?b, fun base kb nb => My.law_fn T kb nb⟩; exact fun s u => .of_eq rfl
  case S => exact fun w H a ns hl hO hS => ..
  case C => exact ..
(the tactic k_is has no namespace: write k_is) -/

/-! SHORT WORDS over the layer: a def of the text, its body, what a loop and a test want. -/
namespace L2
open PySem PySem.Spec PyProof.Rows

/-! ### the text by places -/
/-- the j-th statement of a class's body -/
def inClass (s : Stmt) (j : Nat) : Stmt := match s with
  | .ClassDef _ _ _ body _ _ _ _ _ _ _ => body.getD j (.Pass ⟨0, 0, 0, 0⟩)
  | _ => .Pass ⟨0, 0, 0, 0⟩
def defArgs (s : Stmt) : Arguments := match s with
  | .FunctionDef _ a _ _ _ _ _ _ _ _ => a
  | _ => { posonlyargs := [], args := [], vararg := none, kwonlyargs := [], kw_defaults := [], kwarg := none, defaults := [] }
def defBody (s : Stmt) : List Stmt := match s with
  | .FunctionDef _ _ b _ _ _ _ _ _ _ => b
  | _ => []
def defScope (s : Stmt) : Scope := match s with
  | .FunctionDef _ _ _ _ _ _ sc _ _ _ => sc
  | _ => { kind := .function, names := [], isGenerator := false, isCoroutine := false }

/-! ### no exception leaves a def -/
abbrev CX0 : CXT := fun _ _ _ _ _ _ => False
abbrev E0 : XK := fun _ _ _ => False
theorem pass0 {X : Cx} : Passes CX0 X E0 := fun _ _ _ _ _ _ _ h => h.elim

/-! ### a def (or method) of the text as it stands behind the top -/
structure Fun (K : PySem.W.Frag) (x qual : Str) (st : Stmt) (f : Addr) (fd : FuncData) : Prop where
  ex : ∃ (oc : Value) (od : Option Addr) (kV doc pm : Value) (an : Option Addr) (cdv ct : Value) (osl : Array (Option Value)),
    fd = PySem.W.fnOf x qual (defArgs st) (defBody st) (defScope st) .none kV doc pm an cdv ct ∧ K.lookup f = some ⟨oc, od, .func fd, osl⟩ ∧ PySem.W.codeIn K cdv qual = true
  kp : PySem.W.keepIn K (.ref f) = true
section
variable {P : Program} {w : World} {K : PySem.W.Frag} {mg : Str → Option Value} {base : Heap}
/-- THE RULE for a def: its body as a term of rules, and the reading of that term -/
theorem Fun.ok {x qual : Str} {st : Stmt} {f : Addr} {fd : FuncData} {N ps : List Str} {k : Nat} {sp : Sp} (F : Fun K x qual st f fd) (S : FnScope N ps (defScope st)) (len : ∀ vs H Q E, sp vs H Q E → vs.length = ps.length)
    (hbody : ∀ (cdv : Value) (A : Around) (outer : List Env) (s : Shared) (H : Hp) (vs : List V) (Q : VK) (E : XK), Room k (A.deeper (envOfC qual (defScope st) s.heap.objs.size f cdv)) → sp vs H Q E →
      ∃ t, PSs (cxOf CX0 P w K mg base N qual (defScope st) f cdv A outer s H E).nox (defBody st) t ∧ t { nx := fun _ H' => Q .non H', rt := Q } (start N vs) H) : FnOk P w K mg base CX0 (k + 1) f fd ps sp := by
  obtain ⟨oc, od, kV, doc, pm, an, cdv, ct, osl, rfl, lk, hcd⟩ := F.ex
  refine fn_of lk hcd S len fun A outer s H vs Q E hr hsp => ?_
  obtain ⟨t, h, q⟩ := hbody cdv A outer s H vs Q E hr hsp
  exact ⟨t, h.nox, q⟩
/-- how its arguments bind (no defaults): h is «fun _ _ _ _ _ _ us hl => match us, hl with | [_, _], _ => rfl», one _ a parameter -/
theorem Fun.binds {x qual : Str} {st : Stmt} {f : Addr} {fd : FuncData} {ps : List Str} (F : Fun K x qual st f fd)
    (h : ∀ (kV doc pm : Value) (an : Option Addr) (cdv ct : Value) (us : List Value), us.length = ps.length → bindArgs (PySem.W.fnOf x qual (defArgs st) (defBody st) (defScope st) .none kV doc pm an cdv ct) ⟨us, []⟩ = pure (ps.zip us)) : Binds K fd ps [] := by
  obtain ⟨oc, od, kV, doc, pm, an, cdv, ct, osl, rfl, lk, hcd⟩ := F.ex
  exact .all (h kV doc pm an cdv ct)
theorem fun_mk {x qual : Str} {st : Stmt} {f : Addr} {oc : Value} {od an : Option Addr} {osl : Array (Option Value)} {kV doc pm cdv ct : Value} (l : K.lookup f = some ⟨oc, od, .func (PySem.W.fnOf x qual (defArgs st) (defBody st) (defScope st) .none kV doc pm an cdv ct), osl⟩)
    (c : PySem.W.codeIn K cdv qual = true) (k : PySem.W.keepIn K (.ref f) = true) : Fun K x qual st f (PySem.W.fnOf x qual (defArgs st) (defBody st) (defScope st) .none kV doc pm an cdv ct) := ⟨⟨oc, od, kV, doc, pm, an, cdv, ct, osl, rfl, l, c⟩, k⟩
end
theorem hu_of {A : Around} {k : Nat} (hr : Room k A) : A.units + 1 < cLine := Nat.lt_of_le_of_lt (Nat.add_le_add_left (by decide : 1 ≤ 64) _) hr.units
theorem small1000 {n : Nat} (h : n ≤ 1000) : n < sizeLine := Nat.lt_of_le_of_lt h (by decide)

/-! ### expressions in short: the name that stands in the i-th slot -/
section
variable {X : Cx}
theorem pv (i : Nat) {x : Str} {pos : Pos} (hN : X.N[i]? = some x := by rfl) (hv : Vis X.env.scope x := by first | exact Or.inl rfl | exact Or.inr (Or.inl rfl) | exact Or.inr (Or.inr rfl)) (hd : (x == ("__debug__" : Str)) = false := by decide)
    (hcd : (x == ("__classdict__" : Str)) = false := by decide) : PE X (.Name x pos) (tVar i) := pe_var hN hv hd hcd
end

/-! ### tests -/
theorem iteF {A B : Prop} (h : B) : if false = true then A else B := by
  rw [if_neg Bool.false_ne_true]
  exact h
theorem iteT {A B : Prop} (h : A) : if true = true then A else B := by
  rw [if_pos rfl]
  exact h
theorem ite2 {c A B : Prop} [Decidable c] (h1 : c → A) (h2 : ¬ c → B) : if c then A else B := by
  by_cases h : c
  · rw [if_pos h]
    exact h1 h
  · rw [if_neg h]
    exact h2 h
theorem iteNS {c A B : Prop} [Decidable c] (hc : c) (h : B) : if (!decide c) = true then A else B := by
  rw [decide_eq_true hc]
  exact iteF h

/-! ### heaps -/
/-- all that was tracked is as it was -/
def Same (H H' : Hp) : Prop := ∀ b o, H b = some o → H' b = some o
theorem Same.refl (H : Hp) : Same H H := fun _ _ h => h
theorem Same.trans {H H1 H2 : Hp} (a : Same H H1) (b : Same H1 H2) : Same H H2 := fun c o h => b c o (a c o h)
theorem Same.free {H H' : Hp} (e : Same H H') {l : Addr} (h : H' l = Option.none) : H l = Option.none := by
  cases q : H l with
  | none => rfl
  | some o =>
    rw [e l o q] at h
    cases h
theorem Same.seq {K : PySem.W.Frag} {H H' : Hp} {a : Addr} {xs : List V} (e : Same H H') (h : SqL K H a xs) : SqL K H' a xs := by
  rcases h with (h | ⟨o, h⟩) | h
  · exact .inl (.inl (e _ _ h))
  · exact .inl (.inr ⟨o, e _ _ h⟩)
  · exact .inr h

end L2

namespace L2
open PySem Builtin Builtin.Str
/-! ### texts by their codes -/
abbrev tx (cs : List Nat) : Str := ⟨cs.toArray⟩
theorem tx_inj {a b : List Nat} : tx a = tx b ↔ a = b := by
  constructor
  · intro h
    have h2 : a.toArray = b.toArray := congrArg Str.cps h
    simpa using h2
  · rintro rfl; rfl
theorem tx_codes (x : Str) : tx x.cps.toList = x := by
  obtain ⟨a⟩ := x
  show Str.mk a.toList.toArray = Str.mk a
  simp
theorem tx_cps (cs : List Nat) : (tx cs).cps.toList = cs := by simp [tx]
theorem tx_len (cs : List Nat) : (tx cs).length = cs.length := by simp [tx, Str.length]
theorem tx_app (a b : List Nat) : tx a ++ tx b = tx (a ++ b) := by
  show Str.mk (a.toArray ++ b.toArray) = Str.mk (a ++ b).toArray
  simp
def sIx' (n d : Nat) : Option Int → Nat
  | none => d
  | some v => if v < 0 then (v + (n : Int)).toNat else min v.toNat n
def cutL {α : Type} (xs : List α) (lo hi : Option Int) : List α := (xs.drop (sIx' xs.length 0 lo)).take (sIx' xs.length xs.length hi - sIx' xs.length 0 lo)
theorem idx_eq (lo hi : Option Int) (n : Nat) : strSliceIndices lo hi 1 n = (List.range (sIx' n n hi - sIx' n 0 lo)).map fun k => sIx' n 0 lo + k := by
  have clip : ∀ v : Int, max 0 (min (if v < 0 then v + (n : Int) else v) (n : Int)) = (((if v < 0 then (v + (n : Int)).toNat else min v.toNat n) : Nat) : Int) := by
    intro v
    by_cases h : v < 0
    · rw [if_pos h, if_pos h]; omega
    · rw [if_neg h, if_neg h]; omega
  have key : ∀ (a b : Nat), sliceRange (a : Int) (b : Int) 1 = (List.range (b - a)).map fun k => a + k := by
    intro a b
    unfold sliceRange
    simp only [show (1 : Int) > 0 by decide, if_true]
    have e : (if (a : Int) < (b : Int) then ((b : Int) - (a : Int) + 1 - 1) / 1 else 0).toNat = b - a := by
      split
      · rw [Int.ediv_one]; omega
      · omega
    rw [e]
    refine List.map_congr_left fun k _ => ?_
    omega
  unfold strSliceIndices
  simp only [show (1 : Int) > 0 by decide, if_true]
  cases lo with
  | none =>
    cases hi with
    | none => exact key 0 n
    | some v =>
      have := key 0 (sIx' n n (some v))
      refine Eq.trans ?_ this
      show sliceRange 0 (max 0 (min (if v < 0 then v + (n : Int) else v) (n : Int))) 1 = _
      rw [clip v]
      rfl
  | some u =>
    cases hi with
    | none =>
      have := key (sIx' n 0 (some u)) n
      refine Eq.trans ?_ this
      show sliceRange (max 0 (min (if u < 0 then u + (n : Int) else u) (n : Int))) n 1 = _
      rw [clip u]
      rfl
    | some v =>
      have := key (sIx' n 0 (some u)) (sIx' n n (some v))
      refine Eq.trans ?_ this
      show sliceRange (max 0 (min (if u < 0 then u + (n : Int) else u) (n : Int))) (max 0 (min (if v < 0 then v + (n : Int) else v) (n : Int))) 1 = _
      rw [clip u, clip v]
      rfl
theorem pick_cut {α : Type} (xs : List α) (l : Nat) : ∀ k, l + k ≤ xs.length → ((List.range k).map fun j => l + j).filterMap (fun j => xs[j]?) = (xs.drop l).take k
  | 0, _ => by simp
  | k + 1, h => by
    rw [List.range_succ, List.map_append, List.filterMap_append, pick_cut xs l k (by omega)]
    have hx : xs[l + k]? = some (xs[l + k]'(by omega)) := List.getElem?_eq_getElem (by omega)
    rw [List.take_add_one, List.getElem?_drop, hx]
    simp [hx]
theorem sIx_bound (n : Nat) (o : Option Int) : sIx' n n o ≤ n := by
  cases o with
  | none => exact Nat.le_refl _
  | some v =>
    show (if v < 0 then (v + (n : Int)).toNat else min v.toNat n) ≤ n
    split <;> omega
theorem slice_tx (cs : List Nat) (lo hi : Option Int) : Txt.slice (tx cs) lo hi = tx (cutL cs lo hi) := by
  have hn : (tx cs).length = cs.length := tx_len cs
  have hb := sIx_bound cs.length hi
  have hp : ((strSliceIndices lo hi 1 cs.length).filterMap fun j => cs[j]?) = cutL cs lo hi := by
    rw [idx_eq]
    unfold cutL
    by_cases h : sIx' cs.length 0 lo ≤ sIx' cs.length cs.length hi
    · exact pick_cut cs _ _ (by omega)
    · have e : sIx' cs.length cs.length hi - sIx' cs.length 0 lo = 0 := by omega
      rw [e]
      simp
  unfold Txt.slice
  rw [hn]
  by_cases hc : ((1 : Int) == 1 && (strSliceIndices lo hi 1 cs.length).length == cs.length) = true
  · rw [if_pos hc]
    have hl : (strSliceIndices lo hi 1 cs.length).length = cs.length := by simpa using hc
    rw [idx_eq, List.length_map, List.length_range] at hl
    have e0 : sIx' cs.length 0 lo = 0 ∨ cs.length = 0 := by omega
    rw [tx_inj]
    unfold cutL
    rw [hl]
    rcases e0 with e0 | e0
    · rw [e0]; simp
    · have : cs = [] := List.eq_nil_of_length_eq_zero e0
      subst this
      simp
  · rw [if_neg hc]
    have : ((strSliceIndices lo hi 1 cs.length).filterMap fun j => (tx cs).cps[j]?) = cutL cs lo hi := by
      rw [← hp]
      simp [tx]
    rw [this]
theorem cut_from {α : Type} (xs : List α) (k : Nat) : cutL xs (some (k : Int)) none = xs.drop k := by
  unfold cutL sIx'
  simp only [show ¬ ((k : Int) < 0) by omega, if_false, Int.toNat_natCast]
  by_cases h : k ≤ xs.length
  · rw [Nat.min_eq_left h, List.take_of_length_le (by simp)]
  · rw [Nat.min_eq_right (by omega), List.drop_eq_nil_of_le (Nat.le_refl _), List.drop_eq_nil_of_le (by omega)]
    simp
theorem cut_to {α : Type} (xs : List α) (k : Nat) : cutL xs none (some (k : Int)) = xs.take k := by
  unfold cutL sIx'
  simp only [show ¬ ((k : Int) < 0) by omega, if_false, Int.toNat_natCast, List.drop_zero, Nat.sub_zero]
  by_cases h : k ≤ xs.length
  · rw [Nat.min_eq_left h]
  · rw [Nat.min_eq_right (by omega), List.take_of_length_le (Nat.le_refl _), List.take_of_length_le (by omega)]
theorem subAt_tx (a b : List Nat) (i : Nat) : subAt (tx a) (tx b) i = ((a.drop i).take b.length == b) := by
  rw [StrLaws.subAt_eq, tx_cps, tx_cps, tx_len]
theorem take_prefix {a b : List Nat} : (a.take b.length == b) = b.isPrefixOf a := by
  rw [Bool.eq_iff_iff, beq_iff_eq, List.isPrefixOf_iff_prefix]
  constructor
  · intro h; rw [← h]; exact List.take_prefix _ _
  · rintro ⟨c, rfl⟩; simp
theorem starts_tx (a b : List Nat) : Txt.startswith (tx a) (tx b) = b.isPrefixOf a := by
  unfold Txt.startswith
  rw [subAt_tx, tx_len, tx_len, List.drop_zero, take_prefix, Nat.zero_add]
  cases h : b.isPrefixOf a with
  | false => simp
  | true =>
    have := (List.isPrefixOf_iff_prefix.mp h).length_le
    simp [this]
theorem ends_tx (a b : List Nat) : Txt.endswith (tx a) (tx b) = b.isSuffixOf a := by
  unfold Txt.endswith
  rw [subAt_tx, tx_len, tx_len, Nat.zero_add]
  rw [Bool.eq_iff_iff, Bool.and_eq_true, decide_eq_true_eq, beq_iff_eq, List.isSuffixOf_iff_suffix]
  constructor
  · rintro ⟨h1, h2⟩
    have h3 : (a.drop (a.length - b.length)).length = b.length := by rw [List.length_drop]; omega
    rw [List.take_of_length_le (by omega)] at h2
    rw [← h2]
    exact List.drop_suffix _ _
  · rintro ⟨c, rfl⟩
    refine ⟨by simp, ?_⟩
    rw [List.length_append, Nat.add_sub_cancel, List.drop_left, List.take_of_length_le (Nat.le_refl _)]
end L2

namespace L2
open PySem Builtin Builtin.Str
/-- a number's figures -/
def figs (n : Nat) : List Nat := (Nat.toDigits 10 n).map Char.toNat
def figB (c : Nat) : Bool := decide (48 ≤ c) && decide (c ≤ 57)
def valL (cs : List Nat) : Nat := cs.foldl (fun acc c => acc * 10 + (c - 48)) 0

theorem at_one (cs : List Nat) (c i : Nat) : StrLaws.At (tx cs) (tx [c]) (tx cs).length i ↔ cs[i]? = some c := by
  have := StrLaws.subAt_one (tx cs) c i
  rw [tx_cps] at this
  exact this
theorem strSub_tx (cs : List Nat) (a b : Nat) : strSub (tx cs) a b = tx ((cs.drop a).take (b - a)) := by
  rw [← tx_codes (strSub (tx cs) a b), StrLaws.strSub_toList, tx_cps]
/-! ### split -/
def splitL (c : Nat) : List Nat → List (List Nat)
  | [] => [[]]
  | x :: xs => if x = c then [] :: splitL c xs else match splitL c xs with
    | [] => [[x]]
    | p :: ps => (x :: p) :: ps
theorem splitL_ne (c : Nat) : ∀ cs, splitL c cs ≠ []
  | [] => by simp [splitL]
  | x :: xs => by
    unfold splitL
    split
    · simp
    · split <;> simp
theorem splitL_free {c : Nat} : ∀ {cs : List Nat}, c ∉ cs → splitL c cs = [cs]
  | [], _ => rfl
  | x :: xs, h => by
    have hx : ¬ x = c := fun e => h (by rw [e]; exact List.mem_cons_self)
    unfold splitL
    rw [if_neg hx, splitL_free fun m => h (List.mem_cons_of_mem _ m)]
theorem splitL_cat {c : Nat} : ∀ {p r : List Nat}, c ∉ p → splitL c (p ++ c :: r) = p :: splitL c r
  | [], r, _ => by
    show splitL c (c :: r) = _
    rw [splitL, if_pos rfl]
  | x :: p, r, h => by
    have hx : ¬ x = c := fun e => h (by rw [e]; exact List.mem_cons_self)
    show splitL c (x :: (p ++ c :: r)) = _
    rw [splitL, if_neg hx, splitL_cat fun m => h (List.mem_cons_of_mem _ m)]
theorem drop_at {cs : List Nat} {d c : Nat} (h : cs[d]? = some c) : cs.drop d = c :: cs.drop (d + 1) := by
  have hl : d < cs.length := (List.getElem?_eq_some_iff.mp h).1
  rw [List.drop_eq_getElem_cons hl]
  have := (List.getElem?_eq_some_iff.mp h).2
  rw [this]
theorem gap_free {cs : List Nat} {c a d : Nat} (h : ∀ k, a ≤ k → k < d → ¬ cs[k]? = some c) : c ∉ (cs.drop a).take (d - a) := by
  intro hm
  obtain ⟨j, hj⟩ := List.getElem?_of_mem hm
  have hlt : j < d - a := by
    have h1 := (List.getElem?_eq_some_iff.mp hj).1
    rw [List.length_take] at h1
    omega
  rw [List.getElem?_take_of_lt hlt, List.getElem?_drop] at hj
  exact h (a + j) (by omega) (by omega) hj
theorem tail_free {cs : List Nat} {c a : Nat} (h : ∀ k, a ≤ k → ¬ cs[k]? = some c) : c ∉ cs.drop a := by
  intro hm
  obtain ⟨j, hj⟩ := List.getElem?_of_mem hm
  rw [List.getElem?_drop] at hj
  exact h (a + j) (by omega) hj
theorem parts_tx (cs : List Nat) (c : Nat) : ∀ (cuts : List Nat) (a f : Nat), StrLaws.ChainG (tx cs) (tx [c]) (tx cs).length a cuts f → (∀ k, f ≤ k → ¬ StrLaws.At (tx cs) (tx [c]) (tx cs).length k) →
    StrLaws.partsFrom (tx cs) (tx [c]).length a cuts = (splitL c (cs.drop a)).map tx
  | [], a, f, h, hn => by
    have e : f = a := h
    subst e
    have hf : c ∉ cs.drop f := tail_free fun k hk => fun z => hn k hk ((at_one cs c k).mpr z)
    rw [splitL_free hf]
    show [strSub (tx cs) f (tx cs).length] = [tx (cs.drop f)]
    rw [strSub_tx, tx_len, List.take_of_length_le (by rw [List.length_drop]; exact Nat.le_refl _)]
  | d :: r, a, f, h, hn => by
    obtain ⟨had, hAt, hgap, hrest⟩ := h
    have hd := (at_one cs c d).mp hAt
    have ih := parts_tx cs c r _ f hrest hn
    have e : cs.drop a = (cs.drop a).take (d - a) ++ c :: cs.drop (d + 1) := by
      have e1 : (cs.drop a).drop (d - a) = cs.drop d := by rw [List.drop_drop]; congr 1; omega
      rw [← drop_at hd, ← e1, List.take_append_drop]
    have hg : c ∉ (cs.drop a).take (d - a) := gap_free fun k h1 h2 z => hgap k h1 h2 ((at_one cs c k).mpr z)
    rw [e, splitL_cat hg, List.map_cons]
    show strSub (tx cs) a d :: StrLaws.partsFrom (tx cs) (tx [c]).length (d + (tx [c]).length) r = _
    rw [ih, strSub_tx]
    rfl
theorem split_tx (cs : List Nat) (c : Nat) : Txt.split (tx cs) (tx [c]) = (splitL c cs).map tx := by
  have one : c ∉ cs → [tx cs] = (splitL c cs).map tx := fun h => by rw [splitL_free h]; rfl
  unfold Txt.split
  split
  · rename_i h
    refine one ?_
    rw [Bool.or_eq_true, decide_eq_true_eq, decide_eq_true_eq] at h
    rcases h with h | h
    · rw [tx_len] at h
      have : cs = [] := List.eq_nil_of_length_eq_zero (by rw [tx_len] at h; have h' : cs.length < 1 := h; omega)
      subst this
      simp
    · have := StrLaws.kind_free (tx cs) c h
      rw [tx_cps] at this
      exact this
  · split
    · rename_i h1 h2
      refine one fun hm => ?_
      obtain ⟨j, hj⟩ := List.getElem?_of_mem hm
      obtain ⟨f, hc, hn⟩ := StrLaws.occ_tight (tx cs) (tx [c]) (by rw [tx_len]; exact Nat.le_refl _)
      rw [List.isEmpty_iff.mp h2] at hc
      have e : f = 0 := hc
      exact hn j (by omega) ((at_one cs c j).mpr hj)
    · obtain ⟨f, hc, hn⟩ := StrLaws.occ_tight (tx cs) (tx [c]) (by rw [tx_len]; exact Nat.le_refl _)
      have := parts_tx cs c _ 0 f hc hn
      rw [List.drop_zero] at this
      rw [← this]
      exact StrLaws.zip_parts _ _ _ _
/-! ### partition, find, rfind, count -/
theorem head_tx (cs : List Nat) (c : Nat) : (Txt.partition (tx cs) (tx [c])).1 = tx (cs.takeWhile fun x => !decide (x = c)) := by
  rcases PyProof.Rows.partition_head (tx cs) (tx [c]) with ⟨e, h⟩ | ⟨i, e, h, hk⟩
  · rw [e, tx_inj]
    have hf : c ∉ cs := fun hm => by
      obtain ⟨j, hj⟩ := List.getElem?_of_mem hm
      exact h j ((at_one cs c j).mpr hj)
    symm
    have := List.takeWhile_append_of_pos (p := fun x => !decide (x = c)) (l₁ := cs) (l₂ := []) (fun x hx => by
      simp only [Bool.not_eq_true', decide_eq_false_iff_not]
      rintro rfl
      exact hf hx)
    simpa using this
  · rw [e, strSub_tx, tx_inj, List.drop_zero, Nat.sub_zero]
    have hi := (at_one cs c i).mp h
    have hg : c ∉ (cs.drop 0).take (i - 0) := gap_free fun k _ h2 z => hk k h2 ((at_one cs c k).mpr z)
    rw [List.drop_zero, Nat.sub_zero] at hg
    have e2 : cs = cs.take i ++ c :: cs.drop (i + 1) := by rw [← drop_at hi, List.take_append_drop]
    conv => rhs; rw [e2]
    rw [List.takeWhile_append_of_pos (fun x hx => by
      simp only [Bool.not_eq_true', decide_eq_false_iff_not]
      rintro rfl
      exact hg hx)]
    simp
/-- the first place, the last place of a sign -/
def findL (c : Nat) (cs : List Nat) : Int := match cs.findIdx? (· == c) with
  | some i => (i : Int)
  | none => -1
def rfindL (c : Nat) : List Nat → Int
  | [] => -1
  | x :: xs => if 0 ≤ rfindL c xs then rfindL c xs + 1 else if x = c then 0 else -1
theorem rfindL_spec (c : Nat) : ∀ cs : List Nat, (rfindL c cs = -1 ∧ c ∉ cs) ∨ ∃ i : Nat, rfindL c cs = (i : Int) ∧ cs[i]? = some c ∧ ∀ k, i < k → ¬ cs[k]? = some c
  | [] => .inl ⟨rfl, by simp⟩
  | x :: xs => by
    unfold rfindL
    rcases rfindL_spec c xs with ⟨e, h⟩ | ⟨i, e, h, hk⟩
    · rw [e, if_neg (by decide)]
      by_cases hx : x = c
      · rw [if_pos hx]
        refine .inr ⟨0, rfl, by simp [hx], fun k hk hz => ?_⟩
        obtain ⟨k', rfl⟩ : ∃ k', k = k' + 1 := ⟨k - 1, by omega⟩
        rw [List.getElem?_cons_succ] at hz
        exact h (List.mem_of_getElem? hz)
      · rw [if_neg hx]
        refine .inl ⟨rfl, fun hm => ?_⟩
        rcases List.mem_cons.mp hm with z | z
        · exact hx z.symm
        · exact h z
    · rw [e, if_pos (Int.natCast_nonneg i)]
      refine .inr ⟨i + 1, by push_cast; rfl, by simpa using h, fun k hk' hz => ?_⟩
      obtain ⟨k', rfl⟩ : ∃ k', k = k' + 1 := ⟨k - 1, by omega⟩
      rw [List.getElem?_cons_succ] at hz
      exact hk k' (by omega) hz
theorem rfind_tx (cs : List Nat) (c : Nat) : Txt.rfind (tx cs) (tx [c]) = rfindL c cs := by
  rcases PyProof.Rows.rfind_whole (tx cs) (tx [c]) with ⟨e, h⟩ | ⟨i, e, h, hk⟩
  · rcases rfindL_spec c cs with ⟨e', _⟩ | ⟨j, e', hj, _⟩
    · rw [e, e']
    · exact absurd ((at_one cs c j).mpr hj) (h j)
  · have hi := (at_one cs c i).mp h
    rcases rfindL_spec c cs with ⟨e', h'⟩ | ⟨j, e', hj, hj'⟩
    · exact absurd (List.mem_of_getElem? hi) h'
    · rw [e, e']
      have h1 : ¬ i < j := fun z => hk j z ((at_one cs c j).mpr hj)
      have h2 : ¬ j < i := fun z => hj' i z hi
      congr 1
      omega
theorem rfindL_snoc (c : Nat) (cs : List Nat) (d : Nat) : rfindL c (cs ++ [d]) = if d = c then (cs.length : Int) else rfindL c cs := by
  induction cs with
  | nil =>
    show rfindL c [d] = _
    unfold rfindL
    simp [rfindL]
  | cons x xs ih =>
    show rfindL c (x :: (xs ++ [d])) = _
    unfold rfindL
    rw [ih]
    by_cases hd : d = c
    · rw [if_pos hd, if_pos (Int.natCast_nonneg _), if_pos hd]
      simp
    · rw [if_neg hd, if_neg hd]
theorem find_tx (cs : List Nat) (c : Nat) : Txt.find (tx cs) (tx [c]) = findL c cs := by
  unfold findL
  rcases PyProof.Rows.find_whole (tx cs) (tx [c]) with ⟨e, h⟩ | ⟨i, e, h, hk⟩
  · rw [e]
    have hn : cs.findIdx? (· == c) = none := by
      rw [List.findIdx?_eq_none_iff]
      intro x hx
      simp only [beq_eq_false_iff_ne]
      rintro rfl
      obtain ⟨j, hj⟩ := List.getElem?_of_mem hx
      exact h j ((at_one cs x j).mpr hj)
    rw [hn]
  · rw [e]
    have hi := (at_one cs c i).mp h
    have hs : cs.findIdx? (· == c) = some i := by
      rw [List.findIdx?_eq_some_iff_getElem]
      have hl : i < cs.length := (List.getElem?_eq_some_iff.mp hi).1
      refine ⟨hl, by simpa using (List.getElem?_eq_some_iff.mp hi).2, fun j hj => ?_⟩
      have hjl : j < cs.length := by omega
      have := hk j hj
      rw [at_one, List.getElem?_eq_getElem hjl] at this
      simpa using this
    rw [hs]
theorem count_tx (cs : List Nat) (c : Nat) : Txt.count (tx cs) (tx [c]) = (cs.count c : Nat) := by
  have h := PyProof.Rows.count_is (tx cs) c
  have e : ∀ l : List Nat, PyProof.Rows.cnt c l = (l.count c : Nat) := fun l => by
    induction l with
    | nil => rfl
    | cons x xs ih =>
      rw [PyProof.Rows.cnt_cons, ih, List.count_cons]
      by_cases hx : x = c <;> simp [hx] <;> omega
  have h2 : Txt.count (tx cs) (tx [c]) = PyProof.Rows.cnt c (tx cs).cps.toList := h
  rw [h2, e, tx_cps]
/-! ### join -/
def joinL (sep : List Nat) : List (List Nat) → List Nat
  | [] => []
  | [x] => x
  | x :: y :: r => x ++ sep ++ joinL sep (y :: r)
theorem join_tx (sep : List Nat) : ∀ l : List (List Nat), Str.join (tx sep) (l.map tx) = tx (joinL sep l)
  | [] => rfl
  | [x] => rfl
  | x :: y :: r => by
    show tx x ++ tx sep ++ Str.join (tx sep) ((y :: r).map tx) = _
    rw [join_tx sep (y :: r), tx_app, tx_app]
    rfl
theorem joinL_nil : ∀ l : List (List Nat), joinL [] l = l.flatten
  | [] => rfl
  | [x] => by simp [joinL]
  | x :: y :: r => by
    show x ++ [] ++ joinL [] (y :: r) = _
    rw [joinL_nil (y :: r)]
    simp
theorem joinL_split (c : Nat) : ∀ l : List (List Nat), l ≠ [] → (∀ p ∈ l, c ∉ p) → splitL c (joinL [c] l) = l
  | [], h, _ => absurd rfl h
  | [x], _, h => splitL_free (h x List.mem_cons_self)
  | x :: y :: r, _, h => by
    show splitL c (x ++ [c] ++ joinL [c] (y :: r)) = _
    rw [List.append_assoc]
    show splitL c (x ++ c :: joinL [c] (y :: r)) = _
    rw [splitL_cat (h x List.mem_cons_self), joinL_split c (y :: r) (by simp) fun p hp => h p (List.mem_cons_of_mem _ hp)]
end L2


namespace L2
open PySem PySem.Spec PyProof.Rows

/-! ### list comprehensions -/
section
variable {prog : Program} {w : World} {A : Around} {R : Result → Shared → Prop} {s : Shared}
theorem compLoop_any {elt target iter : Expr} {ifs : List Expr} {scope : Scope} {pos : Pos} {it acc : Value} {env : Env} (I : Nat → Shared → Prop)
    (turn : ∀ n s, I n s → wpAny (model prog w) A (pyNext it) (fun r s₁ => match r with
      | none => R (.ok .next) s₁
      | some v => wpAny (model prog w) A (letOwnedTupleGo target it v) (fun _ s₀ => wpAny (model prog w) A (assign target env v) (fun _ s₂ =>
          wpAny (model prog w) A (forIn ifs true fun c r => if r = true then do let ok ← isTrue c env (eval c env); pure (ForInStep.yield ok) else pure (ForInStep.yield r)) (fun ok s₃ =>
            if ok = true then wpAny (model prog w) A (eval elt env) (fun x s₄ =>
              wpAny (model prog w) A (call (.builtin "list.append") [acc, x]) (fun _ s₅ => ∃ m, m < n ∧ I m s₅) (notedBy (model prog w) A env fun e s' => R (.error e) s') s₄) (notedBy (model prog w) A env fun e s' => R (.error e) s') s₃
            else ∃ m, m < n ∧ I m s₃) (notedBy (model prog w) A env fun e s' => R (.error e) s') s₂) (notedBy (model prog w) A env fun e s' => R (.error e) s') s₀) (notedBy (model prog w) A env fun e s' => R (.error e) s') s₁) (notedBy (model prog w) A env fun e s' => R (.error e) s') s)
    (n : Nat) (h : I n s) :
    codeAny (model prog w) A (.compLoop (.ListComp elt [⟨target, iter, ifs, 0⟩] scope pos) 0 it acc env) R s := by
  refine codeAny_loop rfl I (fun n s hI => ?_) n h
  show wpAny _ A ((compTurn (.ListComp elt [⟨target, iter, ifs, 0⟩] scope pos) 0 it acc env).onRaise (fun x => do noteFrame x env; theTreesLotGoes x)) _ _ s
  refine wpAny_noted ?_
  rw [compTurn_list]
  refine wpAny_bind (wpAny_standAt (wpAny_bind (wpAny_mono (turn n s hI) (fun r s₁ h₁ => ?_) fun _ _ h' => h')))
  cases r with
  | none => exact wpAny_pure h₁
  | some v =>
    refine wpAny_bind (wpAny_mono h₁ (fun _ s₀ h₀ => ?_) fun _ _ h' => h')
    refine wpAny_bind (wpAny_mono h₀ (fun _ s₂ h₂ => wpAny_bind (wpAny_mono h₂ (fun ok s₃ h₃ => ?_) fun _ _ h' => h')) fun _ _ h' => h')
    cases ok with
    | false => exact wpAny_pure ⟨rfl, h₃⟩
    | true =>
      exact wpAny_bind (wpAny_bind (wpAny_mono h₃ (fun x s₄ h₄ => wpAny_bind (wpAny_mono h₄ (fun _ s₅ h₅ => wpAny_pure (wpAny_pure ⟨rfl, h₅⟩)) fun _ _ h' => h')) fun _ _ h' => h'))
end

/-- the cells that a block takes along -/
def closL (cells : List (Str × Addr)) : List (Str × NameKind) → List (Str × Addr) → List (Str × Addr)
  | [], acc => acc
  | (n, k) :: r, acc => closL cells r (if (k == .free) = true then (n, (cells.lookup n).getD 0) :: acc else acc)
theorem closureFor_go {env : Env} : ∀ (names : List (Str × NameKind)) (acc : List (Str × Addr)), (∀ x ∈ names, x.2 = .free → ∃ c, env.cells.lookup x.1 = some c) →
    (forIn names acc fun (x : Str × NameKind) (r : List (Str × Addr)) => match x with
      | (name, kind) => if (kind == .free) = true then (do let c ← cellOf env name; pure (ForInStep.yield ((name, c) :: r))) else pure (ForInStep.yield r)) = (pure (closL env.cells names acc) : Sem _)
  | [], acc, _ => rfl
  | (n, k) :: r, acc, h => by
    rw [List.forIn_cons]
    show ((if (k == .free) = true then (do let c ← cellOf env n; pure (ForInStep.yield ((n, c) :: acc))) else pure (ForInStep.yield acc)) >>= _) = _
    by_cases hk : (k == .free) = true
    · obtain ⟨c, hc⟩ := h (n, k) List.mem_cons_self (by simpa using hk)
      have e : cellOf env n = pure c := by
        unfold cellOf
        rw [hc]
      rw [if_pos hk, e]
      show (forIn r ((n, c) :: acc) _ : Sem _) = _
      rw [closureFor_go r _ fun x hx => h x (List.mem_cons_of_mem _ hx)]
      conv => rhs; unfold closL
      rw [if_pos hk, hc]
      rfl
    · rw [if_neg hk]
      show (forIn r acc _ : Sem _) = _
      rw [closureFor_go r _ fun x hx => h x (List.mem_cons_of_mem _ hx)]
      conv => rhs; unfold closL
      rw [if_neg hk]
theorem closureFor_eq {scope : Scope} {env : Env} (h : ∀ x ∈ scope.names, x.2 = .free → ∃ c, env.cells.lookup x.1 = some c) : closureFor scope env = pure (closL env.cells scope.names []) := by
  have e := closureFor_go (env := env) scope.names [] h
  unfold closureFor
  show ((forIn scope.names ([] : List (Str × Addr)) _ : Sem _) >>= fun cs => pure cs) = _
  have e2 : (forIn scope.names ([] : List (Str × Addr)) fun (x : Str × NameKind) (r : List (Str × Addr)) => match x with
      | (name, kind) => if (kind == .free) = true then (do let c ← cellOf env name; pure (ForInStep.yield ((name, c) :: r))) else pure (ForInStep.yield r)) = (pure (closL env.cells scope.names []) : Sem _) := e
  rw [e2]
  rfl
theorem closL_sub {cells : List (Str × Addr)} {x : Str} {c : Addr} : ∀ (names : List (Str × NameKind)) (acc : List (Str × Addr)), (∀ y ∈ names, y.2 = .free → ∃ c, cells.lookup y.1 = some c) →
    (∀ c, acc.lookup x = some c → cells.lookup x = some c) → (closL cells names acc).lookup x = some c → cells.lookup x = some c
  | [], acc, _, ha, h => ha c h
  | (n, k) :: r, acc, hf, ha, h => by
    unfold closL at h
    refine closL_sub r _ (fun y hy => hf y (List.mem_cons_of_mem _ hy)) (fun c' h' => ?_) h
    by_cases hk : (k == .free) = true
    · rw [if_pos hk] at h'
      obtain ⟨c0, hc0⟩ := hf (n, k) List.mem_cons_self (by simpa using hk)
      rw [List.lookup_cons] at h'
      cases hx : x == n with
      | true =>
        rw [hx] at h'
        have e : x = n := eq_of_beq hx
        subst e
        have h'' : (cells.lookup x).getD 0 = c' := Option.some.inj h'
        have hc0' : cells.lookup x = some c0 := hc0
        rw [hc0'] at h'' ⊢
        exact congrArg some h''
      | false =>
        rw [hx] at h'
        exact ha c' h'
    · rw [if_neg hk] at h'
      exact ha c' h'
theorem closL_has {cells : List (Str × Addr)} {x : Str} : ∀ (names : List (Str × NameKind)) (acc : List (Str × Addr)), ((x, NameKind.free) ∈ names ∨ ∃ c, acc.lookup x = some c) → ∃ c, (closL cells names acc).lookup x = some c
  | [], acc, h => by
    rcases h with h | h
    · cases h
    · exact h
  | (n, k) :: r, acc, h => by
    unfold closL
    refine closL_has r _ ?_
    rcases h with h | ⟨c, h⟩
    · rcases List.mem_cons.mp h with e | e
      · cases e
        refine .inr ⟨(cells.lookup x).getD 0, ?_⟩
        rw [if_pos (by rfl), List.lookup_cons]
        simp
      · exact .inl e
    · refine .inr ?_
      by_cases hk : (k == .free) = true
      · rw [if_pos hk, List.lookup_cons]
        cases hx : x == n with
        | true => exact ⟨_, rfl⟩
        | false => exact ⟨c, h⟩
      · rw [if_neg hk]
        exact ⟨c, h⟩

/-- a comprehension's names: its own (tn), those of the def that it reads (cn, at the places js) -/
structure CompSc (X : Cx) (scope : Scope) (tn cn : List Str) (js : List Nat) : Prop where
  kind : scope.kind = .function
  nocell : ∀ y ∈ scope.names, y.2 ≠ .cell
  names : ∀ y ∈ scope.names, y.2 = .local → scope.names.lookup y.1 = some .local
  free : ∀ y ∈ scope.names, y.2 = .free → X.env.kindOf y.1 = some .cell ∨ X.env.kindOf y.1 = some .free
  cap : ∀ (k : Nat) (x : Str), cn[k]? = some x → ∃ j, js[k]? = some j ∧ X.N[j]? = some x ∧ (X.env.kindOf x = some .cell ∨ X.env.kindOf x = some .free) ∧ scope.names.lookup x = some .free
  len : cn.length = js.length
def compScB (onames : List (Str × NameKind)) (oN : List Str) (names : List (Str × NameKind)) (cn : List Str) (js : List Nat) : Bool :=
  names.all (fun y => !(y.2 == .cell)) && names.all (fun y => !(y.2 == .local) || (names.lookup y.1 == some .local)) &&
  names.all (fun y => !(y.2 == .free) || (onames.lookup y.1 == some .cell || onames.lookup y.1 == some .free)) &&
  ((cn.zip js).all fun p => oN[p.2]? == some p.1 && (onames.lookup p.1 == some .cell || onames.lookup p.1 == some .free) && names.lookup p.1 == some .free) && (cn.length == js.length)
theorem CompSc.mk' {X : Cx} {scope : Scope} {tn cn : List Str} {js : List Nat} {osc : Scope} {oN : List Str} (hk : scope.kind = .function) (ho : X.env.scope = osc) (hN : X.N = oN) (h : compScB osc.names oN scope.names cn js = true) : CompSc X scope tn cn js := by
  unfold compScB at h
  simp only [Bool.and_eq_true] at h
  obtain ⟨⟨⟨⟨h1, h2⟩, h3⟩, h4⟩, h5⟩ := h
  rw [List.all_eq_true] at h1 h2 h3 h4
  have hlen : cn.length = js.length := by simpa using h5
  refine ⟨hk, fun y hy => ?_, fun y hy e => ?_, fun y hy e => ?_, fun k x e => ?_, hlen⟩
  · have := h1 y hy
    simpa using this
  · have := h2 y hy
    simpa [e] using this
  · have := h3 y hy
    unfold Env.kindOf
    rw [ho]
    simpa [e] using this
  · have hkl : k < cn.length := (List.getElem?_eq_some_iff.mp e).1
    have hkj : k < js.length := by omega
    refine ⟨js[k], by simp [hkj], ?_⟩
    have hz : (x, js[k]) ∈ cn.zip js := by
      have e2 : (cn.zip js)[k]? = some (x, js[k]) := by
        rw [List.getElem?_zip_eq_some]
        exact ⟨e, by simp [hkj]⟩
      exact List.mem_of_getElem? e2
    have := h4 _ hz
    unfold Env.kindOf
    rw [ho, hN]
    simp only [Bool.and_eq_true, Bool.or_eq_true, beq_iff_eq] at this
    exact ⟨this.1.1, this.1.2, this.2⟩

def pick (σ : St) (js : List Nat) : St := js.map fun j => (σ[j]?).getD none
/-- a block's values at a turn's start -/
def blk (n : Nat) (σ : St) (js : List Nat) : St := List.replicate n none ++ pick σ js
def compCx (X : Cx) (scope : Scope) (N' : List Str) (C : Addr) (s₂ : Shared) (H₂ : Hp) (fp : List Addr) (xe : Value → Shared → Prop) : Cx :=
  { X with N := N', s₀ := s₂, H₀ := H₂, env := compEnvC scope (closL X.env.cells scope.names []) C X.env, outer := X.stack, ex := fp, fn := fun _ => false, pn := [], xe := xe }

section
variable {X : Cx} {pins : List (Addr × Obj)} {σ : St} {H₂ : Hp} {s₂ : Shared} {scope : Scope} {tn cn : List Str} {js : List Nat}
theorem CompSc.clos (S : CompSc X scope tn cn js) (ok : X.Ok) : ∀ y ∈ scope.names, y.2 = .free → ∃ c, X.env.cells.lookup y.1 = some c := fun y hy e => ok.has y.1 (S.free y hy e)
theorem relabel_lookup {env : Env} : ∀ {names : List (Str × NameKind)} {x : Str} {k : NameKind}, (names.map fun (n, k) => if (k == NameKind.free && env.scope.kind == .function && env.kindOf n == some .cell) then (n, NameKind.cell) else (n, k)).lookup x = some k →
    (k = .cell ∨ k = .free) → (∀ y ∈ names, y.2 ≠ .cell) → (x, NameKind.free) ∈ names
  | [], _, _, h, _, _ => by simp at h
  | (n, k0) :: r, x, k, h, hk, hc => by
    have ih := @relabel_lookup env r x k
    have h : List.lookup x ((if (k0 == NameKind.free && env.scope.kind == .function && env.kindOf n == some .cell) = true then (n, NameKind.cell) else (n, k0)) :: _) = _ := h
    by_cases hb : (k0 == NameKind.free && env.scope.kind == .function && env.kindOf n == some .cell) = true
    · rw [if_pos hb, List.lookup_cons] at h
      have e0 : k0 = .free := by
        simp only [Bool.and_eq_true] at hb
        simpa using hb.1.1
      cases hx : x == n with
      | true =>
        have e : x = n := eq_of_beq hx
        subst e; subst e0
        exact List.mem_cons_self
      | false =>
        rw [hx] at h
        exact List.mem_cons_of_mem _ (ih h hk fun y hy => hc y (List.mem_cons_of_mem _ hy))
    · rw [if_neg hb, List.lookup_cons] at h
      cases hx : x == n with
      | true =>
        rw [hx] at h
        have e : x = n := eq_of_beq hx
        have e0 : k0 = k := Option.some.inj h
        subst e; subst e0
        rcases hk with hk | hk
        · exact absurd hk (hc (x, k0) List.mem_cons_self)
        · subst hk
          exact List.mem_cons_self
      | false =>
        rw [hx] at h
        exact List.mem_cons_of_mem _ (ih h hk fun y hy => hc y (List.mem_cons_of_mem _ hy))
theorem relabel_free {env : Env} : ∀ {names : List (Str × NameKind)} {x : Str}, names.lookup x = some .free →
    (names.map fun (n, k) => if (k == NameKind.free && env.scope.kind == .function && env.kindOf n == some .cell) then (n, NameKind.cell) else (n, k)).lookup x = some .cell ∨
    (names.map fun (n, k) => if (k == NameKind.free && env.scope.kind == .function && env.kindOf n == some .cell) then (n, NameKind.cell) else (n, k)).lookup x = some .free
  | [], _, h => by simp at h
  | (n, k0) :: r, x, h => by
    have ih := @relabel_free env r x
    show List.lookup x ((if (k0 == NameKind.free && env.scope.kind == .function && env.kindOf n == some .cell) = true then (n, NameKind.cell) else (n, k0)) :: _) = _ ∨
      List.lookup x ((if (k0 == NameKind.free && env.scope.kind == .function && env.kindOf n == some .cell) = true then (n, NameKind.cell) else (n, k0)) :: _) = _
    cases hx : x == n with
    | true =>
      simp only [List.lookup_cons, hx] at h
      cases h
      by_cases hb : (NameKind.free == NameKind.free && env.scope.kind == .function && env.kindOf n == some .cell) = true
      · rw [if_pos hb]; simp [List.lookup_cons, hx]
      · rw [if_neg hb]; simp [List.lookup_cons, hx]
    | false =>
      simp only [List.lookup_cons, hx] at h
      by_cases hb : (k0 == NameKind.free && env.scope.kind == .function && env.kindOf n == some .cell) = true
      · rw [if_pos hb]; simp only [List.lookup_cons, hx]; exact ih h
      · rw [if_neg hb]; simp only [List.lookup_cons, hx]; exact ih h
theorem comp_ok {C : Addr} {fp : List Addr} {xe : Value → Shared → Prop} (S : CompSc X scope tn cn js) (I : Inv X pins σ H₂ s₂) (hC : s₂.heap.objs.size ≤ C) (hf : ∀ b ∈ fp, FpOk X pins H₂ b) (ho : ∀ b ∈ fp, ∃ o, s₂.heap.get? b = some o ∧ ∀ v, o.data ≠ .cell v) :
    (compCx X scope (tn ++ cn) C s₂ H₂ fp xe).Ok where
  mod := I.ok.mod
  kind := S.kind
  glob := I.ok.glob
  blt := I.ok.blt
  above := hC
  inj := fun x y c h1 h2 => I.ok.inj x y c (closL_sub _ [] (S.clos I.ok) (fun _ z => by cases z) h1) (closL_sub _ [] (S.clos I.ok) (fun _ z => by cases z) h2)
  has := fun x hx => by
    refine closL_has _ _ (.inl ?_)
    rcases hx with hx | hx
    · exact relabel_lookup (env := X.env) (k := .cell) hx (Or.inl (Eq.refl NameKind.cell)) S.nocell
    · exact relabel_lookup (env := X.env) (k := .free) hx (Or.inr (Eq.refl NameKind.free)) S.nocell
  cab := fun x c h _ => by cases h
  hd := I.ok.hd
  frames := I.ok.frames
  stk := .inl rfl
  exf := fun b hb => by
    obtain ⟨o, e, _⟩ := ho b hb
    obtain ⟨_, _, _, _, f4, _⟩ := hf b hb
    exact ⟨Nat.ne_of_lt (Nat.lt_of_lt_of_le (Heap.lt_size e) hC), fun x c h => f4 x c (closL_sub _ [] (S.clos I.ok) (fun _ z => by cases z) h)⟩
  bs := I.bs
  bsz := Nat.le_trans I.ok.bsz I.sz
  noex := fun b o e hb => by
    obtain ⟨_, _, _, f3, _, _⟩ := hf b hb
    rcases f3 with z | z
    · exact I.ok.noex b o e z
    · exact absurd (Nat.lt_of_lt_of_le (Heap.lt_size (I.ok.bs b o e).1) z) (Nat.lt_irrefl _)
  exfs := fun b hb z => by
    obtain ⟨_, f1, f2, _, _, _⟩ := hf b hb
    exact (List.mem_cons.mp (I.stkSub b z)).elim f1 f2
  funs := I.stack
  frf := I.stkFree

/-- the names that a block reads, at whatever state of it -/
theorem comp_look {C : Addr} {fp : List Addr} {s : Shared} {H : Hp} {m : Str → Option Value} (S : CompSc X scope tn cn js) (I : Inv X pins σ H₂ s₂) (hf : ∀ b ∈ fp, FpOk X pins H₂ b)
    (u : Un (frs X.stack) fp H₂ H s₂.heap s.heap) :
    ∀ (i : Nat) (x : Str) (v : V), (tn ++ cn)[i]? = some x → (blk tn.length σ js)[i]? = some (some v) → ∃ z, RelV v z ∧ Look (compEnvC scope (closL X.env.cells scope.names []) C X.env) s.heap m x z := by
  intro i x v e1 e2
  unfold blk at e2
  by_cases hi : i < tn.length
  · rw [List.getElem?_append_left (by simpa using hi), List.getElem?_replicate, if_pos hi] at e2
    cases e2
  · have hi' : tn.length ≤ i := by omega
    rw [List.getElem?_append_right hi'] at e1
    rw [List.getElem?_append_right (by simpa using hi'), List.length_replicate] at e2
    obtain ⟨j, hj, hN, hk, hm⟩ := S.cap _ _ e1
    unfold pick at e2
    rw [List.getElem?_map, hj] at e2
    have e3 : (σ[j]?).getD none = some v := Option.some.inj e2
    have e4 : σ[j]? = some (some v) := by
      cases q : σ[j]? with
      | none => rw [q] at e3; cases e3
      | some z => rw [q] at e3; exact congrArg some e3
    obtain ⟨m0, _, hl⟩ := I.loc
    have hv : Vis X.env.scope x := by
      rcases hk with hk | hk
      · exact .inr (.inl hk)
      · exact .inr (.inr hk)
    obtain ⟨z, rz, l⟩ := hl j x v hN e4 hv
    refine ⟨z, rz, ?_⟩
    obtain ⟨c, hc, ob, ho, hd⟩ : ∃ c, X.env.cells.lookup x = some c ∧ s₂.heap.IsCell c (some z) := by
      rcases l with ⟨k, _⟩ | ⟨_, c, hc, q⟩
      · rcases hk with hk | hk
        · rw [hk] at k; cases k
        · rw [hk] at k; cases k
      · exact ⟨c, hc, q⟩
    obtain ⟨c', hc'⟩ := closL_has (cells := X.env.cells) (x := x) scope.names [] (.inl (PySem.mem_of_lookup hm))
    have ec : c' = c := by
      have := closL_sub _ [] (S.clos I.ok) (fun _ z => by cases z) hc'
      rw [hc] at this
      exact (Option.some.inj this).symm
    subst ec
    have nf : c' ∉ fp := fun hb => (hf c' hb).2.2.2.2.1 x c' hc rfl
    obtain ⟨sl, q⟩ := u.any ho (I.freeC x c' hc) nf
    exact .inr ⟨relabel_free hm, c', hc', ⟨_, q, hd⟩⟩

theorem blk_len (S : CompSc X scope tn cn js) : (blk tn.length σ js).length = (tn ++ cn).length := by
  unfold blk pick
  rw [List.length_append, List.length_append, List.length_replicate, List.length_map, S.len]
/-- a block's turn begins anew -/
theorem comp_again {C : Addr} {fp : List Addr} {xe : Value → Shared → Prop} {s : Shared} {H : Hp} {σ' : St} {pins' : List (Addr × Obj)} (S : CompSc X scope tn cn js) (I : Inv X pins σ H₂ s₂) (hf : ∀ b ∈ fp, FpOk X pins H₂ b)
    (I' : Inv (compCx X scope (tn ++ cn) C s₂ H₂ fp xe) pins' σ' H s) : Inv (compCx X scope (tn ++ cn) C s₂ H₂ fp xe) pins' (blk tn.length σ js) H s := by
  obtain ⟨m, hn, _⟩ := id I'.loc
  exact ⟨I'.ok, I'.os, I'.bare, I'.base, ⟨m, hn, fun i x v e1 e2 _ => comp_look S I hf I'.base i x v e1 e2⟩, I'.cell, I'.free, I'.freeC, I'.pin, I'.hok, blk_len S⟩
/-- a block begins -/
theorem comp_start {C D : Addr} {fp : List Addr} {xe : Value → Shared → Prop} {h : Heap} {tk : Nat} {ob : Obj} {m : Str → Option Value} (S : CompSc X scope tn cn js) (I : Inv X pins σ H₂ s₂) (hC : s₂.heap.objs.size ≤ C) (hD : s₂.heap.objs.size ≤ D) (hDC : D ≠ C)
    (hf : ∀ b ∈ fp, FpOk X pins H₂ b) (ho : ∀ b ∈ fp, ∃ o, s₂.heap.get? b = some o ∧ ∀ v, o.data ≠ .cell v) (k : ∀ b o, s₂.heap.get? b = some o → h.get? b = some o) (hn : h.Ns C m) (hob : h.get? D = some ob) (hcell : ∀ v, ob.data ≠ .cell v) :
    Inv (compCx X scope (tn ++ cn) C s₂ H₂ fp xe) [(D, ob)] (blk tn.length σ js) H₂ { s₂ with heap := h, toks := tk } := by
  have ok := comp_ok (xe := xe) S I hC hf ho
  have u : Un (frs X.stack) fp H₂ H₂ s₂.heap h := Un.kept k
  refine ⟨ok, rfl, I.bare, u, ⟨m, hn, fun i x v e1 e2 _ => comp_look (s := { s₂ with heap := h, toks := tk }) S I hf u i x v e1 e2⟩, fun x c e => ?_, I.hok.fresh hC, fun x c e => ?_, fun p hp => ?_, I.hok.kept k, blk_len S⟩
  · obtain ⟨v, o, q, d⟩ := I.cell x c (closL_sub _ [] (S.clos I.ok) (fun _ z => by cases z) e)
    exact ⟨v, o, k c o q, d⟩
  · exact I.freeC x c (closL_sub _ [] (S.clos I.ok) (fun _ z => by cases z) e)
  · have e : p = (D, ob) := by
      have : p ∈ ([] : List (Addr × Obj)) ++ [(D, ob)] := hp
      simpa using this
    subst e
    refine ⟨hob, I.hok.fresh hD, hDC, fun z => ?_, hcell⟩
    have z : D ∈ frs X.stack := z
    rcases List.mem_cons.mp (I.stkSub D z) with e | e
    · exact absurd (Nat.lt_of_lt_of_le I.lt (by rw [← e]; exact hD)) (Nat.lt_irrefl _)
    · exact I.nofs hD e
/-- behind a block: its list is the def's -/
theorem comp_end {C D : Addr} {fp : List Addr} {xe : Value → Shared → Prop} {s : Shared} {H : Hp} {σ' : St} {ys : List V} {its : List Value} {n : Nat} {h' : Heap} (S : CompSc X scope tn cn js) (I : Inv X pins σ H₂ s₂) (hC : s₂.heap.objs.size ≤ C) (hD : s₂.heap.objs.size ≤ D) (hDC : D ≠ C)
    (hf : ∀ b ∈ fp, FpOk X pins H₂ b) (I' : Inv (compCx X scope (tn ++ cn) C s₂ H₂ fp xe) [(D, { cls := .type "list", data := .seq its.toArray n })] σ' H s) (hv : Vals ys its) (hz : ys.length ≤ sizeLine) (hs : Heap.SameBut C s.heap h') :
    Inv X pins σ (upd H D (.lst ys)) { s with heap := h' } := by
  have pd := I'.pin (D, { cls := .type "list", data := .seq its.toArray n }) (List.mem_append_right _ List.mem_cons_self)
  have pd1 : s.heap.get? D = some { cls := .type "list", data := .seq its.toArray n } := pd.1
  have pd2 : H D = none := pd.2.1
  have hD' : h'.get? D = some { cls := .type "list", data := .seq its.toArray n } := (hs.2 D hDC).trans pd1
  have hCf : H C = none := I'.free
  have old : ∀ b o, s₂.heap.get? b = some o → b ≠ C ∧ b ≠ D := fun b o e => ⟨Nat.ne_of_lt (Nat.lt_of_lt_of_le (Heap.lt_size e) hC), Nat.ne_of_lt (Nat.lt_of_lt_of_le (Heap.lt_size e) hD)⟩
  have u := I'.base
  have u : Un (frs X.stack) fp H₂ H s₂.heap s.heap := u
  refine I.call' (s' := { s with heap := h' }) (ch := fp) (H' := upd H D (.lst ys)) I'.os ⟨fun b o e n hb hx => ?_, fun b o e n hb hx => ?_, fun b o e n hx => ?_, fun b o e hx => ?_, fun b xs e => ?_, fun b o xs e => ?_, fun b ps e => ?_⟩ (fun b o e => ?_) I'.bare (fun b hb => ?_)
  · exact (hs.2 b (old b o e).1).trans (u.keep b o e n hb hx)
  · obtain ⟨sl, q⟩ := u.slot b o e n hb hx
    exact ⟨sl, (hs.2 b (old b o e).1).trans q⟩
  · rw [upd_ne (old b o e).2]
    exact u.free b o e n hx
  · obtain ⟨o', q⟩ := u.there b o e hx
    exact ⟨o', (hs.2 b (old b o e).1).trans q⟩
  · have q := u.tups b xs e
    rw [upd_ne (ne_of_none q pd2)]
    exact q
  · have q := u.frzs b o xs e
    rw [upd_ne (ne_of_none q pd2)]
    exact q
  · obtain ⟨more, q⟩ := u.tbls b ps e
    exact ⟨more, by rw [upd_ne (ne_of_none q pd2)]; exact q⟩
  · by_cases hb : b = D
    · subst hb
      rw [upd_same] at e
      cases e
      exact ⟨hz, its, n, hv, hD'⟩
    · rw [upd_ne hb] at e
      refine (I'.hok b o e).stay (fun c v hc q => (hs.2 c ?_).trans q) (fun c q => by rw [upd_ne (ne_of_none q pd2)]; exact q) fun c xs q => by rw [upd_ne (ne_of_none q pd2)]; exact q
      rintro rfl
      rcases hc with rfl | hc
      · rw [hCf] at e; cases e
      · rw [hCf] at hc; cases hc
  · obtain ⟨f0, f1, f2, f3, f4, f5⟩ := hf b hb
    exact ⟨f3, f1, f4, f5⟩
end

def PTs (X : Cx) (ifs : List Expr) (t : TT) : Prop :=
  ∀ (pins : List (Addr × Obj)) (s : Shared) (σ : St) (H : Hp) (Q : Bool → Hp → Prop), Inv X pins σ H s → t σ H Q →
    wpAny (model X.prog X.w) X.A (forIn ifs true fun c r => if r = true then do let ok ← isTrue c X.env (eval c X.env); pure (ForInStep.yield ok) else pure (ForInStep.yield r)) (TP X pins σ Q) X.xe s
def tYes : TT := fun _ H Q => Q true H
theorem pts_nil {X : Cx} : PTs X [] tYes := fun _ _ _ H _ I h => wpAny_tests_nil ⟨H, I, h⟩
theorem pts_one {X : Cx} {c : Expr} {t : TT} (h : PT X c t) : PTs X [c] t := fun pins s σ H Q I q => wpAny_tests_one (h pins s σ H Q I q)

/-- [elt for tg in iter if tests]: W tells, by the turn, a measure, the items so far and the heap, what holds -/
def tComp (wi : TI) (g : TG) (tt : TT) (te : TE) (n : Nat) (js : List Nat) : TE := fun σ H Q => wi σ H fun J H1 =>
  ∃ W : Nat → Nat → List V → Hp → Prop, (∃ m, W 0 m [] H1) ∧ ∀ i m ys H, W i m ys H →
    (J.stop i H ∧ ∀ p, H p = none → Q (.ref p) (upd H p (.lst ys))) ∨
    (J.go i H ∧ ∀ x H', J.yld i H x H' → g x (blk n σ js) H' fun σ2 H2 => tt σ2 H2 fun b H3 =>
      if b = true then te σ2 H3 fun y H4 => ys.length < sizeLine ∧ ∃ m', m' < m ∧ W (i + 1) m' (ys ++ [y]) H4 else ∃ m', m' < m ∧ W (i + 1) m' ys H3)

section
variable {X : Cx} {tg iter elt : Expr} {ifs : List Expr} {scope : Scope} {pos : Pos} {wi : TI} {g : TG} {tt : TT} {te : TE} {tn cn : List Str} {js : List Nat}
/-- the context of a block from which no exception comes -/
abbrev compX (X : Cx) (scope : Scope) (N' : List Str) (C : Addr) (s₂ : Shared) (H₂ : Hp) (fp : List Addr) : Cx := compCx X scope N' C s₂ H₂ fp fun _ _ => False

theorem nofail {α : Type} {M : Model} {A : Around} {m : Sem α} {Q : α → Shared → Prop} {E : Value → Shared → Prop} {s : Shared} (h : wpAny M A m Q (fun _ _ => False) s) : wpAny M A m Q E s := wpAny_mono h (fun _ _ q => q) fun _ _ z => z.elim

theorem comp_block {pins : List (Addr × Obj)} {σ : St} {H₂ : Hp} {s₂ : Shared} {it : Addr} {fp : List Addr} {tnx : Nat → Heap → Prop} {J : It} {E : Value → Shared → Prop} {RR : Value → Addr → Result → Shared → Prop} {W : Nat → Nat → List V → Hp → Prop} {m0 : Nat}
    (hc : X.calm = true) (S : CompSc X scope tn cn js)
    (hg : ∀ C s₂ H₂ fp, PG (compX X scope (tn ++ cn) C s₂ H₂ fp) tg g) (ht : ∀ C s₂ H₂ fp, PTs (compX X scope (tn ++ cn) C s₂ H₂ fp) ifs tt) (he : ∀ C s₂ H₂ fp, PE (compX X scope (tn ++ cn) C s₂ H₂ fp) elt te)
    (I2 : Inv X pins σ H₂ s₂) (T : Turn X.prog X.w X.K tg J fp it tnx) (st2 : tnx 0 s₂.heap) (f2 : ∀ b ∈ fp, FpOk X pins H₂ b) (w0 : W 0 m0 [] H₂)
    (turn : ∀ i m ys H, W i m ys H → (J.stop i H ∧ ∀ C D s its n σ', s₂.heap.objs.size ≤ C → s₂.heap.objs.size ≤ D → D ≠ C → Vals ys its → ys.length ≤ sizeLine →
        Inv (compX X scope (tn ++ cn) C s₂ H₂ fp) [(D, { cls := .type "list", data := .seq its.toArray n })] σ' H s → RR (.ref D) C (.ok .next) s) ∨
      (J.go i H ∧ ∀ x H', J.yld i H x H' → g x (blk tn.length σ js) H' fun σ2 H2 => tt σ2 H2 fun b H3 =>
        if b = true then te σ2 H3 fun y H4 => ys.length < sizeLine ∧ ∃ m', m' < m ∧ W (i + 1) m' (ys ++ [y]) H4 else ∃ m', m' < m ∧ W (i + 1) m' ys H3)) :
    wpAny (model X.prog X.w) X.A (newList []) (fun acc s₃ => wpAny (model X.prog X.w) X.A (newFunctionEnv scope X.env.globals (closL X.env.cells scope.names []) [] X.env.qual none .none (some X.env)) (fun cenv s₄ =>
      codeAny (model X.prog X.w) X.A (.compStart (.ListComp elt [⟨tg, iter, ifs, 0⟩] scope pos) 0 (.ref it) acc { cenv with scope := relabel scope X.env }) (RR acc cenv.locals) s₄) E s₃) E s₂ := by
  refine wpAny_newObj_type (wpAny_newFunctionEnv S.nocell (by intro y hy; simp at hy) (fun h₁ hns₁ hsb₁ => ?_) S.kind)
  dsimp only at hns₁ hsb₁ ⊢
  generalize hH2 : s₂.heap.push { cls := .type "list", dict := none, data := .seq ([] : List Value).toArray } = HH at hns₁ hsb₁ ⊢
  have hCs : HH.objs.size = s₂.heap.objs.size + 1 := by rw [← hH2, Heap.size_push]
  have hDC : s₂.heap.objs.size ≠ HH.objs.size := by rw [hCs]; exact Nat.ne_of_lt (Nat.lt_succ_self _)
  have hC : s₂.heap.objs.size ≤ HH.objs.size := by rw [hCs]; exact Nat.le_succ _
  have hD : s₂.heap.objs.size ≤ s₂.heap.objs.size := Nat.le_refl _
  have old : ∀ b o, s₂.heap.get? b = some o → h₁.get? b = some o := fun b o e => hsb₁.extBut b o (by rw [hCs]; exact Nat.ne_of_lt (Nat.lt_succ_of_lt (Heap.lt_size e))) (Heap.get?_push_of_some _ (hH2 ▸ Heap.get?_push_of_some _ e))
  have hacc : h₁.get? s₂.heap.objs.size = some { cls := .type "list", dict := none, data := .seq ([] : List Value).toArray } := hsb₁.extBut _ _ hDC (Heap.get?_push_of_some _ (hH2 ▸ Heap.get?_push_size _ rfl))
  have hob := T.obj _ _ st2
  have I3 : Inv (compX X scope (tn ++ cn) HH.objs.size s₂ H₂ fp) [(s₂.heap.objs.size, { cls := .type "list", dict := none, data := .seq ([] : List Value).toArray })] (blk tn.length σ js) H₂ { s₂ with heap := h₁, toks := s₂.toks + ([] : List (Str × Value)).length } :=
    comp_start S I2 hC hD hDC f2 hob old hns₁ hacc (fun v z => by cases z)
  have st3 : tnx 0 h₁ := T.keep _ _ _ st2 fun b hb o e => old b o e
  generalize hX' : compX X scope (tn ++ cn) HH.objs.size s₂ H₂ fp = X' at I3
  generalize hs3 : ({ s₂ with heap := h₁, toks := s₂.toks + ([] : List (Str × Value)).length } : Shared) = s3 at I3 ⊢
  have st3' : tnx 0 s3.heap := by rw [← hs3]; exact st3
  -- what the block says of its iterator
  have stat : ∀ {pins' : List (Addr × Obj)} {H' : Hp}, (∀ b ∈ fp, H' b = none) → (∀ p ∈ pins', p.1 = s₂.heap.objs.size) → ∀ b ∈ fp, FpOk X' pins' H' b := fun {pins' H'} hn hp b hb => by
    subst hX'
    obtain ⟨o, e, _⟩ := hob b hb
    obtain ⟨f0, f1, f2', f3, f4, f5⟩ := f2 b hb
    refine ⟨hn b hb, Nat.ne_of_lt (Nat.lt_of_lt_of_le (Heap.lt_size e) hC), fun z => (List.mem_cons.mp (I2.stkSub b z)).elim f1 f2', .inl hb, fun x c h => f4 x c (closL_sub _ [] (S.clos I2.ok) (fun _ z => by cases z) h), fun p hpp => ?_⟩
    have : p ∈ pins' := by
      have q : p ∈ ([] : List (Addr × Obj)) ++ pins' := hpp
      simpa using q
    rw [hp p this]
    exact Nat.ne_of_gt (Heap.lt_size e)
  have loop : codeAny (model X.prog X.w) X.A (.compLoop (.ListComp elt [⟨tg, iter, ifs, 0⟩] scope pos) 0 (.ref it) (.ref s₂.heap.objs.size) X'.env) (RR (.ref s₂.heap.objs.size) HH.objs.size) s3 := by
    refine compLoop_any (fun k s' => ∃ i ys its n H', Inv X' [(s₂.heap.objs.size, { cls := .type "list", data := .seq its n })] (blk tn.length σ js) H' s' ∧ Vals ys its.toList ∧ ys.length ≤ sizeLine ∧ tnx i s'.heap ∧ (∀ b ∈ fp, H' b = none) ∧ W i k ys H') ?_ m0
      ⟨0, [], #[], 0, H₂, I3, .nil, Nat.zero_le _, st3', fun b hb => (f2 b hb).1, w0⟩
    rintro k s4 ⟨i, ys, its, n, H4, I4, hv4, hz4, st4, fr4, w4⟩
    have eP : X'.prog = X.prog := by rw [← hX']; rfl
    have eW : X'.w = X.w := by rw [← hX']; rfl
    have eK : X'.K = X.K := by rw [← hX']; rfl
    have eA : X'.A = X.A := by rw [← hX']; rfl
    have eC : X'.calm = true := by rw [← hX']; exact hc
    have eE : X'.xe = fun _ _ => False := by rw [← hX']; rfl
    rcases turn i k ys H4 w4 with ⟨stop, qn⟩ | ⟨go, step⟩
    · have z := T.done X' eP eW eK eC i _ s4 (blk tn.length σ js) H4 (fun _ _ => False) I4 (stat fr4 (fun p hp => by simp at hp; rw [hp])) st4 stop
      rw [eA] at z
      refine nofail (thn z fun r s5 ⟨hr, I5⟩ => ?_)
      subst hr
      subst hX'
      exact qn _ _ s5 its.toList n _ hC hD hDC hv4 hz4 (by simpa using I5)
    · have z := T.item X' eP eW eK eC i _ s4 (blk tn.length σ js) H4 (fun _ _ => False) I4 (stat fr4 (fun p hp => by simp at hp; rw [hp])) st4 go
      rw [eA] at z
      refine nofail (thn z fun r s5 ⟨u, hr, h5⟩ => ?_)
      subst hr
      refine nofail (thn h5 fun _ s6 ⟨x, H6, I6, r6, y6, st6, fr6⟩ => ?_)
      have I6' := I6.pinned (stat fr6 (fun p hp => by simp at hp; rw [hp])) (T.obj _ _ st6)
      have hg' : PG X' tg g := by rw [← hX']; exact hg _ _ _ _
      have ht' : PTs X' ifs tt := by rw [← hX']; exact ht _ _ _ _
      have he' : PE X' elt te := by rw [← hX']; exact he _ _ _ _
      have z7 := hg' _ s6 _ H6 x u _ I6' r6 (step x H6 y6)
      rw [eP, eW, eA, eE] at z7
      refine nofail (thn z7 fun _ s7 ⟨σ7, H7, I7, q7⟩ => ?_)
      have z8 := ht' _ s7 σ7 H7 _ I7 q7
      rw [eP, eW, eA, eE] at z8
      refine nofail (thn z8 fun ok s8 ⟨H8, I8, q8⟩ => ?_)
      have key : ∀ {σ9 : St} {H9 : Hp} {s9 : Shared} {its' : Array Value} {n' : Nat}, Inv X' ([(s₂.heap.objs.size, { cls := .type "list", data := .seq its' n' })] ++ pinsAt fp s6.heap) σ9 H9 s9 →
          Inv X' [(s₂.heap.objs.size, { cls := .type "list", data := .seq its' n' })] (blk tn.length σ js) H9 s9 ∧ tnx (i + 1) s9.heap ∧ ∀ b ∈ fp, H9 b = none := fun {σ9 H9 s9 its' n'} I9 => by
        refine ⟨?_, T.keep _ _ _ st6 fun b hb o e => (I9.pin (b, o) (List.mem_append_right _ (List.mem_append_right _ (mem_pinsAt hb e)))).1, fun b hb => ?_⟩
        · have I9' := I9.unpinned
          subst hX'
          exact comp_again S I2 f2 I9'
        · obtain ⟨o, e, d⟩ := T.obj _ _ st6 b hb
          exact (I9.pin (b, o) (List.mem_append_right _ (List.mem_append_right _ (mem_pinsAt hb e)))).2.1
      cases ok with
      | false =>
        rw [if_neg Bool.false_ne_true] at q8 ⊢
        obtain ⟨m', hm, w8⟩ := q8
        obtain ⟨I9, st9, fr9⟩ := key I8
        exact ⟨m', hm, i + 1, ys, its, n, H8, I9, hv4, hz4, st9, fr9, w8⟩
      | true =>
        rw [if_pos rfl] at q8 ⊢
        have z9 := he' _ s8 σ7 H8 _ I8 q8
        rw [eP, eW, eA, eE] at z9
        refine nofail (thn z9 fun v s9 ⟨y, H9, I9, r9, hl9, m', hm, w9⟩ => ?_)
        have pd := I9.pin (s₂.heap.objs.size, { cls := .type "list", data := .seq its n }) (List.mem_append_right _ (List.mem_append_left _ List.mem_cons_self))
        have hpl : s9.heap.PlainList s₂.heap.objs.size its := ⟨n, pd.1⟩
        have hlen : its.size = ys.length := by rw [hv4.length]; simp
        refine wpAny_list_append_plain (hsz := by omega) hpl fun h10 hl10 hs10 => ?_
        obtain ⟨n10, e10⟩ := hl10
        -- the list's pin goes, the list turns, its pin comes back
        have I10 : Inv X' (pinsAt fp s6.heap) σ7 H9 s9 := I9.pins_of fun p hp => I9.pin p (List.mem_append_right _ (List.mem_append_right _ hp))
        have nD : ∀ b ∈ fp, b ≠ s₂.heap.objs.size := fun b hb => by
          obtain ⟨o, e, _⟩ := hob b hb
          exact Nat.ne_of_lt (Heap.lt_size e)
        have I11 : Inv X' (pinsAt fp s6.heap) σ7 H9 { s9 with heap := h10 } := by
          refine I10.turned (t' := s9.toks) (it := s₂.heap.objs.size) (fun b o hb e => (hs10.2 b hb).trans e) pd.2.1 pd.2.2.1 ?_ ?_ ?_
          · subst hX'; exact .inr (Nat.le_refl _)
          · subst hX'
            intro x c h
            obtain ⟨v', o', q, _⟩ := I2.cell x c (closL_sub _ [] (S.clos I2.ok) (fun _ z => by cases z) h)
            exact Nat.ne_of_lt (Heap.lt_size q)
          · intro p hp
            have hp' : p ∈ pinsAt fp s6.heap := by
              subst hX'
              have q : p ∈ ([] : List (Addr × Obj)) ++ pinsAt fp s6.heap := hp
              simpa using q
            exact nD _ (of_pinsAt hp').1
        have I12 : Inv X' ([(s₂.heap.objs.size, { cls := .type "list", data := .seq (its.push v) n10 })] ++ pinsAt fp s6.heap) σ7 H9 { s9 with heap := h10 } := I11.pins_of fun p hp => by
          rcases List.mem_append.mp hp with q | q
          · have e : p = (s₂.heap.objs.size, { cls := .type "list", data := .seq (its.push v) n10 }) := by simpa using q
            subst e
            exact ⟨e10, pd.2.1, pd.2.2.1, pd.2.2.2.1, fun v z => by cases z⟩
          · exact I11.pin p (List.mem_append_right _ q)
        obtain ⟨J1, J2, J3⟩ := key I12
        refine ⟨m', hm, i + 1, ys ++ [y], its.push v, n10, H9, J1, ?_, ?_, J2, J3, w9⟩
        · have : (its.push v).toList = its.toList ++ [v] := by simp
          rw [this]
          exact hv4.append (.cons r9 .nil)
        · rw [List.length_append, List.length_singleton]
          omega
  have eEnv : ({ newEnv scope HH.objs.size X.env.globals (closL X.env.cells scope.names []) X.env.qual none .none (some X.env) builtinsNs with scope := relabel scope X.env } : Env) = X'.env := by rw [← hX']; rfl
  have loop2 := loop
  rw [← eEnv] at loop loop2
  exact codeAny_compStart_list loop (T.self X.A 0 s3 _ _ st3' loop2)

theorem pe_comp (hc : X.calm = true) (S : CompSc X scope tn cn js) (hi : PI X tg iter wi)
    (hg : ∀ C s₂ H₂ fp, PG (compX X scope (tn ++ cn) C s₂ H₂ fp) tg g) (ht : ∀ C s₂ H₂ fp, PTs (compX X scope (tn ++ cn) C s₂ H₂ fp) ifs tt) (he : ∀ C s₂ H₂ fp, PE (compX X scope (tn ++ cn) C s₂ H₂ fp) elt te)
    (hs : ∀ x, foldedSetIterable iter X.env x = pure x := by intro _; rfl) :
    PE X (.ListComp elt [⟨tg, iter, ifs, 0⟩] scope pos) (tComp wi g tt te tn.length js) := by
  intro pins s σ H Q I h
  rw [eval_ListComp]
  refine wpAny_comprehension_free (use := none) (cl := closL X.env.cells scope.names []) rfl hs (closureFor_eq (S.clos I.ok)) S.kind S.names (thn (hi pins s σ H _ I h) fun v s1 h1 => thn h1 fun itv s2 h2 => ?_)
  obtain ⟨it, fp, tnx, J, H2, e, I2, T, st2, f2, W, ⟨m0, w0⟩, turn⟩ := h2
  subst e
  refine comp_block (RR := fun acc C => compPost (model X.prog X.w) X.A X.xe none (EP X pins σ Q) acc C) (W := W) (m0 := m0) hc S hg ht he I2 T st2 f2 w0 fun i m ys H w => ?_
  rcases turn i m ys H w with ⟨stop, qn⟩ | r
  · refine .inl ⟨stop, fun C D s its n σ' hC hD hDC hv hz I' => ?_⟩
    obtain ⟨m', hn, _⟩ := id I'.loc
    refine ⟨m', hn, fun h' hs' => ?_⟩
    have pd := I'.pin (D, { cls := .type "list", data := .seq its.toArray n }) (List.mem_append_right _ List.mem_cons_self)
    exact ⟨.ref D, _, comp_end S I2 hC hD hDC f2 I' hv hz hs', rfl, qn D pd.2.1⟩
  · exact .inr r
end
end L2


namespace L2
open PySem PySem.Spec PyProof.Rows

abbrev S (cs : List Nat) : V := .str (tx cs)
theorem S_inj {a b : List Nat} : S a = S b ↔ a = b := by
  constructor
  · intro h
    exact tx_inj.mp (V.str.inj h)
  · rintro rfl; rfl
section
variable {X : Cx} {pos : Pos}

theorem pe_lit {x : Str} {j : Nat} (cs : List Nat) (h : x = tx cs) : PE X (.Constant (.str x) j pos) (tC (S cs)) := by
  subst h
  exact pe_str

/-! ### texts walked -/
def Its (cs : List Nat) : It := ⟨fun i _ => i < cs.length, fun i H v H' => H' = H ∧ ∃ c, cs[i]? = some c ∧ v = S [c], fun i _ => cs.length ≤ i⟩
theorem iter_ty (x : Str) : strIterType x = "str_ascii_iterator" ∨ strIterType x = "str_iterator" := by
  unfold strIterType
  split
  · exact .inl rfl
  · exact .inr rfl
theorem turn_str {P : Program} {w : World} {K : PySem.W.Frag} {tg : Expr} (it : Addr) (cs : List Nat) (t : Tok) : Turn P w K tg (Its cs) [it] it (fun i h => h.IsStrIter it (strIterType (tx cs)) (tx cs) t i) where
  mem := by simp
  obj := fun i h st b hb => by
    have e : b = it := by simpa using hb
    subst e
    obtain ⟨o, e, c, d⟩ := st
    exact ⟨o, e, fun v z => by rw [d] at z; cases z⟩
  keep := fun i h h' st k => by
    obtain ⟨o, e, r⟩ := st
    exact ⟨o, k it (by simp) o e, r⟩
  item := by
    intro X hP hw hK hc i pins s σ H E I hf st hg
    subst hP hw hK
    obtain ⟨f0, f1, f2, f3, f4, f5⟩ := hf it (by simp)
    have hg : i < cs.length := hg
    have hx : (tx cs).cps[i]? = some cs[i] := by simp [tx, hg]
    have fin : ∀ (h' : Heap), h'.IsStrIter it (strIterType (tx cs)) (tx cs) t (i + 1) → Heap.SameBut it s.heap h' →
        ∃ u, some (Value.str ⟨#[cs[i]]⟩ s.toks) = some u ∧ wpAny (model X.prog X.w) X.A (letOwnedTupleGo tg (.ref it) u) (fun _ s2 => ∃ x H', Inv X pins σ H' s2 ∧ RelV x u ∧ (Its cs).yld i H x H' ∧ s2.heap.IsStrIter it (strIterType (tx cs)) (tx cs) t (i + 1) ∧ ∀ b ∈ [it], H' b = none) E { s with heap := h', toks := s.toks + 1 } := fun h' st' sb => by
      have I1 : Inv X pins σ H { s with heap := h', toks := s.toks + 1 } := I.turned (fun b o hb e => (sb.2 b hb).trans e) f0 f1 f3 f4 f5
      obtain ⟨o, e, hc', d⟩ := id st'
      refine ⟨_, rfl, go_of (s := { s with heap := h', toks := s.toks + 1 }) e hc' d ?_ ⟨S [cs[i]], H, I1, ⟨s.toks, rfl⟩, ⟨rfl, cs[i], by simp [hg], rfl⟩, st', fun b hb => (hf b hb).1⟩⟩
      rcases iter_ty (tx cs) with z | z <;> rw [z] <;> decide
    rcases iter_ty (tx cs) with z | z
    · rw [z] at st
      refine wpAny_pyNext_ascii_item st hx fun h' st' sb => fin h' (by rw [z]; exact st') sb
    · rw [z] at st
      refine wpAny_pyNext_wide_item st hx fun h' st' sb => fin h' (by rw [z]; exact st') sb
  done := by
    intro X hP hw hK hc i pins s σ H E I hf st hg
    subst hP hw hK
    obtain ⟨f0, f1, f2, f3, f4, f5⟩ := hf it (by simp)
    have hg : cs.length ≤ i := hg
    have hx : (tx cs).cps[i]? = none := by simp [tx]; omega
    rcases iter_ty (tx cs) with z | z
    · rw [z] at st
      exact wpAny_pyNext_ascii_end (I.ok.hd hc) st hx fun h' eb => ⟨rfl, I.turned (t' := s.toks) (fun b o hb e => eb b o hb e) f0 f1 f3 f4 f5⟩
    · rw [z] at st
      exact wpAny_pyNext_wide_end (I.ok.hd hc) st hx fun h' eb => ⟨rfl, I.turned (t' := s.toks) (fun b o hb e => eb b o hb e) f0 f1 f3 f4 f5⟩
  self := fun _ i _ _ _ st h => by
    rcases iter_ty (tx cs) with z | z
    · rw [z] at st
      exact wpAny_pyIter_striter_ascii st h
    · rw [z] at st
      exact wpAny_pyIter_striter_wide st h

variable {tg : Expr}
def iStr (tl : TE) : TI := fun σ H R => tl σ H fun v H1 => ∃ cs, v = S cs ∧ R (Its cs) H1
theorem pi_str {l : Expr} {tl : TE} (hl : PE X l tl) : PI X tg l (iStr tl) := by
  intro pins s σ H R I h
  refine thn (hl pins s σ H _ I h) fun v s1 ⟨x, H1, I1, r1, q1⟩ => ?_
  obtain ⟨cs, e, q⟩ := q1
  subst e
  obtain ⟨t, rfl⟩ := r1
  refine wpAny_pyIter_strU ?_
  refine ⟨s1.heap.objs.size, [s1.heap.objs.size], _, _, H1, rfl, I1.kept (t' := s1.toks) fun b o e => Heap.get?_push_of_some _ e, turn_str _ cs t, ⟨_, Heap.get?_push_size _ rfl, rfl, rfl⟩, fun b hb => ?_, q⟩
  have e : b = s1.heap.objs.size := by simpa using hb
  subst e
  exact I1.fpOk (Nat.le_refl _) (I1.hok.fresh (Nat.le_refl _))
/-- a list, a tuple or a text -/
def iAny (K : PySem.W.Frag) (tl : TE) : TI := fun σ H R => tl σ H fun x H1 => (∃ a xs, x = .ref a ∧ SqL K H1 a xs ∧ R (Itl K a) H1) ∨ (∃ a xs, x = .ref a ∧ SqT K H1 a xs ∧ R (Itt K a) H1) ∨ ∃ cs, x = S cs ∧ R (Its cs) H1
theorem pi_any {l : Expr} {tl : TE} (hl : PE X l tl) : PI X tg l (iAny X.K tl) := by
  intro pins s σ H R I h
  refine thn (hl pins s σ H _ I h) fun v s1 ⟨x, H1, I1, r1, q1⟩ => ?_
  rcases q1 with ⟨a, xs, e, hq, q⟩ | ⟨a, xs, e, hq, q⟩ | ⟨cs, e, q⟩
  · subst e
    cases r1
    obtain ⟨its, rv, p, hz⟩ := I1.list hq
    refine wpAny_pyIter_list p.isList ?_
    refine ⟨s1.heap.objs.size, [s1.heap.objs.size], _, _, H1, rfl, I1.kept (t' := s1.toks) fun b o e => Heap.get?_push_of_some _ e, turn_list a _, ⟨_, Heap.get?_push_size _ rfl, rfl, rfl⟩, fun b hb => ?_, q⟩
    have e : b = s1.heap.objs.size := by simpa using hb
    subst e
    exact I1.fpOk (Nat.le_refl _) (I1.hok.fresh (Nat.le_refl _))
  · have hpi := pi_tup (X := X) (tg := tg) (l := l) (tl := fun _ H Q => Q (.ref a) H)
    subst e
    cases r1
    obtain ⟨its, rv, p, hz⟩ := I1.tuple hq
    refine wpAny_pyIter_tuple (show s1.heap.IsTuple a its.toArray from p) ?_
    refine ⟨s1.heap.objs.size, [s1.heap.objs.size], _, _, H1, rfl, I1.kept (t' := s1.toks) fun b o e => Heap.get?_push_of_some _ e, turn_tuple a _, ⟨_, Heap.get?_push_size _ rfl, rfl, rfl⟩, fun b hb => ?_, q⟩
    have e : b = s1.heap.objs.size := by simpa using hb
    subst e
    exact I1.fpOk (Nat.le_refl _) (I1.hok.fresh (Nat.le_refl _))
  · subst e
    obtain ⟨t, rfl⟩ := r1
    refine wpAny_pyIter_strU ?_
    refine ⟨s1.heap.objs.size, [s1.heap.objs.size], _, _, H1, rfl, I1.kept (t' := s1.toks) fun b o e => Heap.get?_push_of_some _ e, turn_str _ cs t, ⟨_, Heap.get?_push_size _ rfl, rfl, rfl⟩, fun b hb => ?_, q⟩
    have e : b = s1.heap.objs.size := by simpa using hb
    subst e
    exact I1.fpOk (Nat.le_refl _) (I1.hok.fresh (Nat.le_refl _))

/-! ### operations on texts -/
def rAddS : R2 := fun x y H Q => ∃ a b, x = S a ∧ y = S b ∧ a.length + b.length ≤ sizeLine ∧ Q (S (a ++ b)) H
theorem op_addS : OpR X (binaryOp .Add) rAddS := by
  intro pins s σ H x y v u Q I rx ry h
  obtain ⟨a, b, rfl, rfl, hz, q⟩ := h
  refine op_add_str pins s σ H _ _ v u Q I rx ry ⟨tx a, tx b, rfl, rfl, by rw [tx_len, tx_len]; exact hz, ?_⟩
  rw [tx_app]
  exact q
def rAddX : R2 := fun x y H Q => rI0 (fun i j => .int (i + j)) x y H Q ∨ rAddS x y H Q ∨ rCat x y H Q
theorem op_addX : OpR X (binaryOp .Add) rAddX := op_add.or (op_addS.or op_cat)
def rInS (neg : Bool) : R2 := fun x y H Q => ∃ c b, x = S [c] ∧ y = S b ∧ Q (.bl (neg != decide (c ∈ b))) H
theorem op_inS : OpR X (compareOp .In) (rInS false) := by
  intro pins s σ H x y v u Q I rx ry h
  obtain ⟨c, b, rfl, rfl, q⟩ := h
  refine op_in_str pins s σ H _ _ v u Q I rx ry ⟨tx [c], tx b, rfl, rfl, ?_⟩
  have e := StrLaws.found_one (tx b) c
  rw [tx_cps] at e
  rw [show tx [c] = (⟨#[c]⟩ : Str) from rfl, e]
  simpa using q
theorem op_notInS : OpR X (compareOp .NotIn) (rInS true) := by
  intro pins s σ H x y v u Q I rx ry h
  obtain ⟨c, b, rfl, rfl, q⟩ := h
  refine op_notin_str pins s σ H _ _ v u Q I rx ry ⟨tx [c], tx b, rfl, rfl, ?_⟩
  have e := StrLaws.found_one (tx b) c
  rw [tx_cps] at e
  rw [show tx [c] = (⟨#[c]⟩ : Str) from rfl, e]
  simpa using q
def rInX (K : PySem.W.Frag) (neg : Bool) : R2 := fun x y H Q => rInS neg x y H Q ∨ rIn K neg x y H Q
theorem op_inX : OpR X (compareOp .In) (rInX X.K false) := op_inS.or op_in_seq
theorem op_notInX : OpR X (compareOp .NotIn) (rInX X.K true) := op_notInS.or op_notIn_seq
/-- x is True, x is False -/
def rIxSt : R2 := fun x y H Q => ∃ a i c, x = S a ∧ y = .int i ∧ a.length ≤ sizeLine ∧ atI a i = some c ∧ Q (S [c]) H
theorem ix_S : IxR X rIxSt := by
  intro value slice pins s σ H x y v u Q I rx ry h hs
  obtain ⟨a, i, c, rfl, rfl, hz, he, q⟩ := h
  exact ix_str value slice pins s σ H _ _ v u Q I rx ry ⟨tx a, i, c, rfl, rfl, by rw [tx_len]; exact hz, by rw [tx_cps]; exact he, q⟩ hs
def rIxX (K : PySem.W.Frag) : R2 := fun x y H Q => rIxL K x y H Q ∨ rIxT K x y H Q ∨ rIxSt x y H Q
theorem ix_X : IxR X (rIxX X.K) := ix_list.or (ix_tup.or ix_S)
def rSlS : V → Option Int → Option Int → Hp → VK → Prop := fun x lo hi H Q => ∃ a, x = S a ∧ a.length ≤ sizeLine ∧ Q (S (cutL a lo hi)) H
theorem sl_S : SlR X rSlS := by
  intro pins s σ H x v vl vu lo hi sl Q I rx hs pl pu h
  obtain ⟨a, rfl, hz, q⟩ := h
  obtain ⟨t, rfl⟩ := rx
  refine ⟨"str", _, F.slot_str_getitem.lookup, typeIs_str _ _ _, ?_⟩
  have fin : ∀ t' k, EP X pins σ Q (.str (Txt.slice (tx a) lo hi) t') { s with toks := k } := fun t' k => ⟨S (cutL a lo hi), H, I.tok _, ⟨t', by rw [slice_tx]⟩, q⟩
  have hle : (Txt.slice (tx a) lo hi).length ≤ sizeLine := Nat.le_trans (Txt.slice_le _ _ _) (by rw [tx_len]; exact hz)
  cases pl with
  | none =>
    cases pu with
    | none => exact wpAny_getItem_str_slice (l := none) (u := none) (st := none) hs rfl (post_val_or_str ⟨hle, fin⟩)
    | int j uj => exact wpAny_getItem_str_slice (l := none) (u := some (j, uj)) (st := none) hs rfl (post_val_or_str ⟨hle, fin⟩)
  | int i ui =>
    cases pu with
    | none => exact wpAny_getItem_str_slice (l := some (i, ui)) (u := none) (st := none) hs rfl (post_val_or_str ⟨hle, fin⟩)
    | int j uj => exact wpAny_getItem_str_slice (l := some (i, ui)) (u := some (j, uj)) (st := none) hs rfl (post_val_or_str ⟨hle, fin⟩)
def rSlX (K : PySem.W.Frag) : V → Option Int → Option Int → Hp → VK → Prop := fun x lo hi H Q => rSlS x lo hi H Q ∨ rSlL K x lo hi H Q ∨ rSlT K x lo hi H Q
theorem sl_X : SlR X (rSlX X.K) := sl_S.or (sl_list.or sl_tup)

/-! ### calls -/
def rLenX (K : PySem.W.Frag) : List V → Hp → VK → Prop := fun xs H Q => (∃ a, xs = [S a] ∧ a.length ≤ sizeLine ∧ Q (.int a.length) H) ∨ ∃ p ys, xs = [.ref p] ∧ (SqL K H p ys ∨ SqT K H p ys) ∧ Q (.int ys.length) H
theorem call_lenX : CallR X (.builtin "len") (rLenX X.K) := by
  intro pins s σ H xs us Q I rs q
  rcases q with ⟨a, rfl, hz, q⟩ | q
  · exact call_len_str pins s σ H _ us Q I rs ⟨tx a, rfl, by rw [tx_len]; exact hz, by rw [tx_len]; exact q⟩
  · exact call_len_seq pins s σ H xs us Q I rs q
theorem tx_num (n : Nat) : (toString (n : Int) : Str) = tx (figs n) := by
  rw [← tx_codes (toString (n : Int) : Str)]
  congr 1
  exact PySem.W.KIN.signs_num n
def rStrI : List V → Hp → VK → Prop := fun xs H Q => ∃ n : Nat, xs = [.int n] ∧ n < 10 ^ 10 ∧ Q (S (figs n)) H
theorem call_strX : CallR X (.type "str") rStrI := by
  intro pins s σ H xs us Q I rs h
  obtain ⟨n, rfl, hn, q⟩ := h
  refine call_str_int pins s σ H _ us Q I rs ⟨(n : Int), rfl, ?_, ?_⟩
  · have h1 : n.log2 < 40 := by
      by_cases h0 : n = 0
      · subst h0; decide
      · exact (Nat.log2_lt h0).mpr (Nat.lt_trans hn (by decide))
    show (n : Int).natAbs.log2 < 1920
    rw [Int.natAbs_natCast]
    omega
  · rw [tx_num]
    exact q
def rIntX : List V → Hp → VK → Prop := fun xs H Q => (∃ a, xs = [S a] ∧ a.length ≤ 640 ∧ a ≠ [] ∧ a.all figB = true ∧ Q (.int (valL a : Nat)) H) ∨ (∃ k, xs = [.bl k] ∧ Q (.int (if k then 1 else 0)) H)
theorem call_intX : CallR X (.type "int") rIntX := by
  intro pins s σ H xs us Q I rs h
  rcases h with ⟨a, rfl, hl, hne, hd, q⟩ | h
  · obtain ⟨u, rfl, t, rfl⟩ := vals1 rs
    have hd' : PySem.NumText.AllDigits (tx a).cps.toList := by
      rw [tx_cps]
      intro c hc
      have := List.all_eq_true.mp hd c hc
      unfold figB at this
      rw [Bool.and_eq_true, decide_eq_true_eq, decide_eq_true_eq] at this
      exact this
    have e := PySem.intText_digits hd' (by rw [tx_cps]; exact hne) (by rw [tx_len]; omega)
    rw [tx_cps] at e
    exact PySem.W.KIN.call_text e (by rw [tx_len]; exact hl) ⟨.int (valL a : Nat), H, I.tok _, ⟨_, rfl⟩, q⟩
  · exact call_int1 pins s σ H xs us Q I rs (.inr h)
/-- all, any of a list of bools -/
theorem all_run (bs : List Bool) : ∀ (its : List Value), Vals (bs.map V.bl) its → its = bs.map Value.bool := by
  induction bs with
  | nil => intro its r; cases r; rfl
  | cons b bs ih =>
    intro its r
    cases r with
    | cons r1 r2 =>
      rw [ih _ r2]
      cases r1
      rfl
theorem range_all (bs : List Bool) : ((List.range bs.length).all fun i => bs.getD i false) = bs.all id := by
  rw [Bool.eq_iff_iff, List.all_eq_true, List.all_eq_true]
  constructor
  · intro h b hb
    obtain ⟨i, hi⟩ := List.getElem?_of_mem hb
    have hl : i < bs.length := (List.getElem?_eq_some_iff.mp hi).1
    have := h i (List.mem_range.mpr hl)
    rw [List.getD_eq_getElem?_getD, hi] at this
    exact this
  · intro h i hi
    have hl := List.mem_range.mp hi
    have := h bs[i] (List.getElem_mem hl)
    rw [List.getD_eq_getElem?_getD, List.getElem?_eq_getElem hl]
    exact this
theorem range_any (bs : List Bool) : ((List.range bs.length).any fun i => bs.getD i false) = bs.any id := by
  rw [Bool.eq_iff_iff, List.any_eq_true, List.any_eq_true]
  constructor
  · rintro ⟨i, hi, h⟩
    have hl := List.mem_range.mp hi
    rw [List.getD_eq_getElem?_getD, List.getElem?_eq_getElem hl] at h
    exact ⟨bs[i], List.getElem_mem hl, h⟩
  · rintro ⟨b, hb, h⟩
    obtain ⟨i, hi⟩ := List.getElem?_of_mem hb
    have hl : i < bs.length := (List.getElem?_eq_some_iff.mp hi).1
    refine ⟨i, List.mem_range.mpr hl, ?_⟩
    rw [List.getD_eq_getElem?_getD, hi]
    exact h
def rAllX (K : PySem.W.Frag) (f : List Bool → Bool) : List V → Hp → VK → Prop := fun xs H Q => ∃ p bs, xs = [.ref p] ∧ SqL K H p (bs.map V.bl) ∧ Q (.bl (f bs)) H
theorem bools_walk {pins : List (Addr × Obj)} {σ : St} {H : Hp} {s : Shared} {p : Addr} {bs : List Bool} {Q : Value → Shared → Prop} {E : Value → Shared → Prop} {f : (Nat → Bool) → Bool} (hc : X.calm = true) (I : Inv X pins σ H s) (hq : SqL X.K H p (bs.map V.bl))
    (q : ∀ h' tk, (∀ b o, s.heap.get? b = some o → h'.get? b = some o) → Q (.bool (f fun i => bs.getD i false)) { s with heap := h', toks := tk }) :
    wpAny (model X.prog X.w) X.A.in1 (pyIter (.ref p)) (fun it s₂ => ∃ I fp wr n P St tr, it = .ref I ∧ Walks X.prog X.w X.A.in1 I fp wr n P St ∧ St 0 s₂.heap ∧ TruthOf X.prog X.w X.A.in1 P tr ∧
      n = bs.length ∧ tr = (fun i => bs.getD i false) ∧ ∀ h' tk, (∀ b o, b ∉ wr → s₂.heap.get? b = some o → h'.get? b = some o) → Q (.bool (f tr)) { s₂ with heap := h', toks := tk }) E s := by
  obtain ⟨its, rv, pl, hz⟩ := I.list hq
  have e := all_run bs its rv
  subst e
  refine wpAny_pyIter_list pl.isList ?_
  have hlt : p < s.heap.objs.size := pl.lt
  have hh : X.A.in1.handled = none := I.ok.hd hc
  refine ⟨s.heap.objs.size, _, _, _, _, _, fun i => bs.getD i false, rfl, Walks.list hh _ p (Nat.ne_of_lt hlt) (bs.map Value.bool).toArray, ⟨⟨_, Heap.get?_push_size _ rfl, rfl, rfl⟩, (pl.keeps fun b o e => Heap.get?_push_of_some _ e).isList⟩, ?_, by simp, rfl, fun h' tk k => ?_⟩
  · intro i v s' Q' E' hv hq'
    have : v = Value.bool (bs.getD i false) := by
      have hv' : (bs.map Value.bool)[i]? = some v := by simpa using hv
      rw [List.getElem?_map] at hv'
      rw [List.getD_eq_getElem?_getD]
      cases e : bs[i]? with
      | none => rw [e] at hv'; cases hv'
      | some b => rw [e] at hv'; exact (Option.some.inj hv').symm
    subst this
    exact wpAny_truthy_bool hq'
  · refine q h' tk fun b o e => k b o (fun z => ?_) (Heap.get?_push_of_some _ e)
    have h1 := Heap.lt_size e
    have h2 : b = s.heap.objs.size := by simpa using z
    rw [h2] at h1
    exact Nat.lt_irrefl _ h1
theorem call_allX (hc : X.calm = true) : CallR X (.builtin "all") (rAllX X.K fun bs => bs.all id) := by
  intro pins s σ H xs us Q I rs h
  obtain ⟨p, bs, rfl, hq, q⟩ := h
  obtain ⟨u, rfl, rx⟩ := vals1 rs
  cases rx
  have z := bools_walk (f := fun tr => (List.range bs.length).all tr) (Q := EP X pins σ Q) (E := X.xe) hc I hq fun h' tk k => ⟨.bl _, H, I.kept k, rfl, by rw [range_all]; exact q⟩
  refine call_all_walk (wpAny_mono z (fun it s₂ z2 => ?_) fun _ _ z => z)
  obtain ⟨I', fp, wr, n, P, St, tr, e1, W, st, ht, en, et, hq'⟩ := z2
  exact ⟨I', fp, wr, n, P, St, tr, e1, W, st, ht, fun h' tk k => by rw [en]; exact hq' h' tk k⟩
theorem call_anyX (hc : X.calm = true) : CallR X (.builtin "any") (rAllX X.K fun bs => bs.any id) := by
  intro pins s σ H xs us Q I rs h
  obtain ⟨p, bs, rfl, hq, q⟩ := h
  obtain ⟨u, rfl, rx⟩ := vals1 rs
  cases rx
  have z := bools_walk (f := fun tr => (List.range bs.length).any tr) (Q := EP X pins σ Q) (E := X.xe) hc I hq fun h' tk k => ⟨.bl _, H, I.kept k, rfl, by rw [range_any]; exact q⟩
  refine call_any_walk (wpAny_mono z (fun it s₂ z2 => ?_) fun _ _ z => z)
  obtain ⟨I', fp, wr, n, P, St, tr, e1, W, st, ht, en, et, hq'⟩ := z2
  exact ⟨I', fp, wr, n, P, St, tr, e1, W, st, ht, fun h' tk k => by rw [en]; exact hq' h' tk k⟩
/-- isinstance(x, c) -/
theorem call_isi : CallR X (.builtin "isinstance") (fun xs H Q => ∃ x c cv t b, xs = [x, c] ∧ (∀ v, RelV c v → v = cv) ∧ TyOf X.K H x t ∧ PySem.W.kitOne X.K t cv = some b ∧ Q (.bl b) H) := by
  intro pins s σ H xs us Q I rs h
  obtain ⟨x, c, cv, t, b, rfl, hc, ty, e, q⟩ := h
  obtain ⟨u, w', rfl, rx, rc⟩ := vals2 rs
  have ec := hc _ rc
  subst ec
  exact isinst_ok I rx ty e fun tk => ⟨.bl b, H, I.tok tk, rfl, q⟩

/-! ### methods of texts -/
theorem mt_startswith : MtR X "str.startswith" (fun x xs H Q => ∃ a b, x = S a ∧ xs = [S b] ∧ Q (.bl (b.isPrefixOf a)) H) := by
  intro pins s σ H x xs v us Q I rx rs h
  obtain ⟨a, b, rfl, rfl, q⟩ := h
  obtain ⟨t, rfl⟩ := rx
  obtain ⟨u, rfl, t', rfl⟩ := vals1 rs
  refine SC.startswith ?_
  rw [starts_tx]
  exact ⟨.bl _, H, I, rfl, q⟩
theorem mt_endswith : MtR X "str.endswith" (fun x xs H Q => ∃ a b, x = S a ∧ xs = [S b] ∧ Q (.bl (b.isSuffixOf a)) H) := by
  intro pins s σ H x xs v us Q I rx rs h
  obtain ⟨a, b, rfl, rfl, q⟩ := h
  obtain ⟨t, rfl⟩ := rx
  obtain ⟨u, rfl, t', rfl⟩ := vals1 rs
  refine SC.endswith ?_
  rw [ends_tx]
  exact ⟨.bl _, H, I, rfl, q⟩
end
/-! ### the forms one uses -/
theorem for_str {cs : List Nat} {g : TG} {tb : TS} {D : Ends} {σ : St} {H : Hp} (Pv : Nat → St → Hp → Prop) (h0 : Pv 0 σ H)
    (hs : ∀ i c σ H, cs[i]? = some c → Pv i σ H → g (S [c]) σ H fun σ2 H2 => tb { D with nx := Pv (i + 1), ct := Pv (i + 1), bk := D.nx } σ2 H2) (hd : ∀ σ H, Pv cs.length σ H → D.nx σ H) :
    ∃ W : Nat → Nat → St → Hp → Prop, (∃ m, W 0 m σ H) ∧ ∀ i m σ H, W i m σ H →
      ((Its cs).stop i H ∧ D.nx σ H) ∨ ((Its cs).go i H ∧ ∃ N : St → Hp → Prop, (∀ σ' H', N σ' H' → ∃ m', m' < m ∧ W (i + 1) m' σ' H') ∧ ∀ x H', (Its cs).yld i H x H' → g x σ H' fun σ2 H2 => tb { D with nx := N, ct := N, bk := D.nx } σ2 H2) := by
  refine ⟨fun i m σ H => m = cs.length - i ∧ i ≤ cs.length ∧ Pv i σ H, ⟨cs.length, by simp, Nat.zero_le _, h0⟩, ?_⟩
  rintro i m σ H ⟨rfl, hi, p⟩
  by_cases hlt : i < cs.length
  · refine .inr ⟨hlt, Pv (i + 1), fun σ' H' p' => ⟨cs.length - (i + 1), by omega, rfl, hlt, p'⟩, fun x H' y => ?_⟩
    obtain ⟨e, c, hc, y⟩ := y
    subst e y
    exact hs i c σ _ hc p
  · have e : i = cs.length := by omega
    subst e
    exact .inl ⟨Nat.le_refl _, hd σ H p⟩

/-! ### the same with the written part named -/
section
variable {X : Cx} {K : PySem.W.Frag} {pos : Pos} {tg : Expr}
theorem k_inX (hK : X.K = K := by rfl) : OpR X (compareOp .In) (rInX K false) := hK ▸ op_inX
theorem k_notInX (hK : X.K = K := by rfl) : OpR X (compareOp .NotIn) (rInX K true) := hK ▸ op_notInX
theorem k_ix (hK : X.K = K := by rfl) : IxR X (rIxX K) := hK ▸ ix_X
theorem k_sl (hK : X.K = K := by rfl) : SlR X (rSlX K) := hK ▸ sl_X
theorem k_len (hK : X.K = K := by rfl) : CallR X (.builtin "len") (rLenX K) := hK ▸ call_lenX
theorem k_all (hc : X.calm = true := by rfl) (hK : X.K = K := by rfl) : CallR X (.builtin "all") (rAllX K fun bs => bs.all id) := hK ▸ call_allX hc
theorem k_any (hc : X.calm = true := by rfl) (hK : X.K = K := by rfl) : CallR X (.builtin "any") (rAllX K fun bs => bs.any id) := hK ▸ call_anyX hc
def rIsi (K : PySem.W.Frag) : List V → Hp → VK → Prop := fun xs H Q => ∃ x c cv t b, xs = [x, c] ∧ (∀ v, RelV c v → v = cv) ∧ TyOf K H x t ∧ PySem.W.kitOne K t cv = some b ∧ Q (.bl b) H
theorem k_isi (hK : X.K = K := by rfl) : CallR X (.builtin "isinstance") (rIsi K) := hK ▸ call_isi
theorem k_pi {l : Expr} {tl : TE} (hl : PE X l tl) (hK : X.K = K := by rfl) : PI X tg l (iAny K tl) := hK ▸ pi_any hl
theorem k_fld {e : Expr} {ta : TE} {f : Str} (he : PE X e ta) (hb : attributeBase e f X.env (eval e X.env) = eval e X.env := by rfl) (hK : X.K = K := by rfl) : PE X (.Attribute e f pos) (tFld K ta f) := hK ▸ pe_fld he hb
def rTupOf (K : PySem.W.Frag) : List V → Hp → VK → Prop := fun xs H Q => ∃ p ys, xs = [.ref p] ∧ ((SqL K H p ys ∧ ∀ l, H l = none → Q (.ref l) (upd H l (.tup ys))) ∨ (SqT K H p ys ∧ Q (.ref p) H))
def rLstOf (K : PySem.W.Frag) : List V → Hp → VK → Prop := fun xs H Q => ∃ p ys, xs = [.ref p] ∧ (SqL K H p ys ∨ SqT K H p ys) ∧ ∀ l, H l = none → Q (.ref l) (upd H l (.lst ys))
theorem k_tuple (hK : X.K = K := by rfl) : CallR X (.type "tuple") (rTupOf K) := hK ▸ call_tuple_of
theorem k_list (hK : X.K = K := by rfl) : CallR X (.type "list") (rLstOf K) := hK ▸ call_list_of
theorem k_bm {o e : Expr} {es : List Expr} {to : TE} {t : TA} {name : Str} {apos cpos : Pos} {T id : String} {r : V → List V → Hp → VK → Prop} (pa : PlainAttrs T) (slot : Slot T name id) (hty : typeOf (.builtin id) = pure (.type "method_descriptor")) (hm : MtR X id r) (ho : PE X o to) (ha : PA X (e :: es) t)
    (hbase : attributeBase o name X.env (eval o X.env) = eval o X.env := by rfl)
    (hfew : ((backTo cpos (starEach (e :: es) X.env)).all (fun x => !x.1) && (backToKw cpos (keywordEach [] X.env)).all (fun x => x.1.isSome)
      && decide ((e :: es).length + ([] : List Keyword).length + (if ([] : List Keyword).isEmpty then 0 else 1) < 30)) = true := by rfl)
    (hline : (apos.endLine == cpos.line) = true := by rfl) (hs : starEach (e :: es) X.env = (false, eval e X.env) :: starEach es X.env := by rfl) (hplain : (backTo cpos (starEach es X.env)).any (·.1) = false := by rfl) (hK : X.K = K := by rfl) :
    PE X (.Call (.Attribute o name apos) (e :: es) [] cpos) (tBM K T r to t) := hK ▸ pe_bm pa slot hty hm ho ha hbase hfew hline hs hplain
theorem k_tup {es : List Expr} {k : Nat} {t : TGs} {n : Nat} (h : PGs X es t) (hc : X.calm = true := by rfl)
    (hn : (assignEach es X.env).length = n := by rfl) (hst : (assignEach es X.env).findIdx? (·.1) = none := by rfl) (hK : X.K = K := by rfl) : PG X (.Tuple es k pos) (gTup K n t) := hK ▸ pg_tup hc h hn hst
end
end L2

namespace L2
open PySem PySem.Spec PyProof.Rows
/-! ### reading, statement by statement -/
/-- a test that changes nothing, then one of two suites -/
theorem rd_if {c : TT} {t u : TS} {D : Ends} {σ : St} {H : Hp} (B : Bool) (hc : ∀ Q : Bool → Hp → Prop, Q B H → c σ H Q) (ht : B = true → t D σ H) (hu : B = false → u D σ H) : tIfS c t u D σ H := by
  refine hc _ ?_
  cases B with
  | true => exact iteT (ht rfl)
  | false => exact iteF (hu rfl)
theorem rd_seq {t u : TS} {D : Ends} {σ : St} {H : Hp} (h : t { D with nx := u D } σ H) : tSeq t u D σ H := h
/-- the same ahead of more statements, where the suite leaves -/
theorem rd_ifr {c : TT} {t u : TS} {D : Ends} {σ : St} {H : Hp} (B : Bool) (hc : ∀ Q : Bool → Hp → Prop, Q B H → c σ H Q) (ht : B = true → t { D with nx := u D } σ H) (hu : B = false → u D σ H) : tSeq (tIfS c t tNext) u D σ H :=
  rd_if (D := { D with nx := u D }) B hc ht hu
/-- name = value, the value told without a change of the heap -/
theorem rd_set {te : TE} {i : Nat} {u : TS} {D : Ends} {σ : St} {H : Hp} (x : V) (he : ∀ Q : VK, Q x H → te σ H Q) (h : u D (σ.set i (some x)) H) : tSeq (tAsg te (gName i)) u D σ H := he _ h
theorem rd_ret {te : TE} {D : Ends} {σ : St} {H : Hp} (x : V) (he : ∀ Q : VK, Q x H → te σ H Q) (h : D.rt x H) : tRet te D σ H := he _ h
/-- .. that may make new things -/
theorem rd_ifS {c : TT} {t u : TS} {D : Ends} {σ : St} {H : Hp} (B : Bool) (hc : ∀ Q : Bool → Hp → Prop, (∀ H', Same H H' → Q B H') → c σ H Q) (ht : B = true → ∀ H', Same H H' → t D σ H') (hu : B = false → ∀ H', Same H H' → u D σ H') : tIfS c t u D σ H := by
  refine hc _ fun H' hs => ?_
  cases B with
  | true => exact iteT (ht rfl H' hs)
  | false => exact iteF (hu rfl H' hs)
theorem rd_ifrS {c : TT} {t u : TS} {D : Ends} {σ : St} {H : Hp} (B : Bool) (hc : ∀ Q : Bool → Hp → Prop, (∀ H', Same H H' → Q B H') → c σ H Q) (ht : B = true → ∀ H', Same H H' → t { D with nx := u D } σ H') (hu : B = false → ∀ H', Same H H' → u D σ H') : tSeq (tIfS c t tNext) u D σ H :=
  rd_ifS (D := { D with nx := u D }) B hc ht hu
theorem rd_setS {te : TE} {i : Nat} {u : TS} {D : Ends} {σ : St} {H : Hp} (x : V) (he : ∀ Q : VK, (∀ H', Same H H' → Q x H') → te σ H Q) (h : ∀ H', Same H H' → u D (σ.set i (some x)) H') : tSeq (tAsg te (gName i)) u D σ H := he _ h
theorem rd_retS {te : TE} {D : Ends} {σ : St} {H : Hp} (x : V) (he : ∀ Q : VK, (∀ H', Same H H' → Q x H') → te σ H Q) (h : ∀ H', Same H H' → D.rt x H') : tRet te D σ H := he _ h
theorem orQ {Q : Bool → Hp → Prop} {b c : Bool} {H : Hp} (h : Q (b || c) H) : if b = true then Q true H else Q c H := by
  cases b
  · exact iteF (by simpa using h)
  · exact iteT (by simpa using h)
theorem andQ {Q : Bool → Hp → Prop} {b c : Bool} {H : Hp} (h : Q (b && c) H) : if b = true then Q c H else Q false H := by
  cases b
  · exact iteF (by simpa using h)
  · exact iteT (by simpa using h)
theorem andV {Q : VK} {b c : Bool} {H : Hp} (h : Q (.bl (b && c)) H) : if b = true then Q (.bl c) H else Q (.bl false) H := by
  cases b
  · exact iteF (by simpa using h)
  · exact iteT (by simpa using h)
theorem orV {Q : VK} {b c : Bool} {H : Hp} (h : Q (.bl (b || c)) H) : if b = true then Q (.bl true) H else Q (.bl c) H := by
  cases b
  · exact iteF (by simpa using h)
  · exact iteT (by simpa using h)
theorem same_new {H : Hp} {q : Addr} {o : HO} (h : H q = none) : Same H (upd H q o) := fun b u e => by
  rw [upd_ne (ne_of_none e h)]
  exact e
/-! ### comprehensions whose parts change nothing -/
structure Walk (J : It) (xs : List V) (H : Hp) : Prop where
  go : ∀ i, i < xs.length → J.go i H
  yld : ∀ (i : Nat) v H', i < xs.length → J.yld i H v H' → H' = H ∧ xs[i]? = some v
  stop : ∀ i, xs.length ≤ i → J.stop i H
theorem walk_list {K : PySem.W.Frag} {a : Addr} {xs : List V} {H : Hp} (h : SqL K H a xs) : Walk (Itl K a) xs H where
  go := fun i hi => ⟨xs, xs[i], h, by simp [hi]⟩
  yld := fun i v H' _ y => ⟨y.1, y.2 xs h⟩
  stop := fun i hi => ⟨xs, h, hi⟩
theorem walk_tup {K : PySem.W.Frag} {a : Addr} {xs : List V} {H : Hp} (h : SqT K H a xs) : Walk (Itt K a) xs H where
  go := fun i hi => ⟨xs, xs[i], h, by simp [hi]⟩
  yld := fun i v H' _ y => ⟨y.1, y.2 xs h⟩
  stop := fun i hi => ⟨xs, h, hi⟩
theorem walk_str {cs : List Nat} {H : Hp} : Walk (Its cs) (cs.map fun c => S [c]) H where
  go := fun i hi => by
    have : i < cs.length := by simpa using hi
    exact this
  yld := fun i v H' _ y => by
    obtain ⟨e, c, hc, rfl⟩ := y
    exact ⟨e, by rw [List.getElem?_map, hc]; rfl⟩
  stop := fun i hi => by
    have : cs.length ≤ i := by simpa using hi
    exact this
theorem walk_range {lo : Int} {n : Nat} {H : Hp} : Walk (Itr lo n) ((List.range n).map fun k => V.int (lo + (k : Nat))) H where
  go := fun i hi => by
    have : i < n := by simpa using hi
    exact this
  yld := fun i v H' hi y => by
    obtain ⟨e, rfl⟩ := y
    refine ⟨e, ?_⟩
    have : i < n := by simpa using hi
    simp [this]
  stop := fun i hi => by
    have : n ≤ i := by simpa using hi
    exact this
theorem comp_pure {J : It} {xs : List V} {g : TG} {tt : TT} {te : TE} {n : Nat} {js : List Nat} {σ : St} {H : Hp} {Q : VK} (p : V → Bool) (f : V → V) (hw : Walk J xs H) (hlen : xs.length ≤ sizeLine)
    (hel : ∀ (i : Nat) (x : V), xs[i]? = some x → ∀ (N : Hp → Prop) (Y : V → Hp → Prop), (p x = true → Y (f x) H) → (p x = false → N H) → g x (blk n σ js) H fun σ2 H2 => tt σ2 H2 fun b H3 => if b = true then te σ2 H3 Y else N H3)
    (hq : ∀ q, H q = none → Q (.ref q) (upd H q (.lst ((xs.filter p).map f)))) :
    ∃ W : Nat → Nat → List V → Hp → Prop, (∃ m, W 0 m [] H) ∧ ∀ i m ys H, W i m ys H →
      (J.stop i H ∧ ∀ p, H p = none → Q (.ref p) (upd H p (.lst ys))) ∨
      (J.go i H ∧ ∀ x H', J.yld i H x H' → g x (blk n σ js) H' fun σ2 H2 => tt σ2 H2 fun b H3 =>
        if b = true then te σ2 H3 fun y H4 => ys.length < sizeLine ∧ ∃ m', m' < m ∧ W (i + 1) m' (ys ++ [y]) H4 else ∃ m', m' < m ∧ W (i + 1) m' ys H3) := by
  refine ⟨fun i m ys H' => H' = H ∧ m = xs.length - i ∧ i ≤ xs.length ∧ ys = ((xs.take i).filter p).map f, ⟨xs.length, rfl, by simp, Nat.zero_le _, by simp⟩, ?_⟩
  rintro i m ys H' ⟨rfl, rfl, hi, rfl⟩
  by_cases hlt : i < xs.length
  · refine .inr ⟨hw.go i hlt, fun x H2 y => ?_⟩
    obtain ⟨e, hx⟩ := hw.yld i x H2 hlt y
    subst e
    have hz : (((xs.take i).filter p).map f).length < sizeLine := by
      have h1 := List.length_filter_le p (xs.take i)
      rw [List.length_take] at h1
      rw [List.length_map]
      omega
    have ht := take_succ_filter p xs i x hx
    refine hel i x hx (fun H3 => ∃ m', m' < xs.length - i ∧ _) (fun y H4 => _ < sizeLine ∧ ∃ m', m' < xs.length - i ∧ _) (fun hp => ?_) (fun hp => ?_)
    · refine ⟨hz, xs.length - (i + 1), by omega, rfl, rfl, hlt, ?_⟩
      rw [ht, hp, List.map_append]
      rfl
    · refine ⟨xs.length - (i + 1), by omega, rfl, rfl, hlt, ?_⟩
      rw [ht, hp]
      simp
  · have e : i = xs.length := by omega
    subst e
    refine .inl ⟨hw.stop _ (Nat.le_refl _), fun q hq' => ?_⟩
    rw [List.take_of_length_le (Nat.le_refl _)]
    exact hq q hq'

/-- [elt for c in text], nothing changed by the elements -/
theorem rd_comp_str {K : PySem.W.Frag} {ts : TE} {te : TE} {n : Nat} {js : List Nat} {σ : St} {H : Hp} {Q : VK} (cs : List Nat) (f : Nat → V) (hs : ∀ R : VK, R (S cs) H → ts σ H R) (hlen : cs.length ≤ sizeLine)
    (hel : ∀ c ∈ cs, ∀ Y : VK, Y (f c) H → te ((blk n σ js).set 0 (some (S [c]))) H Y)
    (hq : ∀ q, H q = none → Q (.ref q) (upd H q (.lst (cs.map f)))) : tComp (iAny K ts) (gName 0) tYes te n js σ H Q := by
  refine hs _ (.inr (.inr ⟨cs, rfl, ?_⟩))
  refine comp_pure (fun _ => true) (fun v => match v with | .str x => f (x.cps.toList.headD 0) | _ => .non) walk_str (by simpa using hlen) (fun i x hx N Y hY hN => ?_) (fun q hq' => ?_)
  · rw [List.getElem?_map] at hx
    cases e : cs[i]? with
    | none => rw [e] at hx; cases hx
    | some c =>
      rw [e] at hx
      have ex : S [c] = x := Option.some.inj hx
      subst ex
      show if true = true then te ((blk n σ js).set 0 (some (S [c]))) H Y else N H
      exact iteT (hel c (List.mem_of_getElem? e) Y (by have := hY rfl; simpa using this))
  · have := hq q hq'
    have e : ((cs.map fun c => S [c]).filter fun _ => true).map (fun v => match v with | .str x => f (x.cps.toList.headD 0) | _ => .non) = cs.map f := by
      have e1 : (cs.map fun c => S [c]).filter (fun _ => true) = cs.map fun c => S [c] := List.filter_eq_self.mpr fun _ _ => rfl
      rw [e1, List.map_map]
      refine List.map_congr_left fun c _ => ?_
      simp
    rw [e]
    exact this

theorem rd_isi {K : PySem.W.Frag} {H : Hp} {x : V} {t : Value} {T : String} {b : Bool} {Q : VK} (ty : TyOf K H x t) (e : PySem.W.kitOne K t (.type T) = some b) (h : Q (.bl b) H) : rIsi K [x, .ty T] H Q :=
  ⟨x, .ty T, .type T, t, b, rfl, fun _ h => h, ty, e, h⟩
theorem rd_isiC {K : PySem.W.Frag} {H : Hp} {x : V} {t : Value} {C : Addr} {b : Bool} {Q : VK} (ty : TyOf K H x t) (e : PySem.W.kitOne K t (.ref C) = some b) (h : Q (.bl b) H) : rIsi K [x, .ref C] H Q :=
  ⟨x, .ref C, .ref C, t, b, rfl, fun _ h => h, ty, e, h⟩
end L2

namespace L2
open PySem PySem.Spec PyProof.Rows
/-! ### range(lo, hi, step) -/
def Itrc (lo c : Int) (n : Nat) : It := ⟨fun i _ => i < n, fun i H x H' => H' = H ∧ x = .int (lo + i * c), fun i _ => n ≤ i⟩
theorem turn_rangec {P : Program} {w : World} {K : PySem.W.Frag} {tg : Expr} (it : Addr) (lo c : Int) (n : Nat) : Turn P w K tg (Itrc lo c n) [it] it (fun i h => IsRangeIter h it (lo + (i : Nat) * c) ((n : Int) - (i : Nat)) c) where
  mem := by simp
  obj := fun i h st b hb => by
    have e : b = it := by simpa using hb
    subst e
    exact ⟨_, st, fun v z => by
      have z' : Data.fields _ = Data.cell v := z
      cases z'⟩
  keep := fun i h h' st k => k it (by simp) _ st
  item := by
    intro X hP hw hK hc i pins s σ H E I hf st hg
    subst hP hw hK
    obtain ⟨f0, f1, f2, f3, f4, f5⟩ := hf it (by simp)
    have W := Walks.range (prog := X.prog) (w := X.w) (I.ok.hd hc) it lo c n
    refine W.item i s _ _ hg st fun v h' tk hv st' kk => ?_
    obtain ⟨t, rfl⟩ := hv
    have I1 : Inv X pins σ H { s with heap := h', toks := tk } := I.turned (fun b o hb e => kk b o (by simpa using hb) e) f0 f1 f3 f4 f5
    exact ⟨_, rfl, go_of (s := { s with heap := h', toks := tk }) (n := "range_iterator") st' rfl rfl (by decide) ⟨.int (lo + i * c), H, I1, ⟨t, rfl⟩, ⟨rfl, rfl⟩, st', fun b hb => (hf b hb).1⟩⟩
  done := by
    intro X hP hw hK hc i pins s σ H E I hf st hg
    subst hP hw hK
    obtain ⟨f0, f1, f2, f3, f4, f5⟩ := hf it (by simp)
    exact wpAny_pyNext_range_end (I.ok.hd hc) st (by have : n ≤ i := hg; omega) fun h' eb => ⟨rfl, I.turned (t' := s.toks) (fun b o hb e => eb b o hb e) f0 f1 f3 f4 f5⟩
  self := fun _ _ _ _ _ st h => wpAny_pyIter_rangeiter st h
section
variable {X : Cx} {tg : Expr}
def iRng3 (ta : TA) : TI := fun σ H R => ta σ H fun vs H1 => ∃ i j c : Int, vs = [.int i, .int j, .int c] ∧ (c ≠ 0 ∧ c.natAbs < 1073741824 ∧ Builtin.Range.small i j c = true) ∧ R (Itrc i c (Builtin.Range.rangeSize i j c).toNat) H1
theorem size_nonneg (i j c : Int) (hc : c ≠ 0) : 0 ≤ Builtin.Range.rangeSize i j c := by
  unfold Builtin.Range.rangeSize
  split
  · split
    · have := Int.ediv_nonneg (a := j - i - 1) (b := c) (by omega) (by omega)
      omega
    · omega
  · split
    · have := Int.ediv_nonneg (a := i - j - 1) (b := -c) (by omega) (by omega)
      omega
    · omega
theorem pi_range3 {a b c : Expr} {ta : TA} {p pos : Pos} (hg : Gl X "range") (hm : X.mg "range" = none) (ha : PA X [a, b, c] ta) (hs : starEach [a, b, c] X.env = [(false, eval a X.env), (false, eval b X.env), (false, eval c X.env)] := by rfl) (hs2 : starEach [b, c] X.env = [(false, eval b X.env), (false, eval c X.env)] := by rfl) :
    PI X tg (.Call (.Name "range" p) [a, b, c] [] pos) (iRng3 ta) := by
  intro pins s σ H R I h
  refine Call_ (ld_blt I hg hm boot_range (PyProof.Rows.callWith_type1 (thn (ha pos pins s σ H _ I h) fun us s1 ⟨vs, H1, I1, r1, q1⟩ => ?_) (by rw [hs, hs2]) (by rw [hs2]; rfl)))
  obtain ⟨i, j, c, e, ⟨q1, q2, q3⟩, q⟩ := q1
  subst e
  cases r1 with
  | cons r rr =>
    cases rr with
    | cons r' rr =>
      cases rr with
      | cons r'' rr =>
        cases rr
        obtain ⟨t, rfl⟩ := r
        obtain ⟨t', rfl⟩ := r'
        obtain ⟨t'', rfl⟩ := r''
        refine call_range_3 q1 ?_ (.inl (PyProof.noPylong_small q2))
        refine wpAny_pyIter_range (IsRange.new ..) q3 ?_
        have I2 : Inv X pins σ H1 { s1 with heap := s1.heap.push { cls := .type "range", data := .fields #[.int i t, .int j t', .int c t''] }, toks := s1.toks } := I1.kept fun b o e => Heap.get?_push_of_some _ e
        refine ⟨(s1.heap.push { cls := .type "range", data := .fields #[.int i t, .int j t', .int c t''] }).objs.size, [(s1.heap.push { cls := .type "range", data := .fields #[.int i t, .int j t', .int c t''] }).objs.size], _, _, H1, rfl,
          I2.kept (t' := s1.toks) fun b o e => Heap.get?_push_of_some _ e, turn_rangec _ i c (Builtin.Range.rangeSize i j c).toNat, ?_, fun b hb => ?_, q⟩
        · have e1 : i + ((0 : Nat) : Int) * c = i := by simp
          have e2 : (((Builtin.Range.rangeSize i j c).toNat : Nat) : Int) - ((0 : Nat) : Int) = Builtin.Range.rangeSize i j c := by
            have := size_nonneg i j c q1
            omega
          show IsRangeIter _ _ (i + ((0 : Nat) : Int) * c) ((((Builtin.Range.rangeSize i j c).toNat : Nat) : Int) - ((0 : Nat) : Int)) c
          rw [e1, e2]
          exact Heap.get?_push_size _ rfl
        · have e : b = (s1.heap.push { cls := .type "range", data := .fields #[.int i t, .int j t', .int c t''] }).objs.size := by simpa using hb
          subst e
          exact I2.fpOk (Nat.le_refl _) (I2.hok.fresh (Nat.le_refl _))
end
theorem small_c {j c : Int} (h0 : 0 ≤ j) (h1 : j < 1073741824) (hc : c = 2 ∨ c = 3) : Builtin.Range.small 0 j c = true := by
  unfold Builtin.Range.small Builtin.Range.rangeSize
  rcases hc with rfl | rfl
  all_goals
    simp only [Builtin.Range.rangeFitsLong, Bool.and_eq_true, Bool.or_eq_true, decide_eq_true_eq, beq_iff_eq, show (2 : Int) > 0 by decide, show (3 : Int) > 0 by decide, if_true]
    split <;> omega
theorem for_rangec {lo c : Int} {n : Nat} {g : TG} {tb : TS} {D : Ends} {σ : St} {H : Hp} (Pv : Nat → St → Hp → Prop) (h0 : Pv 0 σ H)
    (hs : ∀ i σ H, i < n → Pv i σ H → g (.int (lo + i * c)) σ H fun σ2 H2 => tb { D with nx := Pv (i + 1), ct := Pv (i + 1), bk := D.nx } σ2 H2) (hd : ∀ σ H, Pv n σ H → D.nx σ H) :
    ∃ W : Nat → Nat → St → Hp → Prop, (∃ m, W 0 m σ H) ∧ ∀ i m σ H, W i m σ H →
      ((Itrc lo c n).stop i H ∧ D.nx σ H) ∨ ((Itrc lo c n).go i H ∧ ∃ N : St → Hp → Prop, (∀ σ' H', N σ' H' → ∃ m', m' < m ∧ W (i + 1) m' σ' H') ∧ ∀ x H', (Itrc lo c n).yld i H x H' → g x σ H' fun σ2 H2 => tb { D with nx := N, ct := N, bk := D.nx } σ2 H2) := by
  refine ⟨fun i m σ H => m = n - i ∧ i ≤ n ∧ Pv i σ H, ⟨n, by simp, Nat.zero_le _, h0⟩, ?_⟩
  rintro i m σ H ⟨rfl, hi, p⟩
  by_cases hlt : i < n
  · refine .inr ⟨hlt, Pv (i + 1), fun σ' H' p' => ⟨n - (i + 1), by omega, rfl, hlt, p'⟩, fun x H' y => ?_⟩
    obtain ⟨e, y⟩ := y
    subst e y
    exact hs i σ _ hlt p
  · have e : i = n := by omega
    subst e
    exact .inl ⟨Nat.le_refl _, hd σ H p⟩

/-- for x in range(lo, hi, c), by its invariant -/
theorem rd_for3 {ta : TA} {g : TG} {tb : TS} {D : Ends} {σ : St} {H : Hp} (lo hi c : Int) (ht : ∀ R : List V → Hp → Prop, R [.int lo, .int hi, .int c] H → ta σ H R) (hc : c ≠ 0 ∧ c.natAbs < 1073741824 ∧ Builtin.Range.small lo hi c = true)
    (Pv : Nat → St → Hp → Prop) (h0 : Pv 0 σ H) (hs : ∀ i σ H, i < (Builtin.Range.rangeSize lo hi c).toNat → Pv i σ H → g (.int (lo + i * c)) σ H fun σ2 H2 => tb { D with nx := Pv (i + 1), ct := Pv (i + 1), bk := D.nx } σ2 H2)
    (hd : ∀ σ H, Pv (Builtin.Range.rangeSize lo hi c).toNat σ H → D.nx σ H) : tFor (iRng3 ta) g tb D σ H := ht _ ⟨lo, hi, c, rfl, hc, for_rangec Pv h0 hs hd⟩
theorem rd_seqP {t u : TS} {D : Ends} {σ : St} {H : Hp} (Post : St → Hp → Prop) (h1 : ∀ R : St → Hp → Prop, (∀ σ' H', Post σ' H' → R σ' H') → t { D with nx := R } σ H) (h2 : ∀ σ' H', Post σ' H' → u D σ' H') : tSeq t u D σ H := h1 _ h2
/-- name = [..] -/
theorem rd_setL {ta : TA} {i : Nat} {u : TS} {D : Ends} {σ : St} {H : Hp} (xs : List V) (ht : ∀ R : List V → Hp → Prop, R xs H → ta σ H R) (hl : xs.length ≤ sizeLine) (h : ∀ p, H p = none → u D (σ.set i (some (.ref p))) (upd H p (.lst xs))) : tSeq (tAsg (tLst ta) (gName i)) u D σ H := ht _ ⟨hl, h⟩
theorem rd_skip {c : TT} {t u : TS} {D : Ends} {σ : St} {H : Hp} (hc : ∀ Q : Bool → Hp → Prop, Q false H → c σ H Q) (h : u D σ H) : tSeq (tIfS c t tNext) u D σ H := rd_ifr false hc (fun z => by cases z) fun _ => h
theorem rd_take {c : TT} {t u : TS} {D : Ends} {σ : St} {H : Hp} (hc : ∀ Q : Bool → Hp → Prop, Q true H → c σ H Q) (h : t { D with nx := u D } σ H) : tSeq (tIfS c t tNext) u D σ H := rd_ifr true hc (fun _ => h) fun z => by cases z
end L2

namespace L2
open PySem PySem.Spec PyProof.Rows
/-! ### enumerate(text) -/
/-- the pairs of a number from n0 on and a sign -/
def Ites (n0 : Nat) (cs : List Nat) : It := ⟨fun i _ => i < cs.length, fun i H v H' => ∃ c p, cs[i]? = some c ∧ H p = none ∧ v = .ref p ∧ H' = upd H p (.tup [.int ((n0 + i : Nat) : Int), S [c]]), fun i _ => cs.length ≤ i⟩
theorem draws_str {prog : Program} {w : World} {A : Around} (hh : A.handled = none) (it : Addr) (cs : List Nat) (t : Tok) (n0 : Nat) :
    Draws prog w A it [it] (n0 + cs.length) (fun i v => ∃ j c u, i = n0 + j ∧ cs[j]? = some c ∧ v = .str ⟨#[c]⟩ u) (fun i h => ∃ j, i = n0 + j ∧ h.IsStrIter it (strIterType (tx cs)) (tx cs) t j) where
  live := fun i h ⟨j, _, o, ho, _⟩ => ⟨o, ho⟩
  frame := fun i h h' ⟨j, e, o, ho, r⟩ hk => ⟨j, e, o, hk it (by simp) o ho, r⟩
  item := fun i s Q E hi st hQ => by
    obtain ⟨j, rfl, st⟩ := st
    have hj : j < cs.length := by omega
    have hx : (tx cs).cps[j]? = some cs[j] := by simp [tx, hj]
    rcases iter_ty (tx cs) with z | z
    · rw [z] at st
      refine wpAny_nextOf_ascii_item st hx fun h' st' sb => ?_
      exact hQ _ h' (s.toks + 1) ⟨j, _, _, rfl, by simp [hj], rfl⟩ ⟨j + 1, by omega, by rw [z]; exact st'⟩ sb
    · rw [z] at st
      refine wpAny_nextOf_wide_item st hx fun h' st' sb => ?_
      exact hQ _ h' (s.toks + 1) ⟨j, _, _, rfl, by simp [hj], rfl⟩ ⟨j + 1, by omega, by rw [z]; exact st'⟩ sb
  done := fun s Q E st hE => by
    obtain ⟨j, e, st⟩ := st
    have hj : j = cs.length := by omega
    subst hj
    have hx : (tx cs).cps[cs.length]? = none := by simp [tx]
    rcases iter_ty (tx cs) with z | z
    · rw [z] at st
      exact wpAny_nextOf_ascii_end hh st hx hE
    · rw [z] at st
      exact wpAny_nextOf_wide_end hh st hx hE
theorem turn_enumS {P : Program} {w : World} {K : PySem.W.Frag} {elts : List Expr} {x1 : Nat} {tpos : Pos} (e it : Addr) (hne : e ≠ it) (n0 : Nat) (cs : List Nat) (t : Tok) :
    Turn P w K (.Tuple elts x1 tpos) (Ites n0 cs) [e, it] e (fun i h => (i ≤ cs.length ∧ ∃ old, IsEnum h e it ((n0 + i : Nat) : Int) old) ∧ h.IsStrIter it (strIterType (tx cs)) (tx cs) t i) where
  mem := by simp
  obj := fun i h st b hb => by
    obtain ⟨⟨_, old, he⟩, o, ho, hc, hd⟩ := st
    simp at hb
    rcases hb with rfl | rfl
    · exact ⟨_, he, fun v z => by
        have z' : Data.fields _ = Data.cell v := z
        cases z'⟩
    · exact ⟨o, ho, fun v z => by rw [hd] at z; cases z⟩
  keep := fun i h h' st k => by
    obtain ⟨⟨hi, old, he⟩, o, ho, r⟩ := st
    exact ⟨⟨hi, old, k e (by simp) _ he⟩, o, k it (by simp) o ho, r⟩
  item := by
    intro X hP hw hK hc i pins s σ H E I hf st hg
    subst hP hw hK
    obtain ⟨⟨_, old, he⟩, st⟩ := st
    have hg : i < cs.length := hg
    have f := hf e (by simp)
    have g := hf it (by simp)
    obtain ⟨e0, e1, e2, e3, e4, e5⟩ := f
    obtain ⟨f0, f1, f2, f3, f4, f5⟩ := g
    have D := draws_str (prog := X.prog) (w := X.w) (A := X.A.in1) (I.ok.hd hc) it cs t n0
    refine wpAny_pyNext_enum_itemD D he ⟨i, rfl, st⟩ (by omega) hne (by simp [hne]) fun x h' tk hP ho st' hT hsz hk => ?_
    obtain ⟨j, c, u, ej, hcx, rfl⟩ := hP
    have ej' : j = i := by omega
    subst ej'
    refine ⟨_, rfl, wpAny_letOwnedTupleGo_enum ho fun h2 he2 hs2 => ?_⟩
    have hs2 : Heap.SameBut e h' h2 := hs2
    have hTl : e < s.heap.objs.size := Heap.lt_size he
    obtain ⟨j', ej2, st''⟩ := st'
    have ej3 : j' = j + 1 := by omega
    subst ej3
    have hT2 : h2.get? s.heap.objs.size = some { cls := .type "tuple", data := .seq #[.int ((n0 + j : Nat) : Int) tk, .str ⟨#[c]⟩ u] } := (hs2.2 _ (Nat.ne_of_gt hTl)).trans hT
    have k2 : ∀ b o, b ≠ e → b ≠ it → s.heap.get? b = some o → h2.get? b = some o := fun b o hb hb' q => (hs2.2 b hb).trans (hk b o hb hb' q)
    have hTn : H s.heap.objs.size = none := I.hok.fresh (Nat.le_refl _)
    have neT : ∀ b o, s.heap.get? b = some o → b ≠ s.heap.objs.size := fun b o q => Nat.ne_of_lt (Heap.lt_size q)
    have I2 : Inv X pins σ (upd H s.heap.objs.size (.tup [.int ((n0 + j : Nat) : Int), S [c]])) { s with heap := h2, toks := tk + 1 } := by
      refine I.step (g' := s.gens) (d' := s.drawn) (ch := [e, it]) (fun b hb => ?_) (fun b o _ _ hcb q _ => ?_) (fun b o _ _ hcb q _ => ?_) (fun b o hcb q n => ?_) (fun b o hcb q => ?_) (fun b xs q => ?_) (fun b o v q => ?_) (fun b ps q => ?_) (fun m hm => ?_) (fun b o q => ?_) I.bare
      · simp at hb
        rcases hb with rfl | rfl
        · exact ⟨e3, e1, e4, e5⟩
        · exact ⟨f3, f1, f4, f5⟩
      · simp at hcb
        exact k2 b o hcb.1 hcb.2 q
      · simp at hcb
        exact ⟨o.slots, k2 b o hcb.1 hcb.2 q⟩
      · rw [upd_ne (neT b o q)]
        exact n
      · simp at hcb
        exact ⟨o, k2 b o hcb.1 hcb.2 q⟩
      · rw [upd_ne (ne_of_none q hTn)]
        exact q
      · rw [upd_ne (ne_of_none q hTn)]
        exact q
      · exact ⟨#[], by rw [upd_ne (ne_of_none q hTn), q]; simp⟩
      · obtain ⟨o, es, ep, q, r⟩ := hm
        exact ⟨o, es, ep, k2 _ o (Ne.symm e1) (Ne.symm f1) q, r⟩
      · by_cases hb : b = s.heap.objs.size
        · subst hb
          rw [upd_same] at q
          cases q
          refine ⟨by show 2 ≤ sizeLine; decide, [.int ((n0 + j : Nat) : Int) tk, .str ⟨#[c]⟩ u], .cons ⟨_, rfl⟩ (.cons ⟨_, rfl⟩ .nil), ?_⟩
          exact ⟨_, hT2, rfl, _, rfl⟩
        · rw [upd_ne hb] at q
          have nn : ∀ (b : Addr) (o : HO), H b = some o → b ≠ e ∧ b ≠ it := fun b o q => ⟨fun z => (by rw [z, e0] at q; cases q), fun z => (by rw [z, f0] at q; cases q)⟩
          refine (I.hok b o q).stay (fun d v hd q' => ?_) (fun d q' => by rw [upd_ne (ne_of_none q' hTn)]; exact q') fun d xs q' => by rw [upd_ne (ne_of_none q' hTn)]; exact q'
          rcases hd with rfl | hd
          · exact k2 d v (nn d o q).1 (nn d o q).2 q'
          · exact k2 d v (nn d _ hd).1 (nn d _ hd).2 q'
    have he3 : IsEnum h2 e it ((n0 + (j + 1) : Nat) : Int) (.str ⟨#[c]⟩ u) := by
      have : ((n0 + (j + 1) : Nat) : Int) = ((n0 + j : Nat) : Int) + 1 := by push_cast; omega
      rw [this]
      exact he2
    refine ⟨.ref s.heap.objs.size, _, I2, rfl, ⟨c, s.heap.objs.size, hcx, hTn, rfl, rfl⟩, ⟨⟨hg, _, he3⟩, ?_⟩, fun b hb => ?_⟩
    · obtain ⟨o, ho', r⟩ := st''
      exact ⟨o, (hs2.2 it (Ne.symm hne)).trans ho', r⟩
    · simp at hb
      rcases hb with rfl | rfl
      · rw [upd_ne (Nat.ne_of_lt hTl)]; exact e0
      · obtain ⟨o, ho', _⟩ := st
        rw [upd_ne (neT _ o ho')]; exact f0
  done := by
    intro X hP hw hK hc i pins s σ H E I hf st hg
    subst hP hw hK
    obtain ⟨⟨hi, old, he⟩, st⟩ := st
    have hg : cs.length ≤ i := hg
    have ei : i = cs.length := by omega
    subst ei
    obtain ⟨f0, f1, f2, f3, f4, f5⟩ := hf it (by simp)
    have D := draws_str (prog := X.prog) (w := X.w) (A := X.A.in1) (I.ok.hd hc) it cs t n0
    exact wpAny_pyNext_enum_endD D he ⟨cs.length, rfl, st⟩ fun h' eb => ⟨rfl, I.turned (t' := s.toks) (fun b o hb q => eb b o hb q) f0 f1 f3 f4 f5⟩
  self := fun _ _ _ _ _ st h => by
    obtain ⟨⟨_, old, he⟩, _⟩ := st
    exact wpAny_pyIter_enum he h
section
variable {X : Cx} {elts : List Expr} {x1 : Nat} {tpos : Pos}
def iEnum (ta : TA) : TI := fun σ H R => ta σ H fun vs H1 => ∃ cs, vs = [S cs] ∧ R (Ites 0 cs) H1
theorem pi_enum {a : Expr} {ta : TA} {p pos : Pos} (hg : Gl X "enumerate") (hm : X.mg "enumerate" = none) (ha : PA X [a] ta) (hs : starEach [a] X.env = [(false, eval a X.env)] := by rfl) : PI X (.Tuple elts x1 tpos) (.Call (.Name "enumerate" p) [a] [] pos) (iEnum ta) := by
  intro pins s σ H R I h
  refine Call_ (ld_blt I hg hm boot_enumerate (PyProof.Rows.callWith_type1 (thn (ha pos pins s σ H _ I h) fun us s1 ⟨vs, H1, I1, r1, q1⟩ => ?_) hs rfl))
  obtain ⟨cs, e, q⟩ := q1
  subst e
  cases r1 with
  | cons r rr =>
    cases rr
    obtain ⟨t, rfl⟩ := r
    refine call_enumerate_str fun h' he st hsz k => ?_
    refine wpAny_pyIter_enum he ?_
    have I2 : Inv X pins σ H1 { s1 with heap := h' } := I1.kept (t' := s1.toks) k
    refine ⟨s1.heap.objs.size + 1, [s1.heap.objs.size + 1, s1.heap.objs.size], _, _, H1, rfl, I2, turn_enumS (s1.heap.objs.size + 1) s1.heap.objs.size (Nat.succ_ne_self _) 0 cs t, ⟨⟨Nat.zero_le _, _, he⟩, st⟩, fun b hb => ?_, q⟩
    have hb' : s1.heap.objs.size ≤ b := by
      simp at hb
      rcases hb with rfl | rfl
      · exact Nat.le_succ _
      · exact Nat.le_refl _
    exact I1.fpOk hb' (I1.hok.fresh hb')
end
theorem for_enumS {n0 : Nat} {cs : List Nat} {g : TG} {tb : TS} {D : Ends} {σ : St} {H : Hp} (Pv : Nat → St → Hp → Prop) (h0 : Pv 0 σ H)
    (hs : ∀ (i : Nat) (c : Nat) σ H, cs[i]? = some c → Pv i σ H → ∀ p, H p = none → g (.ref p) σ (upd H p (.tup [.int ((n0 + i : Nat) : Int), S [c]])) fun σ2 H2 => tb { D with nx := Pv (i + 1), ct := Pv (i + 1), bk := D.nx } σ2 H2) (hd : ∀ σ H, Pv cs.length σ H → D.nx σ H) :
    ∃ W : Nat → Nat → St → Hp → Prop, (∃ m, W 0 m σ H) ∧ ∀ i m σ H, W i m σ H →
      ((Ites n0 cs).stop i H ∧ D.nx σ H) ∨ ((Ites n0 cs).go i H ∧ ∃ N : St → Hp → Prop, (∀ σ' H', N σ' H' → ∃ m', m' < m ∧ W (i + 1) m' σ' H') ∧ ∀ x H', (Ites n0 cs).yld i H x H' → g x σ H' fun σ2 H2 => tb { D with nx := N, ct := N, bk := D.nx } σ2 H2) := by
  refine ⟨fun i m σ H => m = cs.length - i ∧ i ≤ cs.length ∧ Pv i σ H, ⟨cs.length, by simp, Nat.zero_le _, h0⟩, ?_⟩
  rintro i m σ H ⟨rfl, hi, p⟩
  by_cases hlt : i < cs.length
  · refine .inr ⟨hlt, Pv (i + 1), fun σ' H' p' => ⟨cs.length - (i + 1), by omega, rfl, hlt, p'⟩, fun x H' y => ?_⟩
    obtain ⟨c, q, hc, hq, rfl, rfl⟩ := y
    exact hs i c σ H hc p q hq
  · have e : i = cs.length := by omega
    subst e
    exact .inl ⟨Nat.le_refl _, hd σ H p⟩
end L2

namespace DL
open PySem PySem.Spec L2

/-- a datum: a value with all that it holds -/
inductive D where
  | non
  | bl (b : Bool)
  | int (i : Int)
  | str (cs : List Nat)
  | lst (xs : List D)
  | tup (xs : List D)
  | obj (c : String) (ks : List String) (xs : List D)
/-- a list of the module's own -/
def KL (K : PySem.W.Frag) (a : Addr) (vs : List V) : Prop := ∃ (o : Obj) (its : Array Value) (n : Nat), K.lookup a = some o ∧ o.cls = .type "list" ∧ o.dict = none ∧ o.data = .seq its n ∧ its.size ≤ sizeLine ∧ Vals vs its.toList
/-- the classes' addresses; what the module has written -/
structure Kn where
  c : String → Addr
  K : PySem.W.Frag
def scalar : D → Bool
  | .non => true
  | .bl _ => true
  | .int _ => true
  | .str _ => true
  | _ => false

mutual
/-- the value v holds the datum in the heap H; none of its objects is one of av -/
def Rep (cA : Kn) (av : Addr → Prop) (H : Hp) : D → V → Prop
  | .non, v => v = .non
  | .bl b, v => v = .bl b
  | .int i, v => v = .int i
  | .str cs, v => v = S cs
  | .lst xs, v => ∃ a vs, v = .ref a ∧ (av a → KL cA.K a vs) ∧ SqL cA.K H a vs ∧ RepL cA av H xs vs
  | .tup xs, v => ∃ a vs, v = .ref a ∧ ¬ av a ∧ H a = some (.tup vs) ∧ RepL cA av H xs vs
  | .obj c ks xs, v => ∃ a dx vs, v = .ref a ∧ ¬ av a ∧ H a = some (.ins (cA.c c) dx ((ks.map Str.ofString).zip vs)) ∧ ks.length = xs.length ∧ RepL cA av H xs vs
def RepL (cA : Kn) (av : Addr → Prop) (H : Hp) : List D → List V → Prop
  | [], vs => vs = []
  | x :: xs, vs => ∃ v r, vs = v :: r ∧ Rep cA av H x v ∧ RepL cA av H xs r
end

section
variable {cA : Kn} {G : Cn} {av av' : Addr → Prop} {H H' : Hp}
theorem Rd.ext {a : Addr} {u : HO} (h : Rd H a u) (k : ∀ o, H a = some o → H' a = some o) : Rd H' a u := by
  rcases h with h | ⟨o, h⟩
  · exact .inl (k _ h)
  · exact .inr ⟨o, k _ h⟩
theorem Rd.there {a : Addr} {u : HO} (h : Rd H a u) : H a ≠ none := by
  rcases h with h | ⟨o, h⟩ <;> rw [h] <;> exact fun z => by cases z
theorem sq_ext {K : PySem.W.Frag} {a : Addr} {vs : List V} (n : av a → KL K a vs) (r : SqL K H a vs) (k : ∀ b o, ¬ av b → H b = some o → H' b = some o) : SqL K H' a vs := by
  by_cases h : av a
  · exact .inr (n h)
  · rcases r with r | r
    · exact .inl (Rd.ext r fun o => k a o h)
    · exact .inr r
theorem sq_av {K : PySem.W.Frag} {a : Addr} {vs : List V} (n : av a → KL K a vs) (r : SqL K H a vs) (k : ∀ b, av' b → av b ∨ H b = none) : av' a → KL K a vs := fun z => by
  rcases k a z with z | z
  · exact n z
  · rcases r with r | r
    · exact absurd z (Rd.there r)
    · exact r
mutual
theorem Rep.ext : ∀ {d : D} {v : V}, (∀ b o, ¬ av b → H b = some o → H' b = some o) → Rep cA av H d v → Rep cA av H' d v
  | .non, _, _, h => h
  | .bl _, _, _, h => h
  | .int _, _, _, h => h
  | .str _, _, _, h => h
  | .lst xs, v, k, h => by
    unfold Rep at h ⊢
    obtain ⟨a, vs, e, n, r, l⟩ := h
    exact ⟨a, vs, e, n, sq_ext n r k, RepL.ext k l⟩
  | .tup xs, v, k, h => by
    unfold Rep at h ⊢
    obtain ⟨a, vs, e, n, r, l⟩ := h
    exact ⟨a, vs, e, n, k a _ n r, RepL.ext k l⟩
  | .obj c ks xs, v, k, h => by
    unfold Rep at h ⊢
    obtain ⟨a, dx, vs, e, n, r, z, l⟩ := h
    exact ⟨a, dx, vs, e, n, k a _ n r, z, RepL.ext k l⟩
theorem RepL.ext : ∀ {xs : List D} {vs : List V}, (∀ b o, ¬ av b → H b = some o → H' b = some o) → RepL cA av H xs vs → RepL cA av H' xs vs
  | [], _, _, h => h
  | x :: xs, vs, k, h => by
    unfold RepL at h ⊢
    obtain ⟨v, r, e, h1, h2⟩ := h
    exact ⟨v, r, e, Rep.ext k h1, RepL.ext k h2⟩
end
mutual
theorem Rep.av : ∀ {d : D} {v : V}, (∀ b, av' b → av b ∨ H b = none) → Rep cA av H d v → Rep cA av' H d v
  | .non, _, _, h => h
  | .bl _, _, _, h => h
  | .int _, _, _, h => h
  | .str _, _, _, h => h
  | .lst xs, v, k, h => by
    unfold Rep at h ⊢
    obtain ⟨a, vs, e, n, r, l⟩ := h
    exact ⟨a, vs, e, sq_av n r k, r, RepL.av k l⟩
  | .tup xs, v, k, h => by
    unfold Rep at h ⊢
    obtain ⟨a, vs, e, n, r, l⟩ := h
    exact ⟨a, vs, e, fun z => (k a z).elim n (by rw [r]; exact fun z => by cases z), r, RepL.av k l⟩
  | .obj c ks xs, v, k, h => by
    unfold Rep at h ⊢
    obtain ⟨a, dx, vs, e, n, r, z, l⟩ := h
    exact ⟨a, dx, vs, e, fun y => (k a y).elim n (by rw [r]; exact fun z => by cases z), r, z, RepL.av k l⟩
theorem RepL.av : ∀ {xs : List D} {vs : List V}, (∀ b, av' b → av b ∨ H b = none) → RepL cA av H xs vs → RepL cA av' H xs vs
  | [], _, _, h => h
  | x :: xs, vs, k, h => by
    unfold RepL at h ⊢
    obtain ⟨v, r, e, h1, h2⟩ := h
    exact ⟨v, r, e, Rep.av k h1, RepL.av k h2⟩
end
theorem Rep.scal {d : D} {v : V} (hs : scalar d = true) (h : Rep cA av H d v) : Rep cA av' H' d v := by
  cases d <;> first | exact h | cases hs
theorem Rep.same {d : D} {v : V} (k : Same H H') (h : Rep cA av H d v) : Rep cA av H' d v := h.ext fun b o _ => k b o
theorem RepL.same {xs : List D} {vs : List V} (k : Same H H') (h : RepL cA av H xs vs) : RepL cA av H' xs vs := h.ext fun b o _ => k b o
theorem RepL.nil : RepL cA av H [] [] := by unfold RepL; rfl
theorem RepL.cons {d : D} {v : V} {xs : List D} {vs : List V} (h : Rep cA av H d v) (t : RepL cA av H xs vs) : RepL cA av H (d :: xs) (v :: vs) := by
  unfold RepL
  exact ⟨v, vs, rfl, h, t⟩
theorem RepL.uncons {d : D} {xs : List D} {vs : List V} (h : RepL cA av H (d :: xs) vs) : ∃ v r, vs = v :: r ∧ Rep cA av H d v ∧ RepL cA av H xs r := by
  unfold RepL at h
  exact h
theorem RepL.nil_of {vs : List V} (h : RepL cA av H [] vs) : vs = [] := by
  unfold RepL at h
  exact h
theorem RepL.length : ∀ {xs : List D} {vs : List V}, RepL cA av H xs vs → xs.length = vs.length
  | [], vs, h => by rw [h.nil_of]; rfl
  | x :: xs, vs, h => by
    obtain ⟨v, r, rfl, _, t⟩ := h.uncons
    rw [List.length_cons, List.length_cons, RepL.length t]
theorem RepL.get : ∀ {xs : List D} {vs : List V} {i : Nat} {x : D}, RepL cA av H xs vs → xs[i]? = some x → ∃ v, vs[i]? = some v ∧ Rep cA av H x v
  | [], _, _, _, _, e => by simp at e
  | y :: xs, vs, 0, x, h, e => by
    obtain ⟨v, r, rfl, h1, _⟩ := h.uncons
    simp at e; subst e
    exact ⟨v, rfl, h1⟩
  | y :: xs, vs, i + 1, x, h, e => by
    obtain ⟨v, r, rfl, _, t⟩ := h.uncons
    obtain ⟨u, h1, h2⟩ := RepL.get (i := i) t (by simpa using e)
    exact ⟨u, by simpa using h1, h2⟩
theorem RepL.getV : ∀ {xs : List D} {vs : List V} {i : Nat} {v : V}, RepL cA av H xs vs → vs[i]? = some v → ∃ x, xs[i]? = some x ∧ Rep cA av H x v
  | [], vs, _, _, h, e => by rw [h.nil_of] at e; simp at e
  | y :: xs, vs, 0, v, h, e => by
    obtain ⟨v', r, rfl, h1, _⟩ := h.uncons
    simp at e; subst e
    exact ⟨y, rfl, h1⟩
  | y :: xs, vs, i + 1, v, h, e => by
    obtain ⟨v', r, rfl, _, t⟩ := h.uncons
    obtain ⟨u, h1, h2⟩ := RepL.getV (i := i) t (by simpa using e)
    exact ⟨u, by simpa using h1, h2⟩
theorem RepL.append : ∀ {xs ys : List D} {vs ws : List V}, RepL cA av H xs vs → RepL cA av H ys ws → RepL cA av H (xs ++ ys) (vs ++ ws)
  | [], _, vs, _, h, t => by rw [h.nil_of]; exact t
  | x :: xs, ys, vs, ws, h, t => by
    obtain ⟨v, r, rfl, h1, h2⟩ := h.uncons
    exact .cons h1 (RepL.append h2 t)
theorem RepL.drop : ∀ {xs : List D} {vs : List V} (n : Nat), RepL cA av H xs vs → RepL cA av H (xs.drop n) (vs.drop n)
  | _, _, 0, h => h
  | [], vs, n + 1, h => by rw [h.nil_of]; exact .nil
  | x :: xs, vs, n + 1, h => by
    obtain ⟨v, r, rfl, _, h2⟩ := h.uncons
    exact RepL.drop n h2
theorem RepL.take : ∀ {xs : List D} {vs : List V} (n : Nat), RepL cA av H xs vs → RepL cA av H (xs.take n) (vs.take n)
  | _, _, 0, h => by simp; exact .nil
  | [], vs, n + 1, h => by rw [h.nil_of]; exact .nil
  | x :: xs, vs, n + 1, h => by
    obtain ⟨v, r, rfl, h1, h2⟩ := h.uncons
    exact .cons h1 (RepL.take n h2)
theorem RepL.set {d : D} {v : V} (hd : Rep cA av H d v) : ∀ {xs : List D} {vs : List V} (i : Nat), RepL cA av H xs vs → RepL cA av H (xs.set i d) (vs.set i v)
  | [], vs, _, h => by rw [h.nil_of]; exact .nil
  | x :: xs, vs, 0, h => by
    obtain ⟨v', r, rfl, h1, h2⟩ := h.uncons
    exact .cons hd h2
  | x :: xs, vs, i + 1, h => by
    obtain ⟨v', r, rfl, h1, h2⟩ := h.uncons
    exact .cons h1 (RepL.set hd i h2)
/-- lists of scalars -/
def val : D → V
  | .bl b => .bl b
  | .int i => .int i
  | .str cs => S cs
  | _ => .non
theorem Rep.val {d : D} {v : V} (hs : scalar d = true) (h : Rep cA av H d v) : v = DL.val d := by
  cases d <;> first | exact h | cases hs
theorem Rep.of_val {d : D} (hs : scalar d = true) : Rep cA av H d (DL.val d) := by
  cases d <;> first | rfl | cases hs
theorem RepL.vals : ∀ {xs : List D} {vs : List V}, xs.all scalar = true → RepL cA av H xs vs → vs = xs.map DL.val
  | [], vs, _, h => h.nil_of
  | x :: xs, vs, hs, h => by
    rw [List.all_cons, Bool.and_eq_true] at hs
    obtain ⟨v, r, rfl, h1, h2⟩ := h.uncons
    rw [List.map_cons, h1.val hs.1, RepL.vals hs.2 h2]
theorem RepL.of_vals : ∀ {xs : List D}, xs.all scalar = true → RepL cA av H xs (xs.map DL.val)
  | [], _ => .nil
  | x :: xs, hs => by
    rw [List.all_cons, Bool.and_eq_true] at hs
    exact .cons (.of_val hs.1) (RepL.of_vals hs.2)

/-- the top object avoids t, what it holds i -/
def RepT (cA : Kn) (t i : Addr → Prop) (H : Hp) : D → V → Prop
  | .lst xs, v => ∃ a vs, v = .ref a ∧ (t a → KL cA.K a vs) ∧ SqL cA.K H a vs ∧ RepL cA i H xs vs
  | .tup xs, v => ∃ a vs, v = .ref a ∧ ¬ t a ∧ H a = some (.tup vs) ∧ RepL cA i H xs vs
  | .obj c ks xs, v => ∃ a dx vs, v = .ref a ∧ ¬ t a ∧ H a = some (.ins (cA.c c) dx ((ks.map Str.ofString).zip vs)) ∧ ks.length = xs.length ∧ RepL cA i H xs vs
  | d, v => v = DL.val d
theorem Rep.t {d : D} {v : V} (h : Rep cA av H d v) : RepT cA av av H d v := by
  cases d <;> first | exact h | (unfold Rep at h; exact h)
theorem RepT.r {d : D} {v : V} (h : RepT cA av av H d v) : Rep cA av H d v := by
  cases d <;> first | exact h | (unfold Rep; exact h)
theorem RepT.weak {t t' i i' : Addr → Prop} {d : D} {v : V} (ht : ∀ a, t' a → t a) (hi : ∀ a, i' a → i a) (h : RepT cA t i H d v) : RepT cA t' i' H d v := by
  cases d with
  | lst xs => obtain ⟨a, vs, e, n, r, l⟩ := h; exact ⟨a, vs, e, fun z => n (ht a z), r, l.av fun b z => .inl (hi b z)⟩
  | tup xs => obtain ⟨a, vs, e, n, r, l⟩ := h; exact ⟨a, vs, e, fun z => n (ht a z), r, l.av fun b z => .inl (hi b z)⟩
  | obj c ks xs => obtain ⟨a, dx, vs, e, n, r, z, l⟩ := h; exact ⟨a, dx, vs, e, fun z => n (ht a z), r, z, l.av fun b z => .inl (hi b z)⟩
  | _ => exact h
theorem RepT.same {t i : Addr → Prop} {d : D} {v : V} (k : Same H H') (h : RepT cA t i H d v) : RepT cA t i H' d v := by
  cases d with
  | lst xs => obtain ⟨a, vs, e, n, r, l⟩ := h; exact ⟨a, vs, e, n, k.seq r, l.same k⟩
  | tup xs => obtain ⟨a, vs, e, n, r, l⟩ := h; exact ⟨a, vs, e, n, k a _ r, l.same k⟩
  | obj c ks xs => obtain ⟨a, dx, vs, e, n, r, z, l⟩ := h; exact ⟨a, dx, vs, e, n, k a _ r, z, l.same k⟩
  | _ => exact h
end

abbrev Env := List (Option D)
/-- the classes' addresses; the names that keep their object -/
structure Cn where
  cA : Kn
  pin : Nat → Option Addr
/-- av, and what the def's own names hold alone -/
def AV (av : Addr → Prop) (A : Nat → Option Addr) (a : Addr) : Prop := av a ∨ ∃ i, A i = some a
/-- an object that is the name's alone -/
def Own (cA : Kn) (av : Addr → Prop) (H : Hp) : D → Addr → Prop
  | .lst xs, a => ∃ vs, H a = some (.lst vs) ∧ RepL cA av H xs vs
  | .obj c ks xs, a => ∃ dx vs, H a = some (.ins (cA.c c) dx ((ks.map Str.ofString).zip vs)) ∧ ks.length = xs.length ∧ RepL cA av H xs vs
  | _, _ => False
/-- the names' values hold the data; ow: the names that hold an object of their own -/
structure ER (G : Cn) (ow : List Nat) (H0 : Hp) (av : Addr → Prop) (A : Nat → Option Addr) (σ : St) (H : Hp) (δ : Env) : Prop where
  same : Same H0 H
  avd : ∀ a, av a → H0 a ≠ none
  fr : ∀ i a, A i = some a → H0 a = none
  inj : ∀ i j a, A i = some a → A j = some a → i = j
  live : ∀ i a, A i = some a → H a ≠ none
  dom : ∀ i, A i ≠ none → i ∈ ow
  dom' : ∀ i ∈ ow, A i ≠ none
  len : σ.length = δ.length
  pin : ∀ i a, G.2 i = some a → A i = some a
  var : ∀ (i : Nat) (d : D), δ[i]? = some (some d) → ∃ v, σ[i]? = some (some v) ∧ (A i = none → Rep G.1 (AV av A) H d v) ∧ (∀ a, A i = some a → v = .ref a ∧ Own G.1 (AV av A) H d a)

/-- how much is known of a value: it avoids all that is owned (cl), its parts do (tp), nothing more (dt) -/
inductive Ql where
  | cl | tp | dt
def RepQ (cA : Kn) (av : Addr → Prop) (A : Nat → Option Addr) (H : Hp) : Ql → D → V → Prop
  | .cl, d, v => RepT cA (AV av A) (AV av A) H d v
  | .tp, d, v => RepT cA av (AV av A) H d v
  | .dt, d, v => RepT cA av av H d v
/-- of a part of it -/
def Ql.it : Ql → Ql
  | .dt => .dt
  | _ => .cl
section
variable {cA : Kn} {G : Cn} {ow : List Nat} {H0 H H' : Hp} {av : Addr → Prop} {A : Nat → Option Addr} {σ : St} {δ : Env}
theorem AV.l {a : Addr} (h : av a) : AV av A a := .inl h
def Ql.iv (q : Ql) (av : Addr → Prop) (A : Nat → Option Addr) : Addr → Prop := match q with
  | .dt => av
  | _ => AV av A
theorem RepQ.tp {q : Ql} {d : D} {v : V} (h : RepQ cA av A H q d v) : RepT cA av (q.iv av A) H d v := by
  cases q with
  | cl => exact h.weak (fun a => .inl) fun a z => z
  | tp => exact h
  | dt => exact h
theorem RepQ.any {q : Ql} {d : D} {v : V} (h : RepQ cA av A H q d v) : Rep cA av H d v := by
  cases q with
  | cl => exact (h.weak (fun a => .inl) fun a => .inl).r
  | tp => exact (h.weak (fun a z => z) fun a => .inl).r
  | dt => exact h.r
theorem RepQ.same {q : Ql} {d : D} {v : V} (k : Same H H') (h : RepQ cA av A H q d v) : RepQ cA av A H' q d v := by
  cases q <;> exact RepT.same k h
theorem ER.mono (E : ER G ow H0 av A σ H δ) (k : Same H H') : ER G ow H0 av A σ H' δ := by
  refine ⟨E.same.trans k, E.avd, E.fr, E.inj, fun i a e => ?_, E.dom, E.dom', E.len, E.pin, fun i d e => ?_⟩
  · have := E.live i a e
    cases q : H a with
    | none => exact absurd q this
    | some o => rw [k a o q]; exact fun z => by cases z
  · obtain ⟨v, h1, h2, h3⟩ := E.var i d e
    refine ⟨v, h1, fun z => (h2 z).same k, fun a z => ⟨(h3 a z).1, ?_⟩⟩
    have := (h3 a z).2
    cases d with
    | lst xs => obtain ⟨vs, q1, q2⟩ := this; exact ⟨vs, k _ _ q1, q2.same k⟩
    | obj c ks xs => obtain ⟨dx, vs, q1, q0, q2⟩ := this; exact ⟨dx, vs, k _ _ q1, q0, q2.same k⟩
    | _ => exact this
theorem ER.avl (E : ER G ow H0 av A σ H δ) : ∀ a, AV av A a → H a ≠ none := fun a h => by
  rcases h with h | ⟨i, h⟩
  · have := E.avd a h
    cases q : H0 a with
    | none => exact absurd q this
    | some o => rw [E.same a o q]; exact fun z => by cases z
  · exact E.live i a h
theorem ER.avH (E : ER G ow H0 av A σ H δ) : ∀ a, av a → H a ≠ none := fun a h => E.avl a (.inl h)
end

/-! ### what a reading tells of data -/
def VE (G : Cn) (ow : List Nat) (te : TE) (q : Ql) (ε : Env → Option D) : Prop :=
  ∀ H0 av A σ H δ, ER G ow H0 av A σ H δ → ∀ d, ε δ = some d → ∀ Q : VK, (∀ v H', Same H H' → RepQ G.1 av A H' q d v → Q v H') → te σ H Q
/-- a new list -/
def VF (G : Cn) (ow : List Nat) (te : TE) (ε : Env → Option D) : Prop :=
  ∀ H0 av A σ H δ, ER G ow H0 av A σ H δ → ∀ d, ε δ = some d → ∀ Q : VK, (∀ p vs xs H1, Same H H1 → H1 p = none → RepL G.1 (AV av A) H1 xs vs → d = .lst xs → Q (.ref p) (upd H1 p (.lst vs))) → te σ H Q
def VT (G : Cn) (ow : List Nat) (tt : TT) (τ : Env → Option Bool) : Prop :=
  ∀ H0 av A σ H δ, ER G ow H0 av A σ H δ → ∀ b, τ δ = some b → ∀ Q : Bool → Hp → Prop, (∀ H', Same H H' → Q b H') → tt σ H Q
def RepQL (cA : Kn) (av : Addr → Prop) (A : Nat → Option Addr) (H : Hp) (q : Ql) : List D → List V → Prop
  | [], vs => vs = []
  | x :: xs, vs => ∃ v r, vs = v :: r ∧ RepQ cA av A H q x v ∧ RepQL cA av A H q xs r
def VA (G : Cn) (ow : List Nat) (ta : TA) (q : Ql) (α : Env → Option (List D)) : Prop :=
  ∀ H0 av A σ H δ, ER G ow H0 av A σ H δ → ∀ ds, α δ = some ds → ∀ Q : List V → Hp → Prop, (∀ vs H', Same H H' → RepQL G.1 av A H' q ds vs → Q vs H') → ta σ H Q
section
variable {cA : Kn} {G : Cn} {ow : List Nat}
theorem RepQL.same {av : Addr → Prop} {A : Nat → Option Addr} {H H' : Hp} {q : Ql} (k : Same H H') : ∀ {xs : List D} {vs : List V}, RepQL cA av A H q xs vs → RepQL cA av A H' q xs vs
  | [], _, h => h
  | x :: xs, vs, h => by
    obtain ⟨v, r, e, h1, h2⟩ := h
    exact ⟨v, r, e, h1.same k, RepQL.same k h2⟩
theorem RepQL.cl {av : Addr → Prop} {A : Nat → Option Addr} {H : Hp} : ∀ {xs : List D} {vs : List V}, RepQL cA av A H .cl xs vs → RepL cA (AV av A) H xs vs
  | [], _, h => by unfold RepL; exact h
  | x :: xs, vs, h => by
    obtain ⟨v, r, e, h1, h2⟩ := h
    subst e
    exact .cons (RepT.r h1) (RepQL.cl h2)
theorem RepQL.any {av : Addr → Prop} {A : Nat → Option Addr} {H : Hp} {q : Ql} : ∀ {xs : List D} {vs : List V}, RepQL cA av A H q xs vs → RepL cA av H xs vs
  | [], _, h => by unfold RepL; exact h
  | x :: xs, vs, h => by
    obtain ⟨v, r, e, h1, h2⟩ := h
    subst e
    exact .cons h1.any (RepQL.any h2)
theorem VE.dt {te : TE} {q : Ql} {ε : Env → Option D} (h : VE G ow te q ε) : VE G ow te .dt ε := fun H0 av A σ H δ E d e Q k =>
  h H0 av A σ H δ E d e Q fun v H' s r => k v H' s r.any.t
theorem same_upd {H : Hp} {p : Addr} {o : HO} (h : H p = none) : Same H (upd H p o) := same_new h
theorem VF.cl {te : TE} {ε : Env → Option D} (h : VF G ow te ε) : VE G ow te .cl ε := fun H0 av A σ H δ E d e Q k =>
  h H0 av A σ H δ E d e Q fun p vs xs H1 s hp l hd => by
    subst hd
    refine k _ _ (s.trans (same_upd hp)) ⟨p, vs, rfl, fun z => ((E.mono s).avl p z hp).elim, SqL.of upd_same, l.same (same_upd hp)⟩
/-- where what comes is a scalar -/
def eScal (ε : Env → Option D) (δ : Env) : Option D := match ε δ with
  | some d => if scalar d then some d else none
  | none => none
theorem VE.scal {te : TE} {q : Ql} {ε : Env → Option D} (h : VE G ow te q ε) : VE G ow te .cl (eScal ε) := fun H0 av A σ H δ E d e Q k => by
  unfold eScal at e
  cases he : ε δ with
  | none => rw [he] at e; cases e
  | some d' =>
    rw [he] at e
    by_cases hs : scalar d' = true
    · have e' : d' = d := by simpa [hs] using e
      subst e'
      exact h H0 av A σ H δ E d' he Q fun v H' s r => k v H' s (Rep.scal hs r.any).t
    · simp [hs] at e

/-! ### names, constants -/
def eVar (i : Nat) (δ : Env) : Option D := match δ[i]? with
  | some (some d) => some d
  | _ => none
theorem eVar_some {i : Nat} {δ : Env} {d : D} (h : eVar i δ = some d) : δ[i]? = some (some d) := by
  unfold eVar at h
  cases e : δ[i]? with
  | none => rw [e] at h; cases h
  | some o =>
    rw [e] at h
    cases o with
    | none => cases h
    | some x => exact congrArg (some ∘ some) (Option.some.inj h)
theorem ve_var (i : Nat) (hi : (ow.contains i) = false) : VE G ow (tVar i) .cl (eVar i) := fun H0 av A σ H δ E d e Q k => by
  obtain ⟨v, h1, h2, _⟩ := E.var i d (eVar_some e)
  have hn : A i = none := by
    cases q : A i with
    | none => rfl
    | some a =>
      have := E.dom i (by rw [q]; exact fun z => by cases z)
      simp at hi
      exact absurd this hi
  exact ⟨v, h1, k v H (Same.refl H) (h2 hn).t⟩
theorem ve_own (i : Nat) (hi : (ow.contains i) = true) : VE G ow (tVar i) .tp (eVar i) := fun H0 av A σ H δ E d e Q k => by
  obtain ⟨v, h1, _, h3⟩ := E.var i d (eVar_some e)
  have hi' : i ∈ ow := by simpa using hi
  cases q : A i with
  | none => exact absurd q (E.dom' i hi')
  | some a =>
    obtain ⟨rfl, o⟩ := h3 a q
    have na : ¬ av a := fun z => E.avd a z (E.fr i a q)
    refine ⟨_, h1, k _ H (Same.refl H) ?_⟩
    cases d with
    | lst xs => obtain ⟨vs, q1, q2⟩ := o; exact ⟨a, vs, rfl, fun z => (na z).elim, SqL.of q1, q2⟩
    | obj c ks xs => obtain ⟨dx, vs, q1, q0, q2⟩ := o; exact ⟨a, dx, vs, rfl, na, q1, q0, q2⟩
    | _ => exact False.elim o
def eC (d : D) (_ : Env) : Option D := some d
theorem ve_c {v : V} {d : D} (hs : scalar d = true) (hv : v = val d) : VE G ow (tC v) .cl (eC d) := fun H0 av A σ H δ E d' e Q k => by
  have e' : d = d' := Option.some.inj e
  subst e' hv
  exact k _ H (Same.refl H) (Rep.of_val hs).t

/-! ### two in a row -/
def OpOk (cA : Kn) (r : R2) (f : D → D → Option D) : Prop :=
  ∀ (t t' i : Addr → Prop) (H : Hp) (x y : D) (vx vy : V) (d : D), (∀ a, i a → H a ≠ none) → RepT cA t i H x vx → RepT cA t' i H y vy → f x y = some d → ∀ Q : VK, (∀ v H', Same H H' → Rep cA i H' d v → Q v H') → r vx vy H Q
def eOp (f : D → D → Option D) (a b : Env → Option D) (δ : Env) : Option D := match a δ with
  | some x => match b δ with
    | some y => f x y
    | none => none
  | none => none
theorem eOp_some {f : D → D → Option D} {a b : Env → Option D} {δ : Env} {d : D} (h : eOp f a b δ = some d) : ∃ x y, a δ = some x ∧ b δ = some y ∧ f x y = some d := by
  unfold eOp at h
  cases ea : a δ with
  | none => rw [ea] at h; cases h
  | some x =>
    rw [ea] at h
    cases eb : b δ with
    | none => rw [eb] at h; cases h
    | some y => rw [eb] at h; exact ⟨x, y, rfl, rfl, h⟩
def Ql.jn : Ql → Ql → Ql
  | .dt, _ => .dt
  | _, .dt => .dt
  | _, _ => .cl
theorem ve_op {r : R2} {f : D → D → Option D} {ta tb : TE} {qa qb : Ql} {a b : Env → Option D} (hr : OpOk G.1 r f) (ha : VE G ow ta qa a) (hb : VE G ow tb qb b) : VE G ow (tOp r ta tb) (qa.jn qb) (eOp f a b) := fun H0 av A σ H δ E d e Q k => by
  obtain ⟨x, y, ex, ey, ed⟩ := eOp_some e
  refine ha H0 av A σ H δ E x ex _ fun vx H1 s1 r1 => hb H0 av A σ H1 δ (E.mono s1) y ey _ fun vy H2 s2 r2 => ?_
  have E2 := (E.mono s1).mono s2
  have r1' := (r1.same s2).tp
  have r2' := r2.tp
  have key : ∀ i : Addr → Prop, (∀ a, i a → H2 a ≠ none) → RepT G.1 av i H2 x vx → RepT G.1 av i H2 y vy → (∀ v H', Same H2 H' → Rep G.1 i H' d v → Q v H') → r vx vy H2 Q := fun i hi h1 h2 h3 => hr av av i H2 x y vx vy d hi h1 h2 ed Q h3
  have toav : ∀ {dd : D} {v : V}, RepT G.1 av (AV av A) H2 dd v → RepT G.1 av av H2 dd v := fun h => h.weak (fun a z => z) fun a => .inl
  cases qa with
  | dt =>
    refine key av E2.avH r1' ?_ fun v H' s3 r3 => k v H' ((s1.trans s2).trans s3) r3.t
    cases qb with
    | dt => exact r2'
    | cl => exact toav r2'
    | tp => exact toav r2'
  | cl =>
    cases qb with
    | dt => exact key av E2.avH (toav r1') r2' fun v H' s3 r3 => k v H' ((s1.trans s2).trans s3) r3.t
    | cl => exact key _ E2.avl r1' r2' fun v H' s3 r3 => k v H' ((s1.trans s2).trans s3) r3.t
    | tp => exact key _ E2.avl r1' r2' fun v H' s3 r3 => k v H' ((s1.trans s2).trans s3) r3.t
  | tp =>
    cases qb with
    | dt => exact key av E2.avH (toav r1') r2' fun v H' s3 r3 => k v H' ((s1.trans s2).trans s3) r3.t
    | cl => exact key _ E2.avl r1' r2' fun v H' s3 r3 => k v H' ((s1.trans s2).trans s3) r3.t
    | tp => exact key _ E2.avl r1' r2' fun v H' s3 r3 => k v H' ((s1.trans s2).trans s3) r3.t
end
end DL

namespace DL
open PySem PySem.Spec L2
/-! ### == -/
mutual
def toP : D → PyData
  | .non => .none
  | .bl b => .bool b
  | .int i => .int i
  | .str cs => .str (tx cs)
  | .lst xs => .list (toPs xs)
  | .tup xs => .tuple (toPs xs)
  | .obj _ _ _ => .dict []
def toPs : List D → List PyData
  | [] => []
  | x :: xs => toP x :: toPs xs
end
section
variable {X : Cx} {cA : Kn}
mutual
theorem reads_of {pins : List (Addr × Obj)} {σ : L2.St} {H : Hp} {s : Shared} {av : Addr → Prop} (hK : cA.K = X.K) (I : Inv X pins σ H s) : ∀ (d : D) (v : V) (u : Value), PyData.canLay0 (toP d) = true → Rep cA av H d v → RelV v u → ∃ as, Reads s.heap u (toP d) as
  | .non, v, u, _, h, r => by
    cases (show v = .non from h); cases r
    exact ⟨_, .none⟩
  | .bl b, v, u, _, h, r => by
    cases (show v = .bl b from h); cases r
    exact ⟨_, .bool b⟩
  | .int i, v, u, _, h, r => by
    cases (show v = .int i from h)
    obtain ⟨t, rfl⟩ := r
    exact ⟨_, .int i t⟩
  | .str cs, v, u, _, h, r => by
    cases (show v = S cs from h)
    obtain ⟨t, rfl⟩ := r
    exact ⟨_, .str _ t⟩
  | .lst xs, v, u, c, h, r => by
    unfold Rep at h
    obtain ⟨a, vs, rfl, _, rd, l⟩ := h
    cases r
    obtain ⟨its, rv, ⟨ob, n, e, hc, hd, hs⟩, z⟩ := I.list (show SqL X.K H a vs from hK ▸ rd)
    obtain ⟨as, ra⟩ := readsL_of hK I xs vs its (by unfold toP PyData.canLay0 at c; exact c) l rv
    unfold toP
    exact ⟨_, .list e hc hs (by simpa using ra)⟩
  | .tup xs, v, u, c, h, r => by
    unfold Rep at h
    obtain ⟨a, vs, rfl, _, rd, l⟩ := h
    cases r
    obtain ⟨z, its, rv, ob, e, hc, n, hd⟩ := (show ObjOk X.prog X.w H s.heap a (.tup vs) from I.hok a _ rd)
    obtain ⟨as, ra⟩ := readsL_of hK I xs vs its (by unfold toP PyData.canLay0 at c; exact c) l rv
    unfold toP
    exact ⟨_, .tuple e hc hd (by simpa using ra)⟩
  | .obj c' ks xs, v, u, c, h, r => by
    unfold toP PyData.canLay0 at c
    cases c
theorem readsL_of {pins : List (Addr × Obj)} {σ : L2.St} {H : Hp} {s : Shared} {av : Addr → Prop} (hK : cA.K = X.K) (I : Inv X pins σ H s) : ∀ (xs : List D) (vs : List V) (us : List Value), PyData.canLayAll0 (toPs xs) = true → RepL cA av H xs vs → Vals vs us → ∃ as, ReadsAll s.heap us (toPs xs) as
  | [], vs, us, _, h, r => by
    rw [h.nil_of] at r
    cases r
    exact ⟨_, .nil⟩
  | x :: xs, vs, us, c, h, r => by
    obtain ⟨v, rr, rfl, h1, h2⟩ := h.uncons
    cases r with
    | cons r1 r2 =>
      unfold toPs PyData.canLayAll0 at c
      rw [Bool.and_eq_true] at c
      obtain ⟨a1, q1⟩ := reads_of hK I x v _ c.1 h1 r1
      obtain ⟨a2, q2⟩ := readsL_of hK I xs rr _ c.2 h2 r2
      unfold toPs
      exact ⟨_, .cons q1 q2⟩
end
end
/-- == as data: scalars, lists and tuples -/
def eqD (x y : D) : Option D :=
  if scalar x && scalar y && scal (val x) (val y) then some (.bl (decide (val x = val y)))
  else if SeqAt.shaped (toP x) && SeqAt.shaped (toP y) then some (.bl (PyData.eqv (toP x) (toP y))) else none
def neD (x y : D) : Option D := match eqD x y with
  | some (.bl b) => some (.bl (!b))
  | _ => none
def rEqD (cA : Kn) (neg : Bool) : R2 := fun x y H Q => ∃ av av' dx dy b, Rep cA av H dx x ∧ Rep cA av' H dy y ∧ eqD dx dy = some (.bl b) ∧ Q (.bl (neg != b)) H
section
variable {X : Cx} {cA : Kn}
theorem op_eqD (hu : X.A.units + 64 < cLine) (hK : cA.K = X.K := by rfl) : OpR X (compareOp .Eq) (rEqD cA false) := by
  intro pins s σ H x y v u Q I rx ry h
  obtain ⟨av, av', dx, dy, b, hx, hy, e, q⟩ := h
  unfold eqD at e
  by_cases h1 : (scalar dx && scalar dy && scal (val dx) (val dy)) = true
  · rw [if_pos h1] at e
    simp only [Bool.and_eq_true] at h1
    obtain ⟨⟨s1, s2⟩, s3⟩ := h1
    have e1 := hx.val s1
    have e2 := hy.val s2
    subst e1 e2
    have e' : decide (val dx = val dy) = b := by simpa using e
    exact op_eq pins s σ H _ _ v u Q I rx ry ⟨s3, by rw [e']; simpa using q⟩
  · rw [if_neg h1] at e
    by_cases h2 : (SeqAt.shaped (toP dx) && SeqAt.shaped (toP dy)) = true
    · rw [if_pos h2] at e
      rw [Bool.and_eq_true] at h2
      obtain ⟨as, ra⟩ := reads_of hK I dx x v (SeqAt.canLay_of_shaped h2.1) hx rx
      obtain ⟨bs, rb⟩ := reads_of hK I dy y u (SeqAt.canLay_of_shaped h2.2) hy ry
      have e' : PyData.eqv (toP dx) (toP dy) = b := by simpa using e
      exact PyProof.Rows.eq_dataH ra rb h2.1 h2.2 hu (by rw [e']; exact ⟨.bl b, H, I, rfl, by simpa using q⟩)
    · rw [if_neg h2] at e
      cases e
theorem op_neD (hu : X.A.units + 64 < cLine) (hK : cA.K = X.K := by rfl) : OpR X (compareOp .NotEq) (rEqD cA true) := by
  intro pins s σ H x y v u Q I rx ry h
  obtain ⟨av, av', dx, dy, b, hx, hy, e, q⟩ := h
  unfold eqD at e
  by_cases h1 : (scalar dx && scalar dy && scal (val dx) (val dy)) = true
  · rw [if_pos h1] at e
    simp only [Bool.and_eq_true] at h1
    obtain ⟨⟨s1, s2⟩, s3⟩ := h1
    have e1 := hx.val s1
    have e2 := hy.val s2
    subst e1 e2
    have e' : decide (val dx = val dy) = b := by simpa using e
    exact op_ne pins s σ H _ _ v u Q I rx ry ⟨s3, by rw [e']; simpa using q⟩
  · rw [if_neg h1] at e
    by_cases h2 : (SeqAt.shaped (toP dx) && SeqAt.shaped (toP dy)) = true
    · rw [if_pos h2] at e
      rw [Bool.and_eq_true] at h2
      obtain ⟨as, ra⟩ := reads_of hK I dx x v (SeqAt.canLay_of_shaped h2.1) hx rx
      obtain ⟨bs, rb⟩ := reads_of hK I dy y u (SeqAt.canLay_of_shaped h2.2) hy ry
      have e' : PyData.eqv (toP dx) (toP dy) = b := by simpa using e
      exact PyProof.Rows.ne_dataH ra rb h2.1 h2.2 hu (by rw [e']; exact ⟨.bl (!b), H, I, rfl, by simpa using q⟩)
    · rw [if_neg h2] at e
      cases e
theorem RepT.av0 {t i : Addr → Prop} {H : Hp} {d : D} {v : V} (h : RepT cA t i H d v) : Rep cA (fun _ => False) H d v := (h.weak (fun _ z => z.elim) fun _ z => z.elim).r
theorem eqD_bl {x y d : D} (h : eqD x y = some d) : ∃ b, d = .bl b := by
  unfold eqD at h
  split at h
  · exact ⟨_, (Option.some.inj h).symm⟩
  · split at h
    · exact ⟨_, (Option.some.inj h).symm⟩
    · cases h
theorem ok_eq : OpOk cA (rEqD cA false) eqD := fun t t' i H x y vx vy d _ hx hy e Q k => by
  obtain ⟨b, rfl⟩ := eqD_bl e
  exact ⟨_, _, x, y, b, hx.av0, hy.av0, e, k _ H (Same.refl H) (by cases b <;> rfl)⟩
theorem ok_ne : OpOk cA (rEqD cA true) neD := fun t t' i H x y vx vy d _ hx hy e Q k => by
  unfold neD at e
  cases he : eqD x y with
  | none => rw [he] at e; cases e
  | some z =>
    obtain ⟨b, rfl⟩ := eqD_bl he
    rw [he] at e
    have e' : D.bl (!b) = d := Option.some.inj e
    subst e'
    exact ⟨_, _, x, y, b, hx.av0, hy.av0, he, k _ H (Same.refl H) (by cases b <;> rfl)⟩

/-! ### arithmetic -/
/-- x * n -/
def mulL (x : List Nat) (n : Int) : List Nat := (List.replicate n.toNat x).flatten
theorem foldl_app (x : List Nat) : ∀ (k : Nat) (acc : Array Nat), (List.replicate k x.toArray).foldl (· ++ ·) acc = acc ++ (List.replicate k x).flatten.toArray
  | 0, acc => by simp
  | k + 1, acc => by
    rw [List.replicate_succ, List.replicate_succ, List.foldl_cons, foldl_app x k, List.flatten_cons]
    simp
theorem mul_tx (x : List Nat) (n : Int) : Txt.mul (tx x) n = tx (mulL x n) := by
  unfold Txt.mul mulL
  by_cases h1 : n < 1
  · rw [if_pos h1]
    have : n.toNat = 0 := by omega
    rw [this]
    rfl
  · rw [if_neg h1]
    by_cases h2 : (n == 1 || (tx x).length == 0) = true
    · rw [if_pos h2]
      rw [Bool.or_eq_true] at h2
      rcases h2 with h2 | h2
      · have : n = 1 := by simpa using h2
        subst this
        simp
      · have : x = [] := by
          have : (tx x).length = 0 := by simpa using h2
          rw [tx_len] at this
          exact List.eq_nil_of_length_eq_zero this
        subst this
        simp
    · rw [if_neg h2]
      have := foldl_app x n.toNat #[]
      rw [this]
      simp
def rMulS : R2 := fun x y H Q => ∃ a n, x = S a ∧ y = .int n ∧ (n < 2 ^ 63 ∧ -(2 ^ 63) ≤ n ∧ a.length * n.toNat ≤ sizeLine) ∧ Q (S (mulL a n)) H
theorem op_mulS : OpR X (binaryOp .Mult) rMulS := by
  intro pins s σ H x y v u Q I rx ry h
  obtain ⟨a, n, rfl, rfl, ⟨h1, h2, h3⟩, q⟩ := h
  obtain ⟨t, rfl⟩ := rx
  obtain ⟨t', rfl⟩ := ry
  refine SB.mul ⟨?_, fun hn hc => ?_, fun hn hc => ?_⟩ fun t' k => ⟨S (mulL a n), H, I.tok _, ⟨_, by rw [mul_tx]⟩, q⟩
  · have e1 : decide (n < -(2 ^ 63 : Int)) = false := decide_eq_false (by omega)
    have e2 : decide (n ≥ 2 ^ 63) = false := decide_eq_false (by omega)
    rw [e1, e2]; rfl
  · rw [tx_len]
    have hs : sizeLine = 16777216 := sizeLine_eq
    intro hgt
    have h5 : (a.length : Int) * n ≤ 16777216 := by
      have : (a.length : Int) * n = ((a.length * n.toNat : Nat) : Int) := by
        rw [Int.natCast_mul, Int.toNat_of_nonneg (by omega)]
      rw [this]; omega
    have h6 : (2 ^ 63 - 1) / n < (a.length : Int) := hgt
    have h7 : (2 ^ 63 - 1 : Int) < (a.length : Int) * n := by
      have := Int.lt_mul_of_ediv_lt (show (0 : Int) < n by omega) h6
      rw [Int.mul_comm]; rw [Int.mul_comm] at this; exact this
    omega
  · rw [tx_len]
    show decide (a.length * n.toNat > sizeLine) = false
    exact decide_eq_false (by omega)
def rMulX : R2 := fun x y H Q => rI CMul (fun i j => .int (i * j)) x y H Q ∨ rMulS x y H Q
theorem op_mulD : OpR X (binaryOp .Mult) rMulX := op_mul.or op_mulS
instance (i j : Int) : Decidable (CMul i j) := by unfold CMul; infer_instance
instance (i j : Int) : Decidable (CDiv i j) := by unfold CDiv; infer_instance
def addD : D → D → Option D
  | .int i, .int j => some (.int (i + j))
  | .str a, .str b => if a.length + b.length ≤ sizeLine then some (.str (a ++ b)) else none
  | _, _ => none
def subD : D → D → Option D
  | .int i, .int j => some (.int (i - j))
  | _, _ => none
def mulD : D → D → Option D
  | .int i, .int j => if CMul i j then some (.int (i * j)) else none
  | .str a, .int n => if n < 2 ^ 63 ∧ -(2 ^ 63) ≤ n ∧ a.length * n.toNat ≤ sizeLine then some (.str (mulL a n)) else none
  | _, _ => none
def fdivD : D → D → Option D
  | .int i, .int j => if CDiv i j then some (.int (i / j)) else none
  | _, _ => none
def modD : D → D → Option D
  | .int i, .int j => if 0 < j then some (.int (i % j)) else none
  | _, _ => none
def cmpD (p : Int → Int → Bool) : D → D → Option D
  | .int i, .int j => some (.bl (p i j))
  | _, _ => none
theorem ok_add : OpOk cA rAddX addD := fun t t' i H x y vx vy d _ hx hy e Q k => by
  cases x <;> cases y <;> first | (cases e; done) | skip
  · cases (show vx = _ from hx); cases (show vy = _ from hy)
    cases e
    exact .inl ⟨_, _, rfl, rfl, k _ H (Same.refl H) rfl⟩
  · cases (show vx = _ from hx); cases (show vy = _ from hy)
    rename_i a b
    dsimp only [addD] at e
    by_cases hz : a.length + b.length ≤ sizeLine
    · rw [if_pos hz] at e
      cases e
      exact .inr (.inl ⟨_, _, rfl, rfl, hz, k _ H (Same.refl H) rfl⟩)
    · rw [if_neg hz] at e; cases e
theorem ok_sub : OpOk cA (rI0 fun i j => .int (i - j)) subD := fun t t' i H x y vx vy d _ hx hy e Q k => by
  cases x <;> cases y <;> first | (cases e; done) | skip
  cases (show vx = _ from hx); cases (show vy = _ from hy)
  cases e
  exact ⟨_, _, rfl, rfl, k _ H (Same.refl H) rfl⟩
theorem ok_mul : OpOk cA rMulX mulD := fun t t' i H x y vx vy d _ hx hy e Q k => by
  cases x <;> cases y <;> first | (cases e; done) | skip
  · cases (show vx = _ from hx); cases (show vy = _ from hy)
    rename_i a b
    dsimp only [mulD] at e
    by_cases hz : CMul a b
    · rw [if_pos hz] at e
      cases e
      exact .inl ⟨_, _, rfl, rfl, hz, k _ H (Same.refl H) rfl⟩
    · rw [if_neg hz] at e; cases e
  · cases (show vx = _ from hx); cases (show vy = _ from hy)
    rename_i a n
    dsimp only [mulD] at e
    by_cases hz : n < 2 ^ 63 ∧ -(2 ^ 63) ≤ n ∧ a.length * n.toNat ≤ sizeLine
    · rw [if_pos hz] at e
      cases e
      exact .inr ⟨_, _, rfl, rfl, hz, k _ H (Same.refl H) rfl⟩
    · rw [if_neg hz] at e; cases e
theorem ok_fdiv : OpOk cA (rI CDiv fun i j => .int (i / j)) fdivD := fun t t' i H x y vx vy d _ hx hy e Q k => by
  cases x <;> cases y <;> first | (cases e; done) | skip
  cases (show vx = _ from hx); cases (show vy = _ from hy)
  rename_i a b
  dsimp only [fdivD] at e
  by_cases hz : CDiv a b
  · rw [if_pos hz] at e
    cases e
    exact ⟨_, _, rfl, rfl, hz, k _ H (Same.refl H) rfl⟩
  · rw [if_neg hz] at e; cases e
theorem ok_mod : OpOk cA (rI (fun _ j => 0 < j) fun i j => .int (i % j)) modD := fun t t' i H x y vx vy d _ hx hy e Q k => by
  cases x <;> cases y <;> first | (cases e; done) | skip
  cases (show vx = _ from hx); cases (show vy = _ from hy)
  rename_i a b
  dsimp only [modD] at e
  by_cases hz : 0 < b
  · rw [if_pos hz] at e
    cases e
    exact ⟨_, _, rfl, rfl, hz, k _ H (Same.refl H) rfl⟩
  · rw [if_neg hz] at e; cases e
theorem ok_cmp {p : Int → Int → Bool} : OpOk cA (rI0 fun i j => .bl (p i j)) (cmpD p) := fun t t' i H x y vx vy d _ hx hy e Q k => by
  cases x <;> cases y <;> first | (cases e; done) | skip
  cases (show vx = _ from hx); cases (show vy = _ from hy)
  cases e
  exact ⟨_, _, rfl, rfl, k _ H (Same.refl H) rfl⟩
/-! ### in -/
def inD (neg : Bool) : D → D → Option D
  | .str [c], .str b => some (.bl (neg != decide (c ∈ b)))
  | x, .lst ys => if scalar x && ys.all scalar then some (.bl (if neg then !(inV (val x) (ys.map val)) else inV (val x) (ys.map val))) else none
  | x, .tup ys => if scalar x && ys.all scalar then some (.bl (if neg then !(inV (val x) (ys.map val)) else inV (val x) (ys.map val))) else none
  | _, _ => none
theorem flat_val {d : D} : scalar d = true → flatV (val d) = true := by
  intro h
  cases d <;> first | rfl | cases h
theorem flat_vals : ∀ {xs : List D}, xs.all scalar = true → (xs.map val).all flatV = true
  | [], _ => rfl
  | x :: xs, h => by
    rw [List.all_cons, Bool.and_eq_true] at h
    rw [List.map_cons, List.all_cons, flat_val h.1, flat_vals h.2]
    rfl
theorem rep_val {t i : Addr → Prop} {H : Hp} {d : D} {v : V} (hs : scalar d = true) (h : RepT cA t i H d v) : v = val d := by
  cases d <;> first | exact h | cases hs
theorem ok_in {neg : Bool} : OpOk cA (rInX cA.K neg) (inD neg) := fun t t' i H x y vx vy d _ hx hy e Q k => by
  have seq : ∀ ys, (y = .lst ys ∨ y = .tup ys) → (if scalar x && ys.all scalar then some (D.bl (if neg then !(inV (val x) (ys.map val)) else inV (val x) (ys.map val))) else none) = some d → rInX cA.K neg vx vy H Q := fun ys hy' e => by
    by_cases hz : (scalar x && ys.all scalar) = true
    · rw [if_pos hz] at e
      rw [Bool.and_eq_true] at hz
      have ex := rep_val hz.1 hx
      subst ex
      cases e
      rcases hy' with rfl | rfl
      · obtain ⟨a, vs, rfl, _, rd, l⟩ := hy
        have ev := l.vals hz.2
        subst ev
        exact .inr ⟨a, _, rfl, .inl rd, flat_val hz.1, flat_vals hz.2, k _ H (Same.refl H) rfl⟩
      · obtain ⟨a, vs, rfl, _, rd, l⟩ := hy
        have ev := l.vals hz.2
        subst ev
        exact .inr ⟨a, _, rfl, .inr (SqT.of rd), flat_val hz.1, flat_vals hz.2, k _ H (Same.refl H) rfl⟩
    · rw [if_neg hz] at e; cases e
  cases y with
  | lst ys => exact seq ys (.inl rfl) (by cases x <;> first | exact e | (rename_i cs; cases cs <;> first | exact e | (rename_i c r; cases r <;> exact e)))
  | tup ys => exact seq ys (.inr rfl) (by cases x <;> first | exact e | (rename_i cs; cases cs <;> first | exact e | (rename_i c r; cases r <;> exact e)))
  | str b =>
    cases x with
    | str cs =>
      cases cs with
      | nil => cases e
      | cons c r =>
        cases r with
        | cons _ _ => cases e
        | nil =>
          cases (show vx = _ from hx); cases (show vy = _ from hy)
          cases e
          exact .inl ⟨c, b, rfl, rfl, k _ H (Same.refl H) rfl⟩
    | _ => cases e
  | _ => cases x <;> first | (cases e; done) | (rename_i cs; cases cs <;> first | (cases e; done) | (rename_i c r; cases r <;> cases e))
/-! ### x[i] -/
def ixD : D → D → Option D
  | .lst xs, .int i => atI xs i
  | .tup xs, .int i => atI xs i
  | .str cs, .int i => if cs.length ≤ sizeLine then (atI cs i).map fun c => .str [c] else none
  | _, _ => none
theorem atI_rep {av : Addr → Prop} {H : Hp} {xs : List D} {vs : List V} {i : Int} {d : D} (l : RepL cA av H xs vs) (h : atI xs i = some d) : ∃ v, atI vs i = some v ∧ Rep cA av H d v := by
  unfold atI at h ⊢
  rw [l.length] at h
  cases e : ixN vs.length i with
  | none => rw [e] at h; cases h
  | some j =>
    rw [e] at h
    exact l.get h
theorem ok_ix : OpOk cA (rIxX cA.K) ixD := fun t t' i H x y vx vy d _ hx hy e Q k => by
  cases y <;> first | (cases x <;> cases e; done) | skip
  rename_i j
  cases (show vy = _ from hy)
  cases x <;> first | (cases e; done) | skip
  · cases (show vx = _ from hx)
    rename_i cs
    dsimp only [ixD] at e
    by_cases hz : cs.length ≤ sizeLine
    · rw [if_pos hz] at e
      cases ea : atI cs j with
      | none => rw [ea] at e; cases e
      | some c =>
        rw [ea] at e
        cases e
        exact .inr (.inr ⟨cs, j, c, rfl, rfl, hz, ea, k _ H (Same.refl H) rfl⟩)
    · rw [if_neg hz] at e; cases e
  · obtain ⟨a, vs, rfl, _, rd, l⟩ := hx
    obtain ⟨v, h1, h2⟩ := atI_rep l e
    exact .inl ⟨a, vs, j, v, rfl, rfl, rd, h1, k v H (Same.refl H) h2⟩
  · obtain ⟨a, vs, rfl, _, rd, l⟩ := hx
    obtain ⟨v, h1, h2⟩ := atI_rep l e
    exact .inr (.inl ⟨a, vs, j, v, rfl, rfl, SqT.of rd, h1, k v H (Same.refl H) h2⟩)
end
end DL

namespace DL
open PySem PySem.Spec L2
section
variable {cA : Kn} {G : Cn} {ow : List Nat}
/-! ### tests -/
def bD : Option D → Option Bool
  | some (.bl b) => some b
  | _ => none
theorem bD_some {o : Option D} {b : Bool} (h : bD o = some b) : o = some (.bl b) := by
  cases o with
  | none => cases h
  | some d => cases d <;> first | (cases h; rfl) | cases h
def xB (ε : Env → Option D) (δ : Env) : Option Bool := bD (ε δ)
theorem vt_b {te : TE} {q : Ql} {ε : Env → Option D} (h : VE G ow te q ε) : VT G ow (tB te) (xB ε) := fun H0 av A σ H δ E b e Q k =>
  h H0 av A σ H δ E _ (bD_some e) _ fun v H' s r => ⟨b, by cases q <;> exact r, k H' s⟩
theorem vt_t {te : TE} {q : Ql} {ε : Env → Option D} (h : VE G ow te q ε) : VT G ow (tTest te) (xB ε) := fun H0 av A σ H δ E b e Q k =>
  h H0 av A σ H δ E _ (bD_some e) _ fun v H' s r => ⟨b, by cases q <;> exact r, k H' s⟩
def xNot (τ : Env → Option Bool) (δ : Env) : Option Bool := match τ δ with
  | some b => some (!b)
  | none => none
theorem vt_not {t : TT} {τ : Env → Option Bool} (h : VT G ow t τ) : VT G ow (tNot t) (xNot τ) := fun H0 av A σ H δ E b e Q k => by
  unfold xNot at e
  cases he : τ δ with
  | none => rw [he] at e; cases e
  | some c =>
    rw [he] at e
    cases e
    exact h H0 av A σ H δ E c he _ fun H' s => k H' s
def xAnd (τ υ : Env → Option Bool) (δ : Env) : Option Bool := match τ δ with
  | some true => υ δ
  | some false => some false
  | none => none
def xOr (τ υ : Env → Option Bool) (δ : Env) : Option Bool := match τ δ with
  | some true => some true
  | some false => υ δ
  | none => none
theorem vt_and {t u : TT} {τ υ : Env → Option Bool} (h : VT G ow t τ) (h' : VT G ow u υ) : VT G ow (tAnd t u) (xAnd τ υ) := fun H0 av A σ H δ E b e Q k => by
  unfold xAnd at e
  cases he : τ δ with
  | none => rw [he] at e; cases e
  | some c =>
    rw [he] at e
    refine h H0 av A σ H δ E c he _ fun H' s => ?_
    cases c with
    | true => exact iteT (h' H0 av A σ H' δ (E.mono s) b e _ fun H2 s2 => k H2 (s.trans s2))
    | false => cases e; exact iteF (k H' s)
theorem vt_or {t u : TT} {τ υ : Env → Option Bool} (h : VT G ow t τ) (h' : VT G ow u υ) : VT G ow (tOr t u) (xOr τ υ) := fun H0 av A σ H δ E b e Q k => by
  unfold xOr at e
  cases he : τ δ with
  | none => rw [he] at e; cases e
  | some c =>
    rw [he] at e
    refine h H0 av A σ H δ E c he _ fun H' s => ?_
    cases c with
    | true => cases e; exact iteT (k H' s)
    | false => exact iteF (h' H0 av A σ H' δ (E.mono s) b e _ fun H2 s2 => k H2 (s.trans s2))
theorem vt_yes : VT G ow tYes (fun _ => some true) := fun H0 av A σ H δ E b e Q k => by
  cases e
  exact k H (Same.refl H)
/-! ### bools as values -/
theorem blq {av : Addr → Prop} {A : Nat → Option Addr} {H : Hp} {q : Ql} {b : Bool} : RepQ cA av A H q (.bl b) (.bl b) := by cases q <;> exact rfl
theorem qbl {av : Addr → Prop} {A : Nat → Option Addr} {H : Hp} {q : Ql} {b : Bool} {v : V} (h : RepQ cA av A H q (.bl b) v) : v = .bl b := by cases q <;> exact h
def eAnd (a b : Env → Option D) (δ : Env) : Option D := match a δ with
  | some (.bl true) => b δ
  | some (.bl false) => some (.bl false)
  | _ => none
def eOr (a b : Env → Option D) (δ : Env) : Option D := match a δ with
  | some (.bl true) => some (.bl true)
  | some (.bl false) => b δ
  | _ => none
def eNot (a : Env → Option D) (δ : Env) : Option D := match a δ with
  | some (.bl b) => some (.bl (!b))
  | _ => none
theorem ve_and {ta tb : TE} {qa qb : Ql} {a b : Env → Option D} (ha : VE G ow ta qa a) (hb : VE G ow tb qb b) : VE G ow (tAndV ta tb) qb (eAnd a b) := fun H0 av A σ H δ E d e Q k => by
  unfold eAnd at e
  cases he : a δ with
  | none => rw [he] at e; cases e
  | some x =>
    rw [he] at e
    cases x <;> first | (cases e; done) | skip
    rename_i c
    refine ha H0 av A σ H δ E _ he _ fun v H' s r => ⟨c, qbl r, ?_⟩
    cases c with
    | true => exact iteT (hb H0 av A σ H' δ (E.mono s) d e _ fun v2 H2 s2 r2 => k v2 H2 (s.trans s2) r2)
    | false => cases e; exact iteF (k _ H' s blq)
theorem ve_or {ta tb : TE} {qa qb : Ql} {a b : Env → Option D} (ha : VE G ow ta qa a) (hb : VE G ow tb qb b) : VE G ow (tOrV ta tb) qb (eOr a b) := fun H0 av A σ H δ E d e Q k => by
  unfold eOr at e
  cases he : a δ with
  | none => rw [he] at e; cases e
  | some x =>
    rw [he] at e
    cases x <;> first | (cases e; done) | skip
    rename_i c
    refine ha H0 av A σ H δ E _ he _ fun v H' s r => ⟨c, qbl r, ?_⟩
    cases c with
    | false => exact iteF (hb H0 av A σ H' δ (E.mono s) d e _ fun v2 H2 s2 r2 => k v2 H2 (s.trans s2) r2)
    | true => cases e; exact iteT (k _ H' s blq)
theorem ve_not {ta : TE} {qa : Ql} {a : Env → Option D} (ha : VE G ow ta qa a) : VE G ow (tNotV ta) .cl (eNot a) := fun H0 av A σ H δ E d e Q k => by
  unfold eNot at e
  cases he : a δ with
  | none => rw [he] at e; cases e
  | some x =>
    rw [he] at e
    cases x <;> first | (cases e; done) | skip
    cases e
    exact ha H0 av A σ H δ E _ he _ fun v H' s r => ⟨_, qbl r, k _ H' s blq⟩
def eIf (τ : Env → Option Bool) (a b : Env → Option D) (δ : Env) : Option D := match τ δ with
  | some true => a δ
  | some false => b δ
  | none => none
theorem ve_if {t : TT} {ta tb : TE} {q : Ql} {τ : Env → Option Bool} {a b : Env → Option D} (ht : VT G ow t τ) (ha : VE G ow ta q a) (hb : VE G ow tb q b) : VE G ow (tIf t ta tb) q (eIf τ a b) := fun H0 av A σ H δ E d e Q k => by
  unfold eIf at e
  cases he : τ δ with
  | none => rw [he] at e; cases e
  | some c =>
    rw [he] at e
    refine ht H0 av A σ H δ E c he _ fun H' s => ?_
    cases c with
    | true => exact iteT (ha H0 av A σ H' δ (E.mono s) d e _ fun v H2 s2 r => k v H2 (s.trans s2) r)
    | false => exact iteF (hb H0 av A σ H' δ (E.mono s) d e _ fun v H2 s2 r => k v H2 (s.trans s2) r)
def isNon : D → Bool
  | .non => true
  | _ => false
theorem non_iff {av : Addr → Prop} {H : Hp} {d : D} {v : V} (h : Rep cA av H d v) : decide (v = .non) = isNon d := by
  cases d with
  | non => cases (show v = _ from h); rfl
  | bl b => cases (show v = _ from h); rfl
  | int i => cases (show v = _ from h); rfl
  | str cs => cases (show v = _ from h); rfl
  | lst xs => unfold Rep at h; obtain ⟨a, vs, rfl, _⟩ := h; rfl
  | tup xs => unfold Rep at h; obtain ⟨a, vs, rfl, _⟩ := h; rfl
  | obj c ks xs => unfold Rep at h; obtain ⟨a, dx, vs, rfl, _⟩ := h; rfl
def eIsN (a : Env → Option D) (δ : Env) : Option D := match a δ with
  | some d => some (.bl (isNon d))
  | none => none
def eNotN (a : Env → Option D) (δ : Env) : Option D := match a δ with
  | some d => some (.bl (!isNon d))
  | none => none
theorem ve_isN {ta : TE} {qa : Ql} {a : Env → Option D} (ha : VE G ow ta qa a) : VE G ow (tIsN ta) .cl (eIsN a) := fun H0 av A σ H δ E d e Q k => by
  unfold eIsN at e
  cases he : a δ with
  | none => rw [he] at e; cases e
  | some x =>
    rw [he] at e
    cases e
    refine ha H0 av A σ H δ E _ he _ fun v H' s r => ?_
    rw [non_iff r.any]
    exact k _ H' s blq
theorem ve_notN {ta : TE} {qa : Ql} {a : Env → Option D} (ha : VE G ow ta qa a) : VE G ow (tNotN ta) .cl (eNotN a) := fun H0 av A σ H δ E d e Q k => by
  unfold eNotN at e
  cases he : a δ with
  | none => rw [he] at e; cases e
  | some x =>
    rw [he] at e
    cases e
    refine ha H0 av A σ H δ E _ he _ fun v H' s r => ?_
    rw [non_iff r.any]
    exact k _ H' s blq
/-- a op b op' c -/
def eChain (f g : D → D → Option D) (a b c : Env → Option D) (δ : Env) : Option D := match eOp f a b δ with
  | some (.bl true) => eOp g b c δ
  | some (.bl false) => some (.bl false)
  | _ => none
/-- two comparisons of ints -/
theorem ve_chain {p p' : Int → Int → Bool} {ta tb tc : TE} {qa qb qc : Ql} {a b c : Env → Option D} (ha : VE G ow ta qa a) (hb : VE G ow tb qb b) (hc : VE G ow tc qc c) :
    VE G ow (tChain (rI0 fun i j => .bl (p i j)) (rI0 fun i j => .bl (p' i j)) ta tb tc) .cl (eChain (cmpD p) (cmpD p') a b c) := fun H0 av A σ H δ E d e Q k => by
  unfold eChain at e
  cases he : eOp (cmpD p) a b δ with
  | none => rw [he] at e; cases e
  | some z =>
    rw [he] at e
    obtain ⟨x, y, ex, ey, ez⟩ := eOp_some he
    cases x <;> cases y <;> first | (cases ez; done) | skip
    rename_i i j
    cases ez
    refine ha H0 av A σ H δ E _ ex _ fun vx H1 s1 r1 => hb H0 av A σ H1 δ (E.mono s1) _ ey _ fun vy H2 s2 r2 => ?_
    have e1 : vx = .int i := r1.any
    have e2 : vy = .int j := r2.any
    subst e1 e2
    refine ⟨i, j, rfl, rfl, p i j, rfl, ?_⟩
    have E2 := (E.mono s1).mono s2
    cases hp : p i j with
    | false =>
      rw [hp] at e
      cases e
      exact iteF (k _ H2 (s1.trans s2) blq)
    | true =>
      rw [hp] at e
      obtain ⟨y', w', ey', ew, ez⟩ := eOp_some e
      rw [ey] at ey'
      cases ey'
      cases w' <;> first | (cases ez; done) | skip
      rename_i l
      cases ez
      refine iteT (hc H0 av A σ H2 δ E2 _ ew _ fun vw H3 s3 r3 => ?_)
      have e3 : vw = .int l := r3.any
      subst e3
      exact ⟨j, l, rfl, rfl, k _ H3 ((s1.trans s2).trans s3) blq⟩
def negD : D → Option D
  | .int i => some (.int (-i))
  | _ => none
def eUn (f : D → Option D) (a : Env → Option D) (δ : Env) : Option D := match a δ with
  | some x => f x
  | none => none
theorem ve_neg {ta : TE} {qa : Ql} {a : Env → Option D} (ha : VE G ow ta qa a) : VE G ow (tUn (rU fun i => .int (-i)) ta) .cl (eUn negD a) := fun H0 av A σ H δ E d e Q k => by
  unfold eUn at e
  cases he : a δ with
  | none => rw [he] at e; cases e
  | some x =>
    rw [he] at e
    cases x <;> first | (cases e; done) | skip
    cases e
    refine ha H0 av A σ H δ E _ he _ fun v H' s r => ?_
    have e1 := r.any
    exact ⟨_, e1, k _ H' s rfl⟩
/-! ### argument lists, displays -/
def eNil (_ : Env) : Option (List D) := some []
def eCons (a : Env → Option D) (r : Env → Option (List D)) (δ : Env) : Option (List D) := match a δ with
  | some x => match r δ with
    | some xs => some (x :: xs)
    | none => none
  | none => none
theorem va_nil {q : Ql} : VA G ow tNil q eNil := fun H0 av A σ H δ E ds e Q k => by
  cases e
  exact k [] H (Same.refl H) rfl
theorem va_cons {te : TE} {ta : TA} {q : Ql} {a : Env → Option D} {r : Env → Option (List D)} (ha : VE G ow te q a) (hr : VA G ow ta q r) : VA G ow (tCons te ta) q (eCons a r) := fun H0 av A σ H δ E ds e Q k => by
  unfold eCons at e
  cases he : a δ with
  | none => rw [he] at e; cases e
  | some x =>
    rw [he] at e
    cases hr' : r δ with
    | none => rw [hr'] at e; cases e
    | some xs =>
      rw [hr'] at e
      cases e
      exact ha H0 av A σ H δ E x he _ fun v H1 s1 r1 => hr H0 av A σ H1 δ (E.mono s1) xs hr' _ fun vs H2 s2 r2 => k _ H2 (s1.trans s2) ⟨v, vs, rfl, r1.same s2, r2⟩
theorem RepQL.length {av : Addr → Prop} {A : Nat → Option Addr} {H : Hp} {q : Ql} {xs : List D} {vs : List V} (h : RepQL cA av A H q xs vs) : xs.length = vs.length := h.any.length
def eLst (α : Env → Option (List D)) (δ : Env) : Option D := match α δ with
  | some xs => if xs.length ≤ sizeLine then some (.lst xs) else none
  | none => none
theorem vf_lst {t : TA} {α : Env → Option (List D)} (h : VA G ow t .cl α) : VF G ow (tLst t) (eLst α) := fun H0 av A σ H δ E d e Q k => by
  unfold eLst at e
  cases he : α δ with
  | none => rw [he] at e; cases e
  | some xs =>
    rw [he] at e
    by_cases hz : xs.length ≤ sizeLine
    · have e' : D.lst xs = d := by simpa [hz] using e
      exact h H0 av A σ H δ E xs he _ fun vs H1 s1 r1 => ⟨by rw [← r1.length]; exact hz, fun p hp => k p vs xs H1 s1 hp r1.cl e'.symm⟩
    · simp [hz] at e
def eTup (α : Env → Option (List D)) (δ : Env) : Option D := match α δ with
  | some xs => if xs.length ≤ sizeLine then some (.tup xs) else none
  | none => none
theorem ve_tup {t : TA} {α : Env → Option (List D)} (h : VA G ow t .cl α) : VE G ow (tTup t) .cl (eTup α) := fun H0 av A σ H δ E d e Q k => by
  unfold eTup at e
  cases he : α δ with
  | none => rw [he] at e; cases e
  | some xs =>
    rw [he] at e
    by_cases hz : xs.length ≤ sizeLine
    · have e' : D.tup xs = d := by simpa [hz] using e
      subst e'
      refine h H0 av A σ H δ E xs he _ fun vs H1 s1 r1 => ⟨by rw [← r1.length]; exact hz, fun p hp => k _ _ (s1.trans (same_upd hp)) ⟨p, vs, rfl, fun z => (E.mono s1).avl p z hp, upd_same, r1.cl.same (same_upd hp)⟩⟩
    · simp [hz] at e
/-! ### calls of built-ins -/
def RepIL (cA : Kn) (i : Addr → Prop) (H : Hp) : List D → List V → Prop
  | [], vs => vs = []
  | x :: xs, vs => ∃ v r, vs = v :: r ∧ (∃ t, RepT cA t i H x v) ∧ RepIL cA i H xs r
theorem RepQL.il {av : Addr → Prop} {A : Nat → Option Addr} {H : Hp} {q : Ql} : ∀ {xs : List D} {vs : List V}, RepQL cA av A H q xs vs → RepIL cA (q.iv av A) H xs vs
  | [], _, h => h
  | x :: xs, vs, h => by
    obtain ⟨v, r, e, h1, h2⟩ := h
    exact ⟨v, r, e, ⟨_, h1.tp⟩, RepQL.il h2⟩
def CbOk (cA : Kn) (r : List V → Hp → VK → Prop) (f : List D → Option D) : Prop :=
  ∀ (i : Addr → Prop) (H : Hp) (ds : List D) (vs : List V) (d : D), (∀ a, i a → H a ≠ none) → RepIL cA i H ds vs → f ds = some d → ∀ Q : VK, (∀ v H', Same H H' → Rep cA i H' d v → Q v H') → r vs H Q
def eCB (f : List D → Option D) (α : Env → Option (List D)) (δ : Env) : Option D := match α δ with
  | some ds => f ds
  | none => none
theorem ve_cb {r : List V → Hp → VK → Prop} {f : List D → Option D} {t : TA} {q : Ql} {α : Env → Option (List D)} (hr : CbOk G.1 r f) (h : VA G ow t q α) : VE G ow (tCB r t) q.it (eCB f α) := fun H0 av A σ H δ E d e Q k => by
  unfold eCB at e
  cases he : α δ with
  | none => rw [he] at e; cases e
  | some ds =>
    rw [he] at e
    refine h H0 av A σ H δ E ds he _ fun vs H1 s1 r1 => ?_
    have E1 := E.mono s1
    cases q with
    | cl => exact hr _ H1 ds vs d E1.avl r1.il e _ fun v H' s r => k v H' (s1.trans s) r.t
    | tp => exact hr _ H1 ds vs d E1.avl r1.il e _ fun v H' s r => k v H' (s1.trans s) r.t
    | dt => exact hr _ H1 ds vs d E1.avH r1.il e _ fun v H' s r => k v H' (s1.trans s) r.t
theorem il1 {i : Addr → Prop} {H : Hp} {x : D} {vs : List V} (h : RepIL cA i H [x] vs) : ∃ v t, vs = [v] ∧ RepT cA t i H x v := by
  obtain ⟨v, r, rfl, ⟨t, h1⟩, h2⟩ := h
  cases (show r = [] from h2)
  exact ⟨v, t, rfl, h1⟩
theorem il2 {i : Addr → Prop} {H : Hp} {x y : D} {vs : List V} (h : RepIL cA i H [x, y] vs) : ∃ v u t t', vs = [v, u] ∧ RepT cA t i H x v ∧ RepT cA t' i H y u := by
  obtain ⟨v, r, rfl, ⟨t, h1⟩, u, r', rfl, ⟨t', h2⟩, h3⟩ := h
  cases (show r' = [] from h3)
  exact ⟨v, u, t, t', rfl, h1, h2⟩
def lenD : List D → Option D
  | [.str a] => if a.length ≤ sizeLine then some (.int a.length) else none
  | [.lst xs] => some (.int xs.length)
  | [.tup xs] => some (.int xs.length)
  | _ => none
theorem cb_len : CbOk cA (rLenX cA.K) lenD := fun i H ds vs d _ h e Q k => by
  cases ds with
  | nil => cases e
  | cons x r =>
    cases r with
    | cons _ _ => cases x <;> cases e
    | nil =>
      obtain ⟨v, t, rfl, hx⟩ := il1 h
      cases x <;> first | (cases e; done) | skip
      · rename_i a
        dsimp only [lenD] at e
        by_cases hz : a.length ≤ sizeLine
        · rw [if_pos hz] at e
          cases e
          exact .inl ⟨a, by rw [show v = S a from hx], hz, k _ H (Same.refl H) rfl⟩
        · rw [if_neg hz] at e; cases e
      · obtain ⟨a, ws, rfl, _, rd, l⟩ := hx
        cases e
        exact .inr ⟨a, ws, rfl, .inl rd, k _ H (Same.refl H) (by rw [l.length]; rfl)⟩
      · obtain ⟨a, ws, rfl, _, rd, l⟩ := hx
        cases e
        exact .inr ⟨a, ws, rfl, .inr (SqT.of rd), k _ H (Same.refl H) (by rw [l.length]; rfl)⟩
def minD : List D → Option D
  | [.int i, .int j] => some (.int (if j < i then j else i))
  | _ => none
def maxD : List D → Option D
  | [.int i, .int j] => some (.int (if j > i then j else i))
  | _ => none
theorem two_ints {f : List D → Option D} {g : Int → Int → D} {ds : List D} {d : D} (hf : ∀ ds d, f ds = some d → ∃ i j, ds = [.int i, .int j] ∧ d = g i j) (e : f ds = some d) : ∃ i j, ds = [.int i, .int j] ∧ d = g i j := hf ds d e
theorem minD_of {ds : List D} {d : D} (e : minD ds = some d) : ∃ i j, ds = [.int i, .int j] ∧ d = .int (if j < i then j else i) := by
  unfold minD at e
  split at e
  · exact ⟨_, _, rfl, (Option.some.inj e).symm⟩
  · cases e
theorem maxD_of {ds : List D} {d : D} (e : maxD ds = some d) : ∃ i j, ds = [.int i, .int j] ∧ d = .int (if j > i then j else i) := by
  unfold maxD at e
  split at e
  · exact ⟨_, _, rfl, (Option.some.inj e).symm⟩
  · cases e
theorem cb_min : CbOk cA (fun xs H Q => ∃ i j, xs = [.int i, .int j] ∧ Q (.int (if j < i then j else i)) H) minD := fun i H ds vs d _ h e Q k => by
  obtain ⟨a, b, rfl, rfl⟩ := minD_of e
  obtain ⟨v, u, t, t', rfl, h1, h2⟩ := il2 h
  cases (show v = _ from h1); cases (show u = _ from h2)
  exact ⟨a, b, rfl, k _ H (Same.refl H) rfl⟩
theorem cb_max : CbOk cA (fun xs H Q => ∃ i j, xs = [.int i, .int j] ∧ Q (.int (if j > i then j else i)) H) maxD := fun i H ds vs d _ h e Q k => by
  obtain ⟨a, b, rfl, rfl⟩ := maxD_of e
  obtain ⟨v, u, t, t', rfl, h1, h2⟩ := il2 h
  cases (show v = _ from h1); cases (show u = _ from h2)
  exact ⟨a, b, rfl, k _ H (Same.refl H) rfl⟩
/-- all, any of a list of bools -/
def bools : List D → Option (List Bool)
  | [] => some []
  | .bl b :: r => match bools r with
    | some bs => some (b :: bs)
    | none => none
  | _ => none
theorem bools_of : ∀ {xs : List D} {bs : List Bool}, bools xs = some bs → xs = bs.map D.bl
  | [], bs, h => by cases h; rfl
  | x :: xs, bs, h => by
    cases x <;> first | (cases h; done) | skip
    rename_i b
    unfold bools at h
    cases hr : bools xs with
    | none => rw [hr] at h; cases h
    | some cs =>
      rw [hr] at h
      cases h
      rw [List.map_cons, bools_of hr]
theorem bools_map (bs : List Bool) : bools (bs.map D.bl) = some bs := by
  induction bs with
  | nil => rfl
  | cons b bs ih => rw [List.map_cons, bools, ih]
def allD (f : List Bool → Bool) : List D → Option D
  | [.lst xs] => match bools xs with
    | some bs => some (.bl (f bs))
    | none => none
  | _ => none
theorem cb_all {f : List Bool → Bool} : CbOk cA (rAllX cA.K f) (allD f) := fun i H ds vs d _ h e Q k => by
  unfold allD at e
  split at e
  · rename_i xs
    cases hb : bools xs with
    | none => rw [hb] at e; cases e
    | some bs =>
      rw [hb] at e
      cases e
      obtain ⟨v, t, rfl, a, ws, rfl, _, rd, l⟩ := il1 h
      have ex := bools_of hb
      subst ex
      have ev := l.vals (by rw [List.all_map]; exact List.all_eq_true.mpr fun _ _ => rfl)
      rw [List.map_map] at ev
      subst ev
      exact ⟨a, bs, rfl, rd, k _ H (Same.refl H) rfl⟩
  · cases e
def intD : List D → Option D
  | [.str a] => if a.length ≤ 640 ∧ a ≠ [] ∧ a.all figB = true then some (.int (valL a : Nat)) else none
  | [.bl b] => some (.int (if b then 1 else 0))
  | _ => none
theorem cb_int : CbOk cA rIntX intD := fun i H ds vs d _ h e Q k => by
  unfold intD at e
  split at e
  · rename_i a
    obtain ⟨v, t, rfl, hx⟩ := il1 h
    cases (show v = _ from hx)
    by_cases hz : a.length ≤ 640 ∧ a ≠ [] ∧ a.all figB = true
    · rw [if_pos hz] at e
      cases e
      exact .inl ⟨a, rfl, hz.1, hz.2.1, hz.2.2, k _ H (Same.refl H) rfl⟩
    · rw [if_neg hz] at e; cases e
  · rename_i b
    obtain ⟨v, t, rfl, hx⟩ := il1 h
    cases (show v = _ from hx)
    cases e
    exact .inr ⟨b, rfl, k _ H (Same.refl H) rfl⟩
  · cases e
def strD : List D → Option D
  | [.int n] => if 0 ≤ n ∧ n < 10 ^ 10 then some (.str (figs n.toNat)) else none
  | _ => none
theorem cb_str : CbOk cA rStrI strD := fun i H ds vs d _ h e Q k => by
  unfold strD at e
  split at e
  · rename_i n
    obtain ⟨v, t, rfl, hx⟩ := il1 h
    cases (show v = _ from hx)
    by_cases hz : 0 ≤ n ∧ n < 10 ^ 10
    · rw [if_pos hz] at e
      cases e
      exact ⟨n.toNat, by rw [Int.toNat_of_nonneg hz.1]; rfl, by omega, k _ H (Same.refl H) rfl⟩
    · rw [if_neg hz] at e; cases e
  · cases e
def tupleD : List D → Option D
  | [.lst xs] => some (.tup xs)
  | [.tup xs] => some (.tup xs)
  | _ => none
/-- list(x): a new list -/
def listD : List D → Option D
  | [.lst xs] => some (.lst xs)
  | [.tup xs] => some (.lst xs)
  | _ => none
theorem vf_list {t : TA} {q : Ql} {α : Env → Option (List D)} (hq : q = .cl ∨ q = .tp) (h : VA G ow t q α) : VF G ow (tCB (rLstOf G.1.K) t) (eCB listD α) := fun H0 av A σ H δ E d e Q k => by
  unfold eCB at e
  cases he : α δ with
  | none => rw [he] at e; cases e
  | some ds =>
    rw [he] at e
    refine h H0 av A σ H δ E ds he _ fun vs H1 s1 r1 => ?_
    have il : RepIL G.1 (AV av A) H1 ds vs := by
      rcases hq with rfl | rfl <;> exact r1.il
    have e : listD ds = some d := e
    unfold listD at e
    split at e
    · rename_i xs
      cases e
      obtain ⟨v, t, rfl, a, ws, rfl, _, rd, l⟩ := il1 il
      exact ⟨a, ws, rfl, .inl rd, fun p hp => k p ws _ H1 s1 hp l rfl⟩
    · rename_i xs
      cases e
      obtain ⟨v, t, rfl, a, ws, rfl, _, rd, l⟩ := il1 il
      exact ⟨a, ws, rfl, .inr (SqT.of rd), fun p hp => k p ws _ H1 s1 hp l rfl⟩
    · cases e
theorem ve_tuple {t : TA} {α : Env → Option (List D)} (h : VA G ow t .cl α) : VE G ow (tCB (rTupOf G.1.K) t) .cl (eCB tupleD α) := fun H0 av A σ H δ E d e Q k => by
  unfold eCB at e
  cases he : α δ with
  | none => rw [he] at e; cases e
  | some ds =>
    rw [he] at e
    refine h H0 av A σ H δ E ds he _ fun vs H1 s1 r1 => ?_
    have E1 := E.mono s1
    have e : tupleD ds = some d := e
    unfold tupleD at e
    split at e
    · rename_i xs
      cases e
      obtain ⟨v, r, rfl, ⟨a, ws, rfl, _, rd, l⟩, h2⟩ := r1
      cases (show r = [] from h2)
      exact ⟨a, ws, rfl, .inl ⟨rd, fun p hp => k _ _ (s1.trans (same_upd hp)) ⟨p, ws, rfl, fun z => E1.avl p z hp, upd_same, l.same (same_upd hp)⟩⟩⟩
    · rename_i xs
      cases e
      obtain ⟨v, r, rfl, ⟨a, ws, rfl, na, rd, l⟩, h2⟩ := r1
      cases (show r = [] from h2)
      exact ⟨a, ws, rfl, .inr ⟨SqT.of rd, k _ H1 s1 ⟨a, ws, rfl, na, rd, l⟩⟩⟩
    · cases e
/-- tuple(xs) of a list of the name's own -/
def tupleLD : List D → Option D
  | [.lst xs] => some (.tup xs)
  | _ => none
theorem ve_tupleO {t : TA} {α : Env → Option (List D)} (h : VA G ow t .tp α) : VE G ow (tCB (rTupOf G.1.K) t) .cl (eCB tupleLD α) := fun H0 av A σ H δ E d e Q k => by
  unfold eCB at e
  cases he : α δ with
  | none => rw [he] at e; cases e
  | some ds =>
    rw [he] at e
    refine h H0 av A σ H δ E ds he _ fun vs H1 s1 r1 => ?_
    have E1 := E.mono s1
    have e : tupleLD ds = some d := e
    unfold tupleLD at e
    split at e
    · rename_i xs
      cases e
      obtain ⟨v, r, rfl, ⟨a, ws, rfl, _, rd, l⟩, h2⟩ := r1
      cases (show r = [] from h2)
      exact ⟨a, ws, rfl, .inl ⟨rd, fun p hp => k _ _ (s1.trans (same_upd hp)) ⟨p, ws, rfl, fun z => E1.avl p z hp, upd_same, l.same (same_upd hp)⟩⟩⟩
    · cases e
end
end DL

namespace DL
open PySem PySem.Spec L2
/-! ### statements -/
inductive Out where
  | nx (δ : Env)
  | rt (d : D)
  | bk (δ : Env)
  | ct (δ : Env)
def Wants (G : Cn) (owN owB owC : List Nat) (H0 : Hp) (av : Addr → Prop) (De : Ends) : Out → Prop
  | .nx δ' => ∀ A' σ' H', ER G owN H0 av A' σ' H' δ' → De.nx σ' H'
  | .rt d => ∀ v H', Same H0 H' → Rep G.1 av H' d v → De.rt v H'
  | .bk δ' => ∀ A' σ' H', ER G owB H0 av A' σ' H' δ' → De.bk σ' H'
  | .ct δ' => ∀ A' σ' H', ER G owC H0 av A' σ' H' δ' → De.ct σ' H'
def VS (G : Cn) (ow owN owB owC : List Nat) (ts : TS) (φ : Env → Option Out) : Prop :=
  ∀ H0 av A σ H δ, ER G ow H0 av A σ H δ → ∀ o, φ δ = some o → ∀ De : Ends, Wants G owN owB owC H0 av De o → ts De σ H
/-- assigning what is clean -/
def VG (G : Cn) (ow ow' : List Nat) (g : TG) (γ : D → Env → Option Env) : Prop :=
  ∀ H0 av A σ H δ, ER G ow H0 av A σ H δ → ∀ d v, Rep G.1 (AV av A) H d v → ∀ δ', γ d δ = some δ' → ∀ Q : L2.St → Hp → Prop, (∀ A' σ' H', Same H H' → ER G ow' H0 av A' σ' H' δ' → Q σ' H') → g v σ H Q
def sub (a b : List Nat) : Bool := a.all fun x => b.contains x
theorem sub_mem {a b : List Nat} (h : sub a b = true) : ∀ x ∈ a, x ∈ b := fun x hx => by
  have := List.all_eq_true.mp h x hx
  simpa using this
section
variable {cA : Kn} {G : Cn} {ow owN owB owC ow1 ow2 : List Nat} {H0 H H' : Hp} {av : Addr → Prop} {A : Nat → Option Addr} {σ : L2.St} {δ : Env}
/-! ### the names' values turn -/
theorem get_set {α : Type} {l : List (Option α)} {i j : Nat} {x y : α} (h : (l.set i (some x))[j]? = some (some y)) : (j = i ∧ y = x ∧ i < l.length) ∨ (j ≠ i ∧ l[j]? = some (some y)) := by
  by_cases e : j = i
  · subst e
    by_cases hl : j < l.length
    · rw [List.getElem?_set_self hl] at h
      exact .inl ⟨rfl, (Option.some.inj (Option.some.inj h)).symm, hl⟩
    · rw [List.getElem?_eq_none (by simpa using hl)] at h
      cases h
  · rw [List.getElem?_set_ne (Ne.symm e)] at h
    exact .inr ⟨e, h⟩
theorem ER.set {i : Nat} {d : D} {v : V} (E : ER G ow H0 av A σ H δ) (h : Rep G.1 (AV av A) H d v) (hw : ∀ j, j ∈ ow1 ↔ j ∈ ow ∧ j ≠ i) (hn : G.2 i = none) :
    ER G ow1 H0 av (fun j => if j = i then none else A j) (σ.set i (some v)) H (δ.set i (some d)) := by
  have less : ∀ b, AV av (fun j => if j = i then none else A j) b → AV av A b := fun b z => by
    rcases z with z | ⟨j, z⟩
    · exact .inl z
    · by_cases e : j = i
      · simp [e] at z
      · simp [e] at z; exact .inr ⟨j, z⟩
  refine ⟨E.same, E.avd, fun j a e => ?_, fun j k a e1 e2 => ?_, fun j a e => ?_, fun j e => ?_, fun j hj => ?_, by simp [E.len], fun j a e => (by
      have q : j ≠ i := fun z => by rw [z, hn] at e; cases e
      simp only [q, if_false]; exact E.pin j a e), fun j d' e => ?_⟩
  · by_cases q : j = i
    · simp [q] at e
    · simp [q] at e; exact E.fr j a e
  · by_cases q : j = i
    · simp [q] at e1
    · by_cases q2 : k = i
      · simp [q2] at e2
      · simp [q] at e1; simp [q2] at e2; exact E.inj j k a e1 e2
  · by_cases q : j = i
    · simp [q] at e
    · simp [q] at e; exact E.live j a e
  · by_cases q : j = i
    · simp [q] at e
    · simp [q] at e; exact (hw j).mpr ⟨E.dom j e, q⟩
  · obtain ⟨h1, h2⟩ := (hw j).mp hj
    simp [h2]
    exact E.dom' j h1
  · rcases get_set e with ⟨rfl, rfl, hl⟩ | ⟨q, e'⟩
    · refine ⟨v, ?_, fun _ => h.av fun b z => .inl (less b z), fun a z => by simp at z⟩
      rw [List.getElem?_set_self (by rw [E.len]; exact hl)]
    · obtain ⟨v', h1, h2, h3⟩ := E.var j d' e'
      refine ⟨v', by rw [List.getElem?_set_ne (Ne.symm q)]; exact h1, fun z => ?_, fun a z => ?_⟩
      · simp [q] at z
        exact (h2 z).av fun b z => .inl (less b z)
      · simp [q] at z
        obtain ⟨r1, r2⟩ := h3 a z
        refine ⟨r1, ?_⟩
        cases d' with
        | lst xs => obtain ⟨vs, q1, q2⟩ := r2; exact ⟨vs, q1, q2.av fun b z => .inl (less b z)⟩
        | obj c ks xs => obtain ⟨dx, vs, q1, q0, q2⟩ := r2; exact ⟨dx, vs, q1, q0, q2.av fun b z => .inl (less b z)⟩
        | _ => exact r2
theorem ER.own {i : Nat} {xs : List D} {vs : List V} {p : Addr} (E : ER G ow H0 av A σ H δ) (hp : H p = none) (l : RepL G.1 (AV av A) H xs vs) (hw : ∀ j, j ∈ ow1 ↔ j ∈ ow ∨ j = i) (hn : G.2 i = none) :
    ER G ow1 H0 av (fun j => if j = i then some p else A j) (σ.set i (some (.ref p))) (upd H p (.lst vs)) (δ.set i (some (.lst xs))) := by
  have hs : Same H (upd H p (.lst vs)) := same_upd hp
  have less : ∀ b, AV av (fun j => if j = i then some p else A j) b → AV av A b ∨ H b = none := fun b z => by
    rcases z with z | ⟨j, z⟩
    · exact .inl (.inl z)
    · by_cases e : j = i
      · simp [e] at z; subst z; exact .inr hp
      · simp [e] at z; exact .inl (.inr ⟨j, z⟩)
  have np : ∀ j a, A j = some a → a ≠ p := fun j a e z => by subst z; exact E.live j a e hp
  have h0 : H0 p = none := by
    cases q : H0 p with
    | none => rfl
    | some o => rw [E.same p o q] at hp; cases hp
  refine ⟨E.same.trans hs, E.avd, fun j a e => ?_, fun j k a e1 e2 => ?_, fun j a e => ?_, fun j e => ?_, fun j hj => ?_, by simp [E.len], fun j a e => (by
      have q : j ≠ i := fun z => by rw [z, hn] at e; cases e
      simp only [q, if_false]; exact E.pin j a e), fun j d' e => ?_⟩
  · by_cases q : j = i
    · simp [q] at e; subst e; exact h0
    · simp [q] at e; exact E.fr j a e
  · by_cases q : j = i
    · by_cases q2 : k = i
      · rw [q, q2]
      · simp [q] at e1; simp [q2] at e2
        exact absurd e1.symm (np k a e2)
    · by_cases q2 : k = i
      · simp [q] at e1; simp [q2] at e2
        exact absurd e2.symm (np j a e1)
      · simp [q] at e1; simp [q2] at e2; exact E.inj j k a e1 e2
  · by_cases q : j = i
    · simp [q] at e; subst e; rw [upd_same]; exact fun z => by cases z
    · simp [q] at e
      rw [upd_ne (np j a e)]
      exact E.live j a e
  · by_cases q : j = i
    · exact (hw j).mpr (.inr q)
    · simp [q] at e; exact (hw j).mpr (.inl (E.dom j e))
  · by_cases q : j = i
    · simp [q]
    · simp [q]
      exact E.dom' j (((hw j).mp hj).resolve_right q)
  · rcases get_set e with ⟨rfl, rfl, hl⟩ | ⟨q, e'⟩
    · refine ⟨.ref p, ?_, fun z => by simp at z, fun a z => ?_⟩
      · rw [List.getElem?_set_self (by rw [E.len]; exact hl)]
      · simp at z
        subst z
        exact ⟨rfl, vs, upd_same, (l.av less).same hs⟩
    · obtain ⟨v', h1, h2, h3⟩ := E.var j d' e'
      refine ⟨v', by rw [List.getElem?_set_ne (Ne.symm q)]; exact h1, fun z => ?_, fun a z => ?_⟩
      · simp [q] at z
        exact ((h2 z).av less).same hs
      · simp [q] at z
        obtain ⟨r1, r2⟩ := h3 a z
        refine ⟨r1, ?_⟩
        cases d' with
        | lst xs => obtain ⟨vs', q1, q2⟩ := r2; exact ⟨vs', hs _ _ q1, (q2.av less).same hs⟩
        | obj c ks xs => obtain ⟨dx, vs', q1, q0, q2⟩ := r2; exact ⟨dx, vs', hs _ _ q1, q0, (q2.av less).same hs⟩
        | _ => exact r2
/-- the object of a name's own turns -/
theorem ER.put {i : Nat} {a : Addr} {d d' : D} (E : ER G ow H0 av A σ H δ) (hi : A i = some a) (hd : δ[i]? = some (some d)) (hk : ∀ b o, b ≠ a → H b = some o → H' b = some o) (hl : H' a ≠ none) (ho : Own G.1 (AV av A) H' d' a) :
    ER G ow H0 av A σ H' (δ.set i (some d')) := by
  have kk : ∀ b o, ¬ AV av A b → H b = some o → H' b = some o := fun b o n e => hk b o (fun z => n (.inr ⟨i, by rw [z]; exact hi⟩)) e
  refine ⟨fun b o e => hk b o (fun z => ?_) (E.same b o e), E.avd, E.fr, E.inj, fun j b e => ?_, E.dom, E.dom', by simp [E.len], E.pin, fun j d'' e => ?_⟩
  · rw [z, E.fr i a hi] at e; cases e
  · by_cases q : b = a
    · subst q; exact hl
    · have := E.live j b e
      cases e' : H b with
      | none => exact absurd e' this
      | some o => rw [hk b o q e']; exact fun z => by cases z
  · rcases get_set e with ⟨rfl, rfl, hl'⟩ | ⟨q, e'⟩
    · obtain ⟨v, h1, _, h3⟩ := E.var j d hd
      obtain ⟨r1, _⟩ := h3 a hi
      exact ⟨v, h1, fun z => (by rw [hi] at z; cases z), fun b z => by
        rw [hi] at z; cases z
        exact ⟨r1, ho⟩⟩
    · obtain ⟨v', h1, h2, h3⟩ := E.var j d'' e'
      refine ⟨v', h1, fun z => (h2 z).ext kk, fun b z => ?_⟩
      obtain ⟨r1, r2⟩ := h3 b z
      have nb : b ≠ a := fun w => q (E.inj j i a (by rw [← w]; exact z) hi)
      refine ⟨r1, ?_⟩
      cases d'' with
      | lst xs => obtain ⟨vs, q1, q2⟩ := r2; exact ⟨vs, hk _ _ nb q1, q2.ext kk⟩
      | obj c ks xs => obtain ⟨dx, vs, q1, q0, q2⟩ := r2; exact ⟨dx, vs, hk _ _ nb q1, q0, q2.ext kk⟩
      | _ => exact r2
/-- what was a name's own is so no longer -/
theorem ER.freeze (i : Nat) (E : ER G ow H0 av A σ H δ) (hw : ∀ j, j ∈ ow1 ↔ j ∈ ow ∧ j ≠ i) (hn : G.2 i = none) : ER G ow1 H0 av (fun j => if j = i then none else A j) σ H δ := by
  have less : ∀ b, AV av (fun j => if j = i then none else A j) b → AV av A b := fun b z => by
    rcases z with z | ⟨j, z⟩
    · exact .inl z
    · by_cases e : j = i
      · simp [e] at z
      · simp [e] at z; exact .inr ⟨j, z⟩
  refine ⟨E.same, E.avd, fun j a e => ?_, fun j k a e1 e2 => ?_, fun j a e => ?_, fun j e => ?_, fun j hj => ?_, E.len, fun j a e => (by
      have q : j ≠ i := fun z => by rw [z, hn] at e; cases e
      simp only [q, if_false]; exact E.pin j a e), fun j d' e => ?_⟩
  · by_cases q : j = i
    · simp [q] at e
    · simp [q] at e; exact E.fr j a e
  · by_cases q : j = i
    · simp [q] at e1
    · by_cases q2 : k = i
      · simp [q2] at e2
      · simp [q] at e1; simp [q2] at e2; exact E.inj j k a e1 e2
  · by_cases q : j = i
    · simp [q] at e
    · simp [q] at e; exact E.live j a e
  · by_cases q : j = i
    · simp [q] at e
    · simp [q] at e; exact (hw j).mpr ⟨E.dom j e, q⟩
  · obtain ⟨h1, h2⟩ := (hw j).mp hj
    simp [h2]
    exact E.dom' j h1
  · obtain ⟨v', h1, h2, h3⟩ := E.var j d' e
    refine ⟨v', h1, fun z => ?_, fun a z => ?_⟩
    · by_cases q : j = i
      · subst q
        cases hA : A j with
        | none => exact (h2 hA).av fun b z => .inl (less b z)
        | some a =>
          obtain ⟨rfl, r2⟩ := h3 a hA
          have na : ¬ AV av (fun k => if k = j then none else A k) a := fun z => by
            rcases z with z | ⟨k, z⟩
            · exact E.avd a z (E.fr j a hA)
            · by_cases qk : k = j
              · simp [qk] at z
              · simp [qk] at z; exact qk (E.inj k j a z hA)
          cases d' with
          | lst xs => obtain ⟨vs, q1, q2⟩ := r2; unfold Rep; exact ⟨a, vs, rfl, fun z => (na z).elim, SqL.of q1, q2.av fun b z => .inl (less b z)⟩
          | obj c ks xs => obtain ⟨dx, vs, q1, q0, q2⟩ := r2; unfold Rep; exact ⟨a, dx, vs, rfl, na, q1, q0, q2.av fun b z => .inl (less b z)⟩
          | _ => exact False.elim r2
      · simp [q] at z
        exact (h2 z).av fun b z => .inl (less b z)
    · by_cases q : j = i
      · simp [q] at z
      · simp [q] at z
        obtain ⟨r1, r2⟩ := h3 a z
        refine ⟨r1, ?_⟩
        cases d' with
        | lst xs => obtain ⟨vs, q1, q2⟩ := r2; exact ⟨vs, q1, q2.av fun b z => .inl (less b z)⟩
        | obj c ks xs => obtain ⟨dx, vs, q1, q0, q2⟩ := r2; exact ⟨dx, vs, q1, q0, q2.av fun b z => .inl (less b z)⟩
        | _ => exact r2
/-! the heap without what is owned -/
open Classical in
noncomputable def cut (A : Nat → Option Addr) (H : Hp) : Hp := fun b => if ∃ i, A i = some b then none else H b
theorem cut_some {b : Addr} {o : HO} (h : cut A H b = some o) : H b = some o ∧ ¬ ∃ i, A i = some b := by
  unfold cut at h
  by_cases e : ∃ i, A i = some b
  · rw [if_pos e] at h; cases h
  · rw [if_neg e] at h; exact ⟨h, e⟩
theorem cut_of {b : Addr} (e : ¬ ∃ i, A i = some b) : cut A H b = H b := by
  unfold cut
  rw [if_neg e]
theorem ER.cut (E : ER G ow H0 av A σ H δ) : ER G ow (DL.cut A H) av A σ H δ := by
  refine ⟨fun b o e => (cut_some e).1, fun a z => ?_, fun i a e => ?_, E.inj, E.live, E.dom, E.dom', E.len, E.pin, E.var⟩
  · rw [cut_of fun ⟨i, e⟩ => E.avd a z (E.fr i a e)]
    exact E.avH a z
  · unfold DL.cut
    rw [if_pos ⟨i, e⟩]
theorem ER.sub0 (E : ER G ow H0 av A σ H δ) : Same H0 (DL.cut A H) := fun b o e => by
  rw [cut_of fun ⟨i, z⟩ => by rw [E.fr i b z] at e; cases e]
  exact E.same b o e
theorem ER.uncut {A' : Nat → Option Addr} {σ' : L2.St} {δ' : Env} (E : ER G ow H0 av A σ H δ) (E' : ER G ow1 (DL.cut A H) av A' σ' H' δ') : ER G ow1 H0 av A' σ' H' δ' :=
  ⟨E.sub0.trans E'.same, E.avd, fun i a e => E.sub0.free (E'.fr i a e), E'.inj, E'.live, E'.dom, E'.dom', E'.len, E'.pin, E'.var⟩
/-! ### rules -/
def sNext (δ : Env) : Option Out := some (.nx δ)
theorem vs_next : VS G ow ow owB owC tNext sNext := fun H0 av A σ H δ E o e De k => by
  cases e
  exact k A σ H E
def sSeq (φ ψ : Env → Option Out) (δ : Env) : Option Out := match φ δ with
  | some (.nx δ') => ψ δ'
  | r => r
theorem vs_seq {t u : TS} {φ ψ : Env → Option Out} (h1 : VS G ow ow1 owB owC t φ) (h2 : VS G ow1 owN owB owC u ψ) : VS G ow owN owB owC (tSeq t u) (sSeq φ ψ) := fun H0 av A σ H δ E o e De k => by
  unfold sSeq at e
  cases he : φ δ with
  | none => rw [he] at e; cases e
  | some o1 =>
    rw [he] at e
    refine h1 H0 av A σ H δ E o1 he _ ?_
    cases o1 with
    | nx δ' => exact fun A' σ' H' E' => h2 H0 av A' σ' H' δ' E' o e De k
    | rt d => cases e; exact k
    | bk δ' => cases e; exact k
    | ct δ' => cases e; exact k
def sIf (τ : Env → Option Bool) (φ ψ : Env → Option Out) (δ : Env) : Option Out := match τ δ with
  | some true => φ δ
  | some false => ψ δ
  | none => none
theorem vs_if {c : TT} {t u : TS} {τ : Env → Option Bool} {φ ψ : Env → Option Out} (hc : VT G ow c τ) (h1 : VS G ow owN owB owC t φ) (h2 : VS G ow owN owB owC u ψ) : VS G ow owN owB owC (tIfS c t u) (sIf τ φ ψ) := fun H0 av A σ H δ E o e De k => by
  unfold sIf at e
  cases he : τ δ with
  | none => rw [he] at e; cases e
  | some b =>
    rw [he] at e
    refine hc H0 av A σ H δ E b he _ fun H' s => ?_
    cases b with
    | true => exact iteT (h1 H0 av A σ H' δ (E.mono s) o e De k)
    | false => exact iteF (h2 H0 av A σ H' δ (E.mono s) o e De k)
def sRet (ε : Env → Option D) (δ : Env) : Option Out := match ε δ with
  | some d => some (.rt d)
  | none => none
theorem vs_ret {te : TE} {q : Ql} {ε : Env → Option D} (h : VE G ow te q ε) : VS G ow owN owB owC (tRet te) (sRet ε) := fun H0 av A σ H δ E o e De k => by
  unfold sRet at e
  cases he : ε δ with
  | none => rw [he] at e; cases e
  | some d =>
    rw [he] at e
    cases e
    exact h H0 av A σ H δ E d he _ fun v H' s r => k v H' (E.same.trans s) r.any
def sRetN (_ : Env) : Option Out := some (.rt .non)
theorem vs_retN : VS G ow owN owB owC tRetN sRetN := fun H0 av A σ H δ E o e De k => by
  cases e
  exact k .non H E.same rfl
def sNever (_ : Env) : Option Out := none
theorem vs_never {ts : TS} : VS G ow owN owB owC ts sNever := fun H0 av A σ H δ E o e De k => by cases e
def sBreak (δ : Env) : Option Out := some (.bk δ)
def sCont (δ : Env) : Option Out := some (.ct δ)
theorem vs_break : VS G ow owN ow owC tBreak sBreak := fun H0 av A σ H δ E o e De k => by
  cases e
  exact k A σ H E
theorem vs_cont : VS G ow owN owB ow tCont sCont := fun H0 av A σ H δ E o e De k => by
  cases e
  exact k A σ H E
def sAsg (i : Nat) (ε : Env → Option D) (δ : Env) : Option Out := match ε δ with
  | some d => some (.nx (δ.set i (some d)))
  | none => none
theorem mem_minus {i : Nat} (h1 : sub ow1 ow = true) (h2 : ow1.contains i = false) (h3 : sub ow (i :: ow1) = true) : ∀ j, j ∈ ow1 ↔ j ∈ ow ∧ j ≠ i := fun j => by
  constructor
  · intro h
    refine ⟨sub_mem h1 j h, fun e => ?_⟩
    subst e
    have : j ∉ ow1 := by simpa using h2
    exact this h
  · rintro ⟨h, n⟩
    rcases List.mem_cons.mp (sub_mem h3 j h) with e | e
    · exact absurd e n
    · exact e
theorem mem_plus {i : Nat} (h1 : sub ow1 (i :: ow) = true) (h2 : ow1.contains i = true) (h3 : sub ow ow1 = true) : ∀ j, j ∈ ow1 ↔ j ∈ ow ∨ j = i := fun j => by
  constructor
  · intro h
    rcases List.mem_cons.mp (sub_mem h1 j h) with e | e
    · exact .inr e
    · exact .inl e
  · rintro (h | rfl)
    · exact sub_mem h3 j h
    · simpa using h2
theorem vs_asg {te : TE} {ε : Env → Option D} (i : Nat) (h : VE G ow te .cl ε) (hn : G.2 i = none) (h1 : sub owN ow = true) (h2 : owN.contains i = false) (h3 : sub ow (i :: owN) = true) : VS G ow owN owB owC (tAsg te (gName i)) (sAsg i ε) := fun H0 av A σ H δ E o e De k => by
  unfold sAsg at e
  cases he : ε δ with
  | none => rw [he] at e; cases e
  | some d =>
    rw [he] at e
    cases e
    exact h H0 av A σ H δ E d he _ fun v H' s r => k _ _ H' ((E.mono s).set (RepT.r r) (mem_minus h1 h2 h3) hn)
theorem vs_asgO {te : TE} {ε : Env → Option D} (i : Nat) (h : VF G ow te ε) (hn : G.2 i = none) (h1 : sub owN (i :: ow) = true) (h2 : owN.contains i = true) (h3 : sub ow owN = true) : VS G ow owN owB owC (tAsg te (gName i)) (sAsg i ε) := fun H0 av A σ H δ E o e De k => by
  unfold sAsg at e
  cases he : ε δ with
  | none => rw [he] at e; cases e
  | some d =>
    rw [he] at e
    cases e
    refine h H0 av A σ H δ E d he _ fun p vs xs H1 s hp l hd => ?_
    subst hd
    exact k _ _ _ ((E.mono s).own hp l (mem_plus h1 h2 h3) hn)
def sExpr (ε : Env → Option D) (δ : Env) : Option Out := match ε δ with
  | some _ => some (.nx δ)
  | none => none
theorem vs_expr {te : TE} {q : Ql} {ε : Env → Option D} (h : VE G ow te q ε) : VS G ow ow owB owC (tDrop te) (sExpr ε) := fun H0 av A σ H δ E o e De k => by
  unfold sExpr at e
  cases he : ε δ with
  | none => rw [he] at e; cases e
  | some d =>
    rw [he] at e
    cases e
    exact h H0 av A σ H δ E d he _ fun v H' s r => k A σ H' (E.mono s)
/-- xs.append(e) -/
def sApp (i : Nat) (ε : Env → Option D) (δ : Env) : Option Out := match eVar i δ with
  | some (.lst xs) => match ε δ with
    | some d => if xs.length < sizeLine then some (.nx (δ.set i (some (.lst (xs ++ [d]))))) else none
    | none => none
  | _ => none
theorem vs_app {K : PySem.W.Frag} {te : TE} {ε : Env → Option D} (i : Nat) (hi : ow.contains i = true) (h : VE G ow te .cl ε) : VS G ow ow owB owC (tDrop (tBM K "list" rAppend (tVar i) (tCons te tNil))) (sApp i ε) := fun H0 av A σ H δ E o e De k => by
  unfold sApp at e
  cases hv : eVar i δ with
  | none => rw [hv] at e; cases e
  | some x =>
    rw [hv] at e
    cases x <;> first | (cases e; done) | skip
    rename_i xs
    dsimp only at e
    cases he : ε δ with
    | none => rw [he] at e; cases e
    | some d =>
      rw [he] at e
      dsimp only at e
      by_cases hz : xs.length < sizeLine
      · rw [if_pos hz] at e
        cases e
        have hi' : i ∈ ow := by simpa using hi
        cases hA : A i with
        | none => exact absurd hA (E.dom' i hi')
        | some a =>
          obtain ⟨v, h1, _, h3⟩ := E.var i _ (eVar_some hv)
          obtain ⟨rfl, vs, q1, q2⟩ := h3 a hA
          refine ⟨_, h1, .inl ⟨rfl, vs, SqL.of q1⟩, h H0 av A σ H δ E d he _ fun v H' s r => ?_⟩
          have E' := E.mono s
          have q1' := s _ _ q1
          refine ⟨a, vs, v, rfl, rfl, q1', by rw [← q2.length]; exact hz, k A σ _ (E'.put hA (eVar_some hv) (fun b o hb e => by rw [upd_ne hb]; exact e) (by rw [upd_same]; exact fun z => by cases z) ⟨_, upd_same, ?_⟩)⟩
          have ex : ∀ b o, ¬ AV av A b → H' b = some o → upd H' a (.lst (vs ++ [v])) b = some o := fun b o n e => by
            rw [upd_ne fun z => n (.inr ⟨i, by rw [z]; exact hA⟩)]
            exact e
          exact ((q2.same s).append (.cons (RepT.r r) .nil)).ext ex
      · rw [if_neg hz] at e; cases e
/-- a name's own is so no longer, ahead of a block; behind it -/
theorem VS.frz {t : TS} {φ : Env → Option Out} (i : Nat) (h : VS G ow1 owN owB owC t φ) (hn : G.2 i = none) (h1 : sub ow1 ow = true) (h2 : ow1.contains i = false) (h3 : sub ow (i :: ow1) = true) : VS G ow owN owB owC t φ := fun H0 av A σ H δ E o e De k =>
  h H0 av _ σ H δ (E.freeze i (mem_minus h1 h2 h3) hn) o e De k
theorem VS.frzN {t : TS} {φ : Env → Option Out} (i : Nat) (h : VS G ow owN owB owC t φ) (hn : G.2 i = none) (h1 : sub ow1 owN = true) (h2 : ow1.contains i = false) (h3 : sub owN (i :: ow1) = true) : VS G ow ow1 owB owC t φ := fun H0 av A σ H δ E o e De k =>
  h H0 av A σ H δ E o e De (by
    cases o with
    | nx δ' => exact fun A' σ' H' E' => k _ σ' H' (E'.freeze i (mem_minus h1 h2 h3) hn)
    | rt d => exact k
    | bk δ' => exact k
    | ct δ' => exact k)
/-! ### targets -/
def gSet (i : Nat) (d : D) (δ : Env) : Option Env := some (δ.set i (some d))
theorem vg_name (i : Nat) (hi : ow.contains i = false) (hn : G.2 i = none) : VG G ow ow (gName i) (gSet i) := fun H0 av A σ H δ E d v r δ' e Q k => by
  cases e
  exact k _ _ H (Same.refl H) (E.set r (fun j => by
    have : i ∉ ow := by simpa using hi
    exact ⟨fun h => ⟨h, fun z => this (z ▸ h)⟩, fun h => h.1⟩) hn)
def VGs (G : Cn) (ow ow' : List Nat) (g : TGs) (γ : List D → Env → Option Env) : Prop :=
  ∀ H0 av A σ H δ, ER G ow H0 av A σ H δ → ∀ ds vs, RepL G.1 (AV av A) H ds vs → ∀ δ', γ ds δ = some δ' → ∀ Q : L2.St → Hp → Prop, (∀ A' σ' H', Same H H' → (∀ b, AV av A' b → AV av A b) → ER G ow' H0 av A' σ' H' δ' → Q σ' H') → g vs σ H Q
def gsNil (ds : List D) (δ : Env) : Option Env := match ds with
  | [] => some δ
  | _ => none
theorem vgs_nil : VGs G ow ow gNil gsNil := fun H0 av A σ H δ E ds vs r δ' e Q k => by
  cases ds with
  | nil => cases e; exact ⟨r.nil_of, k A σ H (Same.refl H) (fun _ z => z) E⟩
  | cons _ _ => cases e
def gsCons (i : Nat) (γs : List D → Env → Option Env) (ds : List D) (δ : Env) : Option Env := match ds with
  | d :: r => γs r (δ.set i (some d))
  | [] => none
theorem vgs_cons {gs : TGs} {γs : List D → Env → Option Env} (i : Nat) (hi : ow.contains i = false) (hn : G.2 i = none) (h : VGs G ow ow gs γs) : VGs G ow ow (gCons (gName i) gs) (gsCons i γs) := fun H0 av A σ H δ E ds vs r δ' e Q k => by
  cases ds with
  | nil => cases e
  | cons d ds =>
    obtain ⟨v, vr, rfl, r1, r2⟩ := r.uncons
    refine ⟨v, vr, rfl, ?_⟩
    have less : ∀ b, AV av (fun j => if j = i then none else A j) b → AV av A b := fun b z => by
      rcases z with z | ⟨j, z⟩
      · exact .inl z
      · by_cases e : j = i
        · simp [e] at z
        · simp [e] at z; exact .inr ⟨j, z⟩
    have E1 : ER G ow H0 av (fun j => if j = i then none else A j) (σ.set i (some v)) H (δ.set i (some d)) := E.set r1 (fun j => by
      have : i ∉ ow := by simpa using hi
      exact ⟨fun h => ⟨h, fun z => this (z ▸ h)⟩, fun h => h.1⟩) hn
    exact h H0 av _ _ H _ E1 ds vr (r2.av fun b z => .inl (less b z)) δ' e Q fun A' σ' H' s l E' => k A' σ' H' s (fun b z => less b (l b z)) E'
def gTupD (n : Nat) (γs : List D → Env → Option Env) (d : D) (δ : Env) : Option Env := match d with
  | .tup ds => if ds.length = n then γs ds δ else none
  | _ => none
theorem vg_tup {K : PySem.W.Frag} {n : Nat} {gs : TGs} {γs : List D → Env → Option Env} (h : VGs G ow ow gs γs) : VG G ow ow (gTup K n gs) (gTupD n γs) := fun H0 av A σ H δ E d v r δ' e Q k => by
  cases d <;> first | (cases e; done) | skip
  rename_i ds
  dsimp only [gTupD] at e
  by_cases hz : ds.length = n
  · rw [if_pos hz] at e
    unfold Rep at r
    obtain ⟨a, vs, rfl, _, rd, l⟩ := r
    exact ⟨a, vs, rfl, SqT.of rd, by rw [← l.length]; exact hz, h H0 av A σ H δ E ds vs l δ' e Q fun A' σ' H' s _ E' => k A' σ' H' s E'⟩
  · rw [if_neg hz] at e; cases e
/-! ### what is walked -/
def WalkD (cA : Kn) (iv : Addr → Prop) (J : It) (xs : List D) (H0 : Hp) : Prop := ∀ H, Same H0 H →
  (∀ i, i < xs.length → J.go i H) ∧
  (∀ (i : Nat) x v H', xs[i]? = some x → J.yld i H v H' → Same H H' ∧ ∀ av' : Addr → Prop, (∀ b, av' b → H b ≠ none) → (∀ b, av' b → iv b ∨ H0 b = none) → Rep cA av' H' x v) ∧
  (∀ i, xs.length ≤ i → J.stop i H)
def VI (G : Cn) (ow : List Nat) (wi : TI) (ι : Env → Option (List D)) : Prop :=
  ∀ H0 av A σ H δ, ER G ow H0 av A σ H δ → ∀ xs, ι δ = some xs → ∀ R : It → Hp → Prop, (∀ J H1, Same H H1 → WalkD G.1 (AV av A) J xs (DL.cut A H1) → R J H1) → wi σ H R
def forD (γ : D → Env → Option Env) (φ : Env → Option Out) : List D → Env → Option Out
  | [], δ => some (.nx δ)
  | x :: r, δ => match γ x δ with
    | none => none
    | some δ1 => match φ δ1 with
      | none => none
      | some (.nx δ2) => forD γ φ r δ2
      | some (.ct δ2) => forD γ φ r δ2
      | some (.bk δ2) => some (.nx δ2)
      | some (.rt d) => some (.rt d)
def sFor (ι : Env → Option (List D)) (γ : D → Env → Option Env) (φ : Env → Option Out) (δ : Env) : Option Out := match ι δ with
  | some xs => forD γ φ xs δ
  | none => none
theorem vs_for {wi : TI} {g : TG} {tb : TS} {ι : Env → Option (List D)} {γ : D → Env → Option Env} {φ : Env → Option Out} (hi : VI G ow wi ι) (hg : VG G ow ow g γ) (hb : VS G ow ow ow ow tb φ) : VS G ow ow owB owC (tFor wi g tb) (sFor ι γ φ) := fun H0 av A σ H δ E o e De k => by
  unfold sFor at e
  cases he : ι δ with
  | none => rw [he] at e; cases e
  | some xs =>
    rw [he] at e
    have e : forD γ φ xs δ = some o := e
    refine hi H0 av A σ H δ E xs he _ fun J H1 s1 W => ?_
    have E1 := E.mono s1
    refine ⟨fun i m σ' H' => m = xs.length - i ∧ i ≤ xs.length ∧ ∃ A' δ', ER G ow (DL.cut A H1) av A' σ' H' δ' ∧ forD γ φ (xs.drop i) δ' = some o, ⟨xs.length, by simp, Nat.zero_le _, A, δ, E1.cut, e⟩, ?_⟩
    rintro i m σ' H' ⟨rfl, hle, A', δ', E', e'⟩
    obtain ⟨w1, w2, w3⟩ := W H' E'.same
    by_cases hlt : i < xs.length
    · refine .inr ⟨w1 i hlt, fun σ2 H2 => ∃ A2 δ2, ER G ow (DL.cut A H1) av A2 σ2 H2 δ2 ∧ forD γ φ (xs.drop (i + 1)) δ2 = some o, fun σ2 H2 ⟨A2, δ2, E2, e2⟩ => ⟨xs.length - (i + 1), by omega, rfl, hlt, A2, δ2, E2, e2⟩, fun v H2 y => ?_⟩
      have hx : xs[i]? = some xs[i] := List.getElem?_eq_getElem hlt
      obtain ⟨s2, rep⟩ := w2 i _ v H2 hx y
      have E2 := E'.mono s2
      have rep' : Rep G.1 (AV av A') H2 xs[i] v := rep _ E'.avl fun b z => by
        rcases z with z | ⟨j, z⟩
        · exact .inl (.inl z)
        · exact .inr (E'.fr j b z)
      rw [List.drop_eq_getElem_cons hlt] at e'
      unfold forD at e'
      cases hγ : γ xs[i] δ' with
      | none => rw [hγ] at e'; cases e'
      | some δ1 =>
        rw [hγ] at e'
        dsimp only at e'
        refine hg _ av A' σ' H2 δ' E2 _ v rep' δ1 hγ _ fun A3 σ3 H3 s3 E3 => ?_
        cases hφ : φ δ1 with
        | none => rw [hφ] at e'; cases e'
        | some o1 =>
          rw [hφ] at e'
          refine hb _ av A3 σ3 H3 δ1 E3 o1 hφ _ ?_
          cases o1 with
          | nx δ2 => exact fun A4 σ4 H4 E4 => ⟨A4, δ2, E4, e'⟩
          | ct δ2 => exact fun A4 σ4 H4 E4 => ⟨A4, δ2, E4, e'⟩
          | bk δ2 => cases e'; exact fun A4 σ4 H4 E4 => k A4 σ4 H4 (E1.uncut E4)
          | rt d => cases e'; exact fun v H4 s4 r4 => k v H4 (E1.sub0.trans s4) r4
    · have ei : i = xs.length := by omega
      subst ei
      rw [List.drop_length] at e'
      cases e'
      exact .inl ⟨w3 _ (Nat.le_refl _), k A' σ' H' (E1.uncut E')⟩
/-! ### while -/
def whileD (τ : Env → Option Bool) (φ : Env → Option Out) : Nat → Env → Option Out
  | 0, _ => none
  | n + 1, δ => match τ δ with
    | none => none
    | some false => some (.nx δ)
    | some true => match φ δ with
      | none => none
      | some (.nx δ2) => whileD τ φ n δ2
      | some (.ct δ2) => whileD τ φ n δ2
      | some (.bk δ2) => some (.nx δ2)
      | some (.rt d) => some (.rt d)
theorem while_more {τ : Env → Option Bool} {φ : Env → Option Out} : ∀ (n k : Nat) (δ : Env) (o : Out), whileD τ φ n δ = some o → whileD τ φ (n + k) δ = some o
  | 0, _, _, _, h => by cases h
  | n + 1, k, δ, o, h => by
    rw [Nat.add_right_comm]
    unfold whileD at h ⊢
    cases ht : τ δ with
    | none => rw [ht] at h; cases h
    | some b =>
      rw [ht] at h
      cases b with
      | false => exact h
      | true =>
        dsimp only at h ⊢
        cases hp : φ δ with
        | none => rw [hp] at h; cases h
        | some o1 =>
          rw [hp] at h
          cases o1 with
          | nx δ2 => exact while_more n k δ2 o h
          | ct δ2 => exact while_more n k δ2 o h
          | bk δ2 => exact h
          | rt d => exact h
open Classical in
noncomputable def sWhile (τ : Env → Option Bool) (φ : Env → Option Out) (δ : Env) : Option Out := if h : ∃ n o, whileD τ φ n δ = some o then whileD τ φ (Classical.choose h) δ else none
theorem sWhile_of {τ : Env → Option Bool} {φ : Env → Option Out} {δ : Env} {n : Nat} {o : Out} (h : whileD τ φ n δ = some o) : sWhile τ φ δ = some o := by
  have hx : ∃ n o, whileD τ φ n δ = some o := ⟨n, o, h⟩
  unfold sWhile
  rw [dif_pos hx]
  obtain ⟨o', ho'⟩ := Classical.choose_spec hx
  have h1 := while_more _ n δ o' ho'
  have h2 := while_more _ (Classical.choose hx) δ o h
  rw [Nat.add_comm, h2] at h1
  rw [ho', h1]
theorem sWhile_some {τ : Env → Option Bool} {φ : Env → Option Out} {δ : Env} {o : Out} (h : sWhile τ φ δ = some o) : ∃ n, whileD τ φ n δ = some o := by
  unfold sWhile at h
  split at h
  · exact ⟨_, h⟩
  · cases h
theorem vs_while {c : TT} {tb : TS} {τ : Env → Option Bool} {φ : Env → Option Out} (hc : VT G ow c τ) (hb : VS G ow ow ow ow tb φ) : VS G ow ow owB owC (tWhile c tb) (sWhile τ φ) := fun H0 av A σ H δ E o e De k => by
  obtain ⟨n, e⟩ := sWhile_some e
  refine ⟨fun m σ' H' => ∃ A' δ', ER G ow H0 av A' σ' H' δ' ∧ whileD τ φ m δ' = some o, ⟨n, A, δ, E, e⟩, ?_⟩
  rintro m σ' H' ⟨A', δ', E', e'⟩
  cases m with
  | zero => cases e'
  | succ m =>
    unfold whileD at e'
    cases ht : τ δ' with
    | none => rw [ht] at e'; cases e'
    | some b =>
      rw [ht] at e'
      refine hc H0 av A' σ' H' δ' E' b ht _ fun H2 s2 => ?_
      have E2 := E'.mono s2
      cases b with
      | false => cases e'; exact iteF (k A' σ' H2 E2)
      | true =>
        dsimp only at e'
        refine iteT ⟨fun σ3 H3 => ∃ A3 δ3, ER G ow H0 av A3 σ3 H3 δ3 ∧ whileD τ φ m δ3 = some o, fun σ3 H3 ⟨A3, δ3, E3, e3⟩ => ⟨m, Nat.lt_succ_self _, A3, δ3, E3, e3⟩, ?_⟩
        cases hφ : φ δ' with
        | none => rw [hφ] at e'; cases e'
        | some o1 =>
          rw [hφ] at e'
          refine hb H0 av A' σ' H2 δ' E2 o1 hφ _ ?_
          cases o1 with
          | nx δ2 => exact fun A4 σ4 H4 E4 => ⟨A4, δ2, E4, e'⟩
          | ct δ2 => exact fun A4 σ4 H4 E4 => ⟨A4, δ2, E4, e'⟩
          | bk δ2 => cases e'; exact k
          | rt d => cases e'; exact k
end
end DL

namespace DL
open PySem PySem.Spec L2
section
variable {cA : Kn} {G : Cn} {ow owN owB owC : List Nat}
/-! ### what a for walks -/
def iotaA (ε : Env → Option D) (δ : Env) : Option (List D) := match ε δ with
  | some (.lst xs) => some xs
  | some (.tup xs) => some xs
  | some (.str cs) => some (cs.map fun c => .str [c])
  | _ => none
theorem Rep.cut {av : Addr → Prop} {A : Nat → Option Addr} {H : Hp} {d : D} {v : V} (h : Rep cA (AV av A) H d v) : Rep cA (AV av A) (DL.cut A H) d v := h.ext fun b o n e => by
  rw [cut_of fun ⟨i, z⟩ => n (.inr ⟨i, z⟩)]
  exact e
theorem RepL.cut {av : Addr → Prop} {A : Nat → Option Addr} {H : Hp} {d : List D} {v : List V} (h : RepL cA (AV av A) H d v) : RepL cA (AV av A) (DL.cut A H) d v := h.ext fun b o n e => by
  rw [cut_of fun ⟨i, z⟩ => n (.inr ⟨i, z⟩)]
  exact e
theorem walkD_list {iv : Addr → Prop} {H0 : Hp} {a : Addr} {vs : List V} {xs : List D} (rd : SqL cA.K H0 a vs) (l : RepL cA iv H0 xs vs) : WalkD cA iv (Itl cA.K a) xs H0 := fun H s => by
  have rd' : SqL cA.K H a vs := s.seq rd
  refine ⟨fun i hi => ?_, fun i x v H' hx y => ?_, fun i hi => ⟨vs, rd', by rw [← l.length]; exact hi⟩⟩
  · obtain ⟨v, hv, _⟩ := l.get (List.getElem?_eq_getElem hi)
    exact ⟨vs, v, rd', hv⟩
  · obtain ⟨rfl, hy⟩ := y
    obtain ⟨v', hv, r⟩ := l.get hx
    rw [hy vs rd'] at hv
    cases hv
    exact ⟨Same.refl _, fun av' _ h2 => (r.av h2).same s⟩
theorem walkD_tup {K : PySem.W.Frag} {iv : Addr → Prop} {H0 : Hp} {a : Addr} {vs : List V} {xs : List D} (rd : H0 a = some (.tup vs)) (l : RepL cA iv H0 xs vs) : WalkD cA iv (Itt K a) xs H0 := fun H s => by
  have rd' : SqT K H a vs := SqT.of (s _ _ rd)
  refine ⟨fun i hi => ?_, fun i x v H' hx y => ?_, fun i hi => ⟨vs, rd', by rw [← l.length]; exact hi⟩⟩
  · obtain ⟨v, hv, _⟩ := l.get (List.getElem?_eq_getElem hi)
    exact ⟨vs, v, rd', hv⟩
  · obtain ⟨rfl, hy⟩ := y
    obtain ⟨v', hv, r⟩ := l.get hx
    rw [hy vs rd'] at hv
    cases hv
    exact ⟨Same.refl _, fun av' _ h2 => (r.av h2).same s⟩
theorem walkD_str {iv : Addr → Prop} {H0 : Hp} {cs : List Nat} : WalkD cA iv (Its cs) (cs.map fun c => .str [c]) H0 := fun H s => by
  refine ⟨fun i hi => (show i < cs.length by simpa using hi), fun i x v H' hx y => ?_, fun i hi => (show cs.length ≤ i by simpa using hi)⟩
  obtain ⟨rfl, c, hc, rfl⟩ := y
  rw [List.getElem?_map, hc] at hx
  cases hx
  exact ⟨Same.refl _, fun _ _ _ => rfl⟩
theorem vi_any {tl : TE} {ε : Env → Option D} (h : VE G ow tl .cl ε) : VI G ow (iAny G.1.K tl) (iotaA ε) := fun H0 av A σ H δ E xs e R k => by
  unfold iotaA at e
  cases he : ε δ with
  | none => rw [he] at e; cases e
  | some d =>
    rw [he] at e
    refine h H0 av A σ H δ E d he _ fun v H1 s r => ?_
    cases d <;> first | (cases e; done) | skip
    · cases e
      exact .inr (.inr ⟨_, r, k _ H1 s walkD_str⟩)
    · cases e
      obtain ⟨a, vs, rfl, na, rd, l⟩ := r
      exact .inl ⟨a, vs, rfl, rd, k _ H1 s (walkD_list (sq_ext na rd fun b o n e => by rw [cut_of fun ⟨i, z⟩ => n (.inr ⟨i, z⟩)]; exact e) l.cut)⟩
    · cases e
      obtain ⟨a, vs, rfl, na, rd, l⟩ := r
      exact .inr (.inl ⟨a, vs, rfl, SqT.of rd, k _ H1 s (walkD_tup (by rw [cut_of fun ⟨i, z⟩ => na (.inr ⟨i, z⟩)]; exact rd) l.cut)⟩)
/-- the rngI lo, lo + c, .. -/
def rngI (lo c : Int) (n : Nat) : List D := (List.range n).map fun k => .int (lo + (k : Nat) * c)
theorem walkD_rng {iv : Addr → Prop} {H0 : Hp} {lo : Int} {n : Nat} : WalkD cA iv (Itr lo n) (rngI lo 1 n) H0 := fun H s => by
  refine ⟨fun i hi => (show i < n by simpa [rngI] using hi), fun i x v H' hx y => ?_, fun i hi => (show n ≤ i by simpa [rngI] using hi)⟩
  obtain ⟨rfl, rfl⟩ := y
  have hi : i < n := by have := (List.getElem?_eq_some_iff.mp hx).1; simpa [rngI] using this
  have : x = .int (lo + i) := by
    unfold rngI at hx
    rw [List.getElem?_map, List.getElem?_range hi] at hx
    have := Option.some.inj hx
    rw [← this]
    show D.int (lo + (i : Int) * 1) = _
    rw [Int.mul_one]
  subst this
  exact ⟨Same.refl _, fun _ _ _ => rfl⟩
theorem walkD_rngc {iv : Addr → Prop} {H0 : Hp} {lo c : Int} {n : Nat} : WalkD cA iv (Itrc lo c n) (rngI lo c n) H0 := fun H s => by
  refine ⟨fun i hi => (show i < n by simpa [rngI] using hi), fun i x v H' hx y => ?_, fun i hi => (show n ≤ i by simpa [rngI] using hi)⟩
  obtain ⟨rfl, rfl⟩ := y
  have hi : i < n := by have := (List.getElem?_eq_some_iff.mp hx).1; simpa [rngI] using this
  have : x = .int (lo + i * c) := by
    unfold rngI at hx
    rw [List.getElem?_map, List.getElem?_range hi] at hx
    exact (Option.some.inj hx).symm
  subst this
  exact ⟨Same.refl _, fun _ _ _ => rfl⟩
def iotaR (α : Env → Option (List D)) (δ : Env) : Option (List D) := match α δ with
  | some [.int j] => if -(2 ^ 62) ≤ j ∧ j < 2 ^ 62 then some (rngI 0 1 j.toNat) else none
  | some [.int i, .int j] => if -(2 ^ 62) ≤ i ∧ i < 2 ^ 62 ∧ -(2 ^ 62) ≤ j ∧ j < 2 ^ 62 then some (rngI i 1 (j - i).toNat) else none
  | some [.int i, .int j, .int c] => if c ≠ 0 ∧ c.natAbs < 1073741824 ∧ Builtin.Range.small i j c = true then some (rngI i c (Builtin.Range.rangeSize i j c).toNat) else none
  | _ => none
theorem ql1 {av : Addr → Prop} {A : Nat → Option Addr} {H : Hp} {q : Ql} {x : Int} {vs : List V} (h : RepQL cA av A H q [.int x] vs) : vs = [.int x] := by
  obtain ⟨v, r, rfl, h1, h2⟩ := h
  have := h1.any
  cases (show v = _ from this); cases (show r = [] from h2); rfl
theorem ql2 {av : Addr → Prop} {A : Nat → Option Addr} {H : Hp} {q : Ql} {x y : Int} {vs : List V} (h : RepQL cA av A H q [.int x, .int y] vs) : vs = [.int x, .int y] := by
  obtain ⟨v, r, rfl, h1, h2⟩ := h
  have := h1.any
  cases (show v = _ from this); rw [ql1 h2]
theorem ql3 {av : Addr → Prop} {A : Nat → Option Addr} {H : Hp} {q : Ql} {x y z : Int} {vs : List V} (h : RepQL cA av A H q [.int x, .int y, .int z] vs) : vs = [.int x, .int y, .int z] := by
  obtain ⟨v, r, rfl, h1, h2⟩ := h
  have := h1.any
  cases (show v = _ from this); rw [ql2 h2]
theorem vi_rng1 {ta : TA} {q : Ql} {a : Env → Option (List D)} (h : VA G ow ta q a) (hl : ∀ δ ds, a δ = some ds → ds.length = 1) : VI G ow (iRng1 ta) (iotaR a) := fun H0 av A σ H δ E xs e R k => by
  unfold iotaR at e
  cases he : a δ with
  | none => rw [he] at e; cases e
  | some ds =>
    rw [he] at e
    refine h H0 av A σ H δ E ds he _ fun vs H1 s r => ?_
    have hln := hl δ ds he
    split at e
    · rename_i j he2
      cases he2
      by_cases hz : -(2 ^ 62) ≤ j ∧ j < 2 ^ 62
      · rw [if_pos hz] at e
        cases e
        exact ⟨j, ql1 r, hz.1, hz.2, k _ H1 s walkD_rng⟩
      · rw [if_neg hz] at e; cases e
    · rename_i he2; cases he2; simp at hln
    · rename_i he2; cases he2; simp at hln
    · cases e
theorem vi_rng2 {ta : TA} {q : Ql} {a : Env → Option (List D)} (h : VA G ow ta q a) (hl : ∀ δ ds, a δ = some ds → ds.length = 2) : VI G ow (iRng2 ta) (iotaR a) := fun H0 av A σ H δ E xs e R k => by
  unfold iotaR at e
  cases he : a δ with
  | none => rw [he] at e; cases e
  | some ds =>
    rw [he] at e
    refine h H0 av A σ H δ E ds he _ fun vs H1 s r => ?_
    have hln := hl δ ds he
    split at e
    · rename_i he2; cases he2; simp at hln
    · rename_i i j he2
      cases he2
      by_cases hz : -(2 ^ 62) ≤ i ∧ i < 2 ^ 62 ∧ -(2 ^ 62) ≤ j ∧ j < 2 ^ 62
      · rw [if_pos hz] at e
        cases e
        exact ⟨i, j, ql2 r, hz, k _ H1 s walkD_rng⟩
      · rw [if_neg hz] at e; cases e
    · rename_i he2; cases he2; simp at hln
    · cases e
theorem vi_rng3 {ta : TA} {q : Ql} {a : Env → Option (List D)} (h : VA G ow ta q a) (hl : ∀ δ ds, a δ = some ds → ds.length = 3) : VI G ow (iRng3 ta) (iotaR a) := fun H0 av A σ H δ E xs e R k => by
  unfold iotaR at e
  cases he : a δ with
  | none => rw [he] at e; cases e
  | some ds =>
    rw [he] at e
    refine h H0 av A σ H δ E ds he _ fun vs H1 s r => ?_
    have hln := hl δ ds he
    split at e
    · rename_i he2; cases he2; simp at hln
    · rename_i he2; cases he2; simp at hln
    · rename_i i j c he2
      cases he2
      by_cases hz : c ≠ 0 ∧ c.natAbs < 1073741824 ∧ Builtin.Range.small i j c = true
      · rw [if_pos hz] at e
        cases e
        exact ⟨i, j, c, ql3 r, hz, k _ H1 s walkD_rngc⟩
      · rw [if_neg hz] at e; cases e
    · cases e
theorem len_nil {δ : Env} {ds : List D} (h : eNil δ = some ds) : ds.length = 0 := by cases h; rfl
theorem len_cons {a : Env → Option D} {r : Env → Option (List D)} {n : Nat} (hr : ∀ δ ds, r δ = some ds → ds.length = n) : ∀ δ ds, eCons a r δ = some ds → ds.length = n + 1 := fun δ ds h => by
  unfold eCons at h
  cases ha : a δ with
  | none => rw [ha] at h; cases h
  | some x =>
    rw [ha] at h
    cases hr' : r δ with
    | none => rw [hr'] at h; cases h
    | some xs => rw [hr'] at h; cases h; rw [List.length_cons, hr δ xs hr']
theorem len1 {a : Env → Option D} : ∀ δ ds, eCons a eNil δ = some ds → ds.length = 1 := len_cons fun _ _ => len_nil
theorem len2 {a b : Env → Option D} : ∀ δ ds, eCons a (eCons b eNil) δ = some ds → ds.length = 2 := len_cons len1
theorem len3 {a b c : Env → Option D} : ∀ δ ds, eCons a (eCons b (eCons c eNil)) δ = some ds → ds.length = 3 := len_cons len2
/-! ### list comprehensions -/
def blkD (n : Nat) (δ : Env) (js : List Nat) : Env := List.replicate n none ++ js.map fun j => (δ[j]?).getD none
def compD (γ : D → Env → Option Env) (τ : Env → Option Bool) (ε : Env → Option D) (δ0 : Env) : List D → Option (List D)
  | [] => some []
  | x :: r => match γ x δ0 with
    | none => none
    | some δ1 => match τ δ1 with
      | none => none
      | some false => compD γ τ ε δ0 r
      | some true => match ε δ1 with
        | none => none
        | some y => match compD γ τ ε δ0 r with
          | none => none
          | some ys => some (y :: ys)
def eComp (ι : Env → Option (List D)) (γ : D → Env → Option Env) (τ : Env → Option Bool) (ε : Env → Option D) (n : Nat) (js : List Nat) (δ : Env) : Option D := match ι δ with
  | none => none
  | some xs => match compD γ τ ε (blkD n δ js) xs with
    | none => none
    | some ys => if ys.length ≤ sizeLine then some (.lst ys) else none
theorem ER.blk {H0 H : Hp} {av : Addr → Prop} {A : Nat → Option Addr} {σ : L2.St} {δ : Env} (n : Nat) (js : List Nat) (hjs : js.all (fun j => !ow.contains j) = true) (E : ER G ow H0 av A σ H δ) :
    ER ⟨G.1, fun _ => none⟩ [] H (AV av A) (fun _ => none) (L2.blk n σ js) H (blkD n δ js) := by
  refine ⟨Same.refl H, E.avl, fun _ _ z => (by cases z), fun _ _ _ z => (by cases z), fun _ _ z => (by cases z), fun _ z => absurd rfl z, fun _ z => (by cases z), ?_, fun _ _ z => (by cases z), fun i d e => ?_⟩
  · unfold L2.blk blkD pick
    rw [List.length_append, List.length_append, List.length_replicate, List.length_replicate, List.length_map, List.length_map]
  · unfold blkD at e
    by_cases hi : i < n
    · rw [List.getElem?_append_left (by simpa using hi), List.getElem?_replicate, if_pos hi] at e
      cases e
    · rw [List.getElem?_append_right (by simpa using hi), List.length_replicate, List.getElem?_map] at e
      cases hj : js[i - n]? with
      | none => rw [hj] at e; cases e
      | some j =>
        rw [hj] at e
        have e' : (δ[j]?).getD none = some d := Option.some.inj e
        have e2 : δ[j]? = some (some d) := by
          cases q : δ[j]? with
          | none => rw [q] at e'; cases e'
          | some z => rw [q] at e'; exact congrArg some e'
        obtain ⟨v, h1, h2, _⟩ := E.var j d e2
        have hjo : A j = none := by
          cases q : A j with
          | none => rfl
          | some a =>
            have h3 := E.dom j (by rw [q]; exact fun z => by cases z)
            have h4 := List.all_eq_true.mp hjs j (List.mem_of_getElem? hj)
            simp at h4
            exact absurd h3 h4
        refine ⟨v, ?_, fun _ => (h2 hjo).av fun b z => ?_, fun _ z => (by cases z)⟩
        · unfold L2.blk pick
          rw [List.getElem?_append_right (by simpa using hi), List.length_replicate, List.getElem?_map, hj]
          show some ((σ[j]?).getD none) = _
          rw [h1]; rfl
        · rcases z with z | ⟨_, z⟩
          · exact .inl z
          · cases z
theorem vf_comp {wi : TI} {g : TG} {tt : TT} {te : TE} {n : Nat} {js : List Nat} {ι : Env → Option (List D)} {γ : D → Env → Option Env} {τ : Env → Option Bool} {ε : Env → Option D}
    (hjs : js.all (fun j => !ow.contains j) = true) (hi : VI G ow wi ι) (hg : VG ⟨G.1, fun _ => none⟩ [] [] g γ) (ht : VT ⟨G.1, fun _ => none⟩ [] tt τ) (he : VE ⟨G.1, fun _ => none⟩ [] te .cl ε) : VF G ow (tComp wi g tt te n js) (eComp ι γ τ ε n js) := fun H0 av A σ H δ E d e Q k => by
  unfold eComp at e
  cases hι : ι δ with
  | none => rw [hι] at e; cases e
  | some xs =>
    rw [hι] at e
    dsimp only at e
    cases hc : compD γ τ ε (blkD n δ js) xs with
    | none => rw [hc] at e; cases e
    | some full =>
      rw [hc] at e
      dsimp only at e
      by_cases hz : full.length ≤ sizeLine
      · rw [if_pos hz] at e
        have ed : D.lst full = d := Option.some.inj e
        refine hi H0 av A σ H δ E xs hι _ fun J H1 s1 W => ?_
        have E1 := E.mono s1
        refine ⟨fun i m ys H' => m = xs.length - i ∧ i ≤ xs.length ∧ Same H1 H' ∧ ∃ done rest, RepL G.1 (AV av A) H' done ys ∧ compD γ τ ε (blkD n δ js) (xs.drop i) = some rest ∧ done ++ rest = full,
          ⟨xs.length, by simp, Nat.zero_le _, Same.refl _, [], full, .nil, hc, rfl⟩, ?_⟩
        rintro i m ys H' ⟨rfl, hle, s', done, rest, rl, hr, hf⟩
        have E' := E1.mono s'
        have sc : Same (DL.cut A H1) H' := fun b o z => s' b o (cut_some z).1
        obtain ⟨w1, w2, w3⟩ := W H' sc
        by_cases hlt : i < xs.length
        · refine .inr ⟨w1 i hlt, fun v H2 y => ?_⟩
          have hx : xs[i]? = some xs[i] := List.getElem?_eq_getElem hlt
          obtain ⟨s2, rep⟩ := w2 i _ v H2 hx y
          have rep' : Rep G.1 (AV av A) H2 xs[i] v := rep _ E'.avl fun b z => .inl z
          have E2 := E'.mono s2
          have EB : ER ⟨G.1, fun _ => none⟩ [] H2 (AV av A) (fun _ => none) (L2.blk n σ js) H2 (blkD n δ js) := E2.blk n js hjs
          have triv : ∀ (A' : Nat → Option Addr) {σ' : L2.St} {H3 : Hp} {δ' : Env}, ER ⟨G.1, fun _ => none⟩ [] H2 (AV av A) A' σ' H3 δ' → ∀ b, AV (AV av A) A' b ↔ AV av A b := fun A' {σ' H3 δ'} E3 b => by
            constructor
            · rintro (z | ⟨j, z⟩)
              · exact z
              · have := E3.dom j (by rw [z]; exact fun z => by cases z)
                cases this
            · exact fun z => .inl z
          rw [List.drop_eq_getElem_cons hlt] at hr
          unfold compD at hr
          cases hγ : γ xs[i] (blkD n δ js) with
          | none => rw [hγ] at hr; cases hr
          | some δ1 =>
            rw [hγ] at hr
            dsimp only at hr
            refine hg _ _ _ _ H2 _ EB _ v (rep'.av fun b z => .inl ((triv _ EB b).mp z)) δ1 hγ _ fun A3 σ3 H3 s3 E3 => ?_
            cases hτ : τ δ1 with
            | none => rw [hτ] at hr; cases hr
            | some c =>
              rw [hτ] at hr
              refine ht _ _ A3 σ3 H3 δ1 E3 c hτ _ fun H4 s4 => ?_
              have E4 := E3.mono s4
              cases c with
              | false =>
                exact iteF ⟨xs.length - (i + 1), by omega, rfl, hlt, (s'.trans s2).trans (s3.trans s4), done, rest, rl.same ((s2.trans s3).trans s4), hr, hf⟩
              | true =>
                dsimp only at hr
                cases hε : ε δ1 with
                | none => rw [hε] at hr; cases hr
                | some yd =>
                  rw [hε] at hr
                  dsimp only at hr
                  cases hr' : compD γ τ ε (blkD n δ js) (xs.drop (i + 1)) with
                  | none => rw [hr'] at hr; cases hr
                  | some rest' =>
                    rw [hr'] at hr
                    have hrr : yd :: rest' = rest := Option.some.inj hr
                    subst hrr
                    refine iteT (he _ _ A3 σ3 H4 δ1 E4 yd hε _ fun vy H5 s5 r5 => ?_)
                    have sall : Same H' H5 := ((s2.trans s3).trans s4).trans s5
                    refine ⟨?_, xs.length - (i + 1), by omega, rfl, hlt, s'.trans sall, done ++ [yd], rest', (rl.same sall).append (.cons ((RepT.r r5).av fun b z => .inl ((triv _ E4 b).mpr z)) .nil), hr', by rw [← hf]; simp⟩
                    have := congrArg List.length hf
                    rw [List.length_append, List.length_cons] at this
                    have := rl.length
                    omega
        · have ei : i = xs.length := by omega
          subst ei
          rw [List.drop_length] at hr
          cases hr
          refine .inl ⟨w3 _ (Nat.le_refl _), fun p hp => k p ys full H' (s1.trans s') hp (by rw [← hf, List.append_nil]; exact rl) ed.symm⟩
      · rw [if_neg hz] at e; cases e
/-! ### calls of the text's defs -/
/-- a def's promise: what its function m tells -/
def spD (cA : Kn) (n : Nat) (m : List D → Option D) : Sp := fun vs H Q _ => ∃ av ds d, (∀ a, av a → H a ≠ none) ∧ RepL cA av H ds vs ∧ ds.length = n ∧ m ds = some d ∧ ∀ v H', Same H H' → Rep cA av H' d v → Q v H'
def eCall (n : Nat) (m : List D → Option D) (dds : List D) (α : Env → Option (List D)) (δ : Env) : Option D := match α δ with
  | some ds => if (ds ++ dds).length = n then m (ds ++ dds) else none
  | none => none
def Ql.cq : Ql → Ql
  | .cl => .cl
  | _ => .dt
theorem ve_call {n : Nat} {m : List D → Option D} {t : TA} {q : Ql} {α : Env → Option (List D)} {E0 : XK} (dds : List D) (hd : dds.all scalar = true) (h : VA G ow t q α) : VE G ow (tCall (spD G.1 n m) (dds.map val) E0 t) q.cq (eCall n m dds α) := fun H0 av A σ H δ E d e Q k => by
  unfold eCall at e
  cases he : α δ with
  | none => rw [he] at e; cases e
  | some ds =>
    rw [he] at e
    dsimp only at e
    by_cases hz : (ds ++ dds).length = n
    · rw [if_pos hz] at e
      refine h H0 av A σ H δ E ds he _ fun vs H1 s1 r1 => ?_
      have E1 := E.mono s1
      cases q with
      | cl => exact ⟨AV av A, ds ++ dds, d, E1.avl, r1.cl.append (.of_vals hd), hz, e, fun v H' s r => k v H' (s1.trans s) r.t⟩
      | tp => exact ⟨av, ds ++ dds, d, E1.avH, r1.any.append (.of_vals hd), hz, e, fun v H' s r => k v H' (s1.trans s) r.t⟩
      | dt => exact ⟨av, ds ++ dds, d, E1.avH, r1.any.append (.of_vals hd), hz, e, fun v H' s r => k v H' (s1.trans s) r.t⟩
    · rw [if_neg hz] at e; cases e
def run (N : Nat) (φ : Env → Option Out) (ds : List D) : Option D := match φ (ds.map some ++ List.replicate (N - ds.length) none) with
  | some (.rt d) => some d
  | some (.nx _) => some .non
  | _ => none
theorem start_get {N : List Str} {ds : List D} {vs : List V} {av : Addr → Prop} {H : Hp} (r : RepL cA av H ds vs) {i : Nat} {d : D} (h : (ds.map some ++ List.replicate (N.length - ds.length) none)[i]? = some (some d)) :
    ∃ v, (L2.start N vs)[i]? = some (some v) ∧ Rep cA av H d v := by
  by_cases hi : i < ds.length
  · rw [List.getElem?_append_left (by simpa using hi), List.getElem?_map] at h
    cases hd : ds[i]? with
    | none => rw [hd] at h; cases h
    | some x =>
      rw [hd] at h
      cases h
      obtain ⟨v, hv, rv⟩ := r.get hd
      refine ⟨v, ?_, rv⟩
      unfold L2.start
      have : i < vs.length := by rw [← r.length]; exact hi
      rw [List.getElem?_append_left (by simpa using this), List.getElem?_map, hv]
      rfl
  · rw [List.getElem?_append_right (by simpa using hi), List.getElem?_replicate] at h
    split at h <;> cases h
theorem er_start {N : List Str} {ds : List D} {vs : List V} {av : Addr → Prop} {H : Hp} (ha : ∀ a, av a → H a ≠ none) (r : RepL cA av H ds vs) :
    ER ⟨cA, fun _ => none⟩ [] H av (fun _ => none) (L2.start N vs) H (ds.map some ++ List.replicate (N.length - ds.length) none) := by
  refine ⟨Same.refl H, ha, fun _ _ z => (by cases z), fun _ _ _ z => (by cases z), fun _ _ z => (by cases z), fun _ z => absurd rfl z, fun _ z => (by cases z), ?_, fun _ _ z => (by cases z), fun i d e => ?_⟩
  · unfold L2.start
    rw [List.length_append, List.length_append, List.length_map, List.length_map, List.length_replicate, List.length_replicate, r.length]
  · obtain ⟨v, h1, h2⟩ := start_get r e
    refine ⟨v, h1, fun _ => h2.av fun b z => ?_, fun _ z => (by cases z)⟩
    rcases z with z | ⟨_, z⟩
    · exact .inl z
    · cases z
section
variable {P : Program} {w : World} {K : PySem.W.Frag} {mg : Str → Option Value} {base : Heap}
/-- THE RULE of a def: what its body tells -/
theorem fn_D {x qual : Str} {st : Stmt} {f : Addr} {fd : FuncData} {N ps : List Str} {k : Nat} {φ : Env → Option Out} (F : Fun K x qual st f fd) (S : FnScope N ps (defScope st))
    (hbody : ∀ (cdv : Value) (A : Around) (outer : List PySem.Env) (s : Shared) (H : Hp) (E : XK), Room k (A.deeper (PyProof.Rows.envOfC qual (defScope st) s.heap.objs.size f cdv)) →
      ∃ t, PSs (cxOf CX0 P w K mg base N qual (defScope st) f cdv A outer s H E).nox (defBody st) t ∧ ∃ owN, VS ⟨cA, fun _ => none⟩ [] owN [] [] t φ) : FnOk P w K mg base CX0 (k + 1) f fd ps (spD cA ps.length (run N.length φ)) := by
  refine F.ok S (fun vs H Q E h => ?_) fun cdv A outer s H vs Q E hr h => ?_
  · obtain ⟨av, ds, d, _, r, hl, _⟩ := h
    rw [← r.length, hl]
  · obtain ⟨av, ds, d, ha, r, hl, hm, q⟩ := h
    obtain ⟨t, ht, owN, hv⟩ := hbody cdv A outer s H E hr
    refine ⟨t, ht, ?_⟩
    unfold run at hm
    cases hφ : φ (ds.map some ++ List.replicate (N.length - ds.length) none) with
    | none => rw [hφ] at hm; cases hm
    | some o =>
      rw [hφ] at hm
      refine hv H av _ _ H _ (er_start ha r) o hφ _ ?_
      cases o with
      | nx δ' => cases hm; exact fun A' σ' H' E' => q .non H' E'.same rfl
      | rt d' => cases hm; exact fun v H' s' r' => q v H' s' r'
      | bk δ' => cases hm
      | ct δ' => cases hm
end
/-! ### slices -/
theorem cutV_eq {vs : List V} {lo hi : Option Int} : cutV vs lo hi = cutL vs lo hi := by
  unfold cutV cutL
  have e : ∀ n d o, HT.sIx n d o = sIx' n d o := fun n d o => by cases o <;> rfl
  rw [e, e]
theorem RepL.cutL {av : Addr → Prop} {H : Hp} {xs : List D} {vs : List V} (l : RepL cA av H xs vs) (lo hi : Option Int) : RepL cA av H (L2.cutL xs lo hi) (L2.cutL vs lo hi) := by
  unfold L2.cutL
  rw [l.length]
  exact (l.drop _).take _
def xNoP (_ : Env) : Option (Option Int) := some none
def xP (ε : Env → Option D) (δ : Env) : Option (Option Int) := match ε δ with
  | some (.int i) => some (some i)
  | _ => none
def VO (G : Cn) (ow : List Nat) (to : TO) (ω : Env → Option (Option Int)) : Prop :=
  ∀ H0 av A σ H δ, ER G ow H0 av A σ H δ → ∀ x, ω δ = some x → ∀ Q : Option Int → Hp → Prop, (∀ H', Same H H' → Q x H') → to σ H Q
theorem vo_none : VO G ow tNoPart xNoP := fun H0 av A σ H δ E x e Q k => by
  cases e
  exact k H (Same.refl H)
theorem vo_some {te : TE} {q : Ql} {ε : Env → Option D} (h : VE G ow te q ε) : VO G ow (tPart te) (xP ε) := fun H0 av A σ H δ E x e Q k => by
  unfold xP at e
  cases he : ε δ with
  | none => rw [he] at e; cases e
  | some d =>
    rw [he] at e
    cases d <;> first | (cases e; done) | skip
    cases e
    exact h H0 av A σ H δ E _ he _ fun v H' s r => ⟨_, r.any, k H' s⟩
def slD : D → Option Int → Option Int → Option D
  | .str a, lo, hi => if a.length ≤ sizeLine then some (.str (L2.cutL a lo hi)) else none
  | .lst xs, lo, hi => some (.lst (L2.cutL xs lo hi))
  | .tup xs, lo, hi => if sIx' xs.length 0 lo = 0 ∧ sIx' xs.length xs.length hi = xs.length then none else some (.tup (L2.cutL xs lo hi))
  | _, _, _ => none
def eSl (a : Env → Option D) (lo hi : Env → Option (Option Int)) (δ : Env) : Option D := match a δ with
  | some x => match lo δ with
    | some l => match hi δ with
      | some u => slD x l u
      | none => none
    | none => none
  | none => none
theorem eSl_some {a : Env → Option D} {lo hi : Env → Option (Option Int)} {δ : Env} {d : D} (h : eSl a lo hi δ = some d) : ∃ x l u, a δ = some x ∧ lo δ = some l ∧ hi δ = some u ∧ slD x l u = some d := by
  unfold eSl at h
  cases ea : a δ with
  | none => rw [ea] at h; cases h
  | some x =>
    rw [ea] at h
    cases el : lo δ with
    | none => rw [el] at h; cases h
    | some l =>
      rw [el] at h
      cases eu : hi δ with
      | none => rw [eu] at h; cases h
      | some u => rw [eu] at h; exact ⟨x, l, u, rfl, rfl, rfl, h⟩
theorem ve_sl {ta : TE} {tl th : TO} {q : Ql} {a : Env → Option D} {lo hi : Env → Option (Option Int)} (hq : q = .cl ∨ q = .tp) (ha : VE G ow ta q a) (hl : VO G ow tl lo) (hh : VO G ow th hi) : VE G ow (tSl (rSlX G.1.K) ta tl th) .cl (eSl a lo hi) := fun H0 av A σ H δ E d e Q k => by
  obtain ⟨x, l, u, ex, el, eu, ed⟩ := eSl_some e
  refine ha H0 av A σ H δ E x ex _ fun v H1 s1 r1 => hl H0 av A σ H1 δ (E.mono s1) l el _ fun H2 s2 => hh H0 av A σ H2 δ ((E.mono s1).mono s2) u eu _ fun H3 s3 => ?_
  have s13 := s2.trans s3
  have E3 := (E.mono s1).mono s13
  have r3 : RepT G.1 av (AV av A) H3 x v := by
    have := (r1.same s13).tp
    rcases hq with rfl | rfl <;> exact this
  cases x <;> first | (cases ed; done) | skip
  · rename_i cs
    cases (show v = _ from r3)
    dsimp only [slD] at ed
    by_cases hz : cs.length ≤ sizeLine
    · rw [if_pos hz] at ed
      cases ed
      exact .inl ⟨cs, rfl, hz, k _ H3 (s1.trans s13) rfl⟩
    · rw [if_neg hz] at ed; cases ed
  · cases ed
    obtain ⟨p, vs, rfl, _, rd, ll⟩ := r3
    refine .inr (.inl ⟨p, vs, rfl, rd, fun p' hp => ?_⟩)
    rw [cutV_eq]
    exact k _ _ ((s1.trans s13).trans (same_upd hp)) ⟨p', _, rfl, fun z => (E3.avl p' z hp).elim, SqL.of upd_same, (ll.cutL l u).same (same_upd hp)⟩
  · rename_i xs
    dsimp only [slD] at ed
    by_cases hz : sIx' xs.length 0 l = 0 ∧ sIx' xs.length xs.length u = xs.length
    · rw [if_pos hz] at ed; cases ed
    · rw [if_neg hz] at ed
      cases ed
      obtain ⟨p, vs, rfl, _, rd, ll⟩ := r3
      refine .inr (.inr ⟨p, vs, rfl, SqT.of rd, ?_, fun p' hp => ?_⟩)
      · have e : ∀ n d o, HT.sIx n d o = sIx' n d o := fun n d o => by cases o <;> rfl
        rw [e, e, ← ll.length]
        exact hz
      · rw [cutV_eq]
        exact k _ _ ((s1.trans s13).trans (same_upd hp)) ⟨p', _, rfl, fun z => E3.avl p' z hp, upd_same, (ll.cutL l u).same (same_upd hp)⟩
/-! ### isinstance -/
def rIsiX (K : PySem.W.Frag) : List V → Hp → VK → Prop := fun xs H Q => rIsi K xs H Q ∨ ∃ p vs c cv b, xs = [.ref p, c] ∧ (∀ v, RelV c v → v = cv) ∧ KL K p vs ∧ PySem.W.kitOne K (.type "list") cv = some b ∧ Q (.bl b) H
theorem k_isiX {X : Cx} {K : PySem.W.Frag} (hK : X.K = K := by rfl) : CallR X (.builtin "isinstance") (rIsiX K) := by
  subst hK
  intro pins s σ H xs us Q I rs h
  rcases h with h | ⟨p, vs, c, cv, b, rfl, hc, ⟨o, its, n, hk, h1, _⟩, e, q⟩
  · exact call_isi pins s σ H xs us Q I rs h
  · obtain ⟨u, w', rfl, rx, rc⟩ := vals2 rs
    have ec := hc _ rc
    subst ec
    cases (show u = Value.ref p from rx)
    exact PySem.W.kia_one PySem.W.kitx_list I.kIn ⟨o, I.kIn p o hk, h1⟩ e (fun z => nomatch z) fun tk => ⟨.bl b, H, I.tok tk, rfl, q⟩
def kind : D → String
  | .non => "NoneType"
  | .bl _ => "bool"
  | .int _ => "int"
  | .str _ => "str"
  | .lst _ => "list"
  | .tup _ => "tuple"
  | .obj c _ _ => c
def plainKinds : List String := ["NoneType", "bool", "int", "str", "list", "tuple"]
def isiD (tab : List (String × Bool)) : D → Option Bool
  | .obj c _ _ => if plainKinds.contains c then none else tab.lookup c
  | d => tab.lookup (kind d)
def eIsi (tab : List (String × Bool)) (a : Env → Option D) (δ : Env) : Option D := match a δ with
  | some d => match isiD tab d with
    | some b => some (.bl b)
    | none => none
  | none => none
structure ClsI (K : PySem.W.Frag) (C : Addr) : Prop where
  cl : Cls K C
  ha : PySem.W.findIn K (.ref C) "__class__" = some (some (.builtin "object.__class__"))
  hn : PySem.W.specialIn K (.builtin "object.__class__") "__get__" = some (some (.builtin "getset_descriptor.__get__"))
  htk : PySem.W.takesIn K (.builtin "object.__class__") = some true
  hm : PySem.W.mroIn K C (.type "object") = some true
/-- what isinstance tells of the kinds -/
structure IsiOk (K : PySem.W.Frag) (cA : Kn) (cv : Value) (tab : List (String × Bool)) : Prop where
  plain : ∀ k ∈ plainKinds, ∀ b, tab.lookup k = some b → PySem.W.kitOne K (.type k) cv = some b
  own : ∀ (c : String) b, plainKinds.contains c = false → tab.lookup c = some b → PySem.W.kitOne K (.ref (cA.c c)) cv = some b ∧ ClsI K (cA.c c)
theorem look_mem {β : Type} {c : String} {b : β} : ∀ {tab : List (String × β)}, tab.lookup c = some b → (c, b) ∈ tab
  | [], h => by simp at h
  | (c', b') :: r, h => by
    rw [List.lookup_cons] at h
    cases hc : c == c' with
    | true =>
      rw [hc] at h
      cases h
      rw [eq_of_beq hc]
      exact List.mem_cons_self
    | false =>
      rw [hc] at h
      exact List.mem_cons_of_mem _ (look_mem h)
theorem isi_tab {K : PySem.W.Frag} {cA : Kn} {cv : Value} {tab : List (String × Bool)} (h : ∀ p ∈ tab, if plainKinds.contains p.1 = true then PySem.W.kitOne K (.type p.1) cv = some p.2 else PySem.W.kitOne K (.ref (cA.c p.1)) cv = some p.2 ∧ ClsI K (cA.c p.1)) : IsiOk K cA cv tab where
  plain := fun k hk b hl => by
    have := h _ (look_mem hl)
    rwa [if_pos (by simpa using hk)] at this
  own := fun c b hc hl => by
    have := h _ (look_mem hl)
    rwa [if_neg (by simpa using hc)] at this
theorem ve_isi {ta : TE} {q : Ql} {a : Env → Option D} {c : V} {cv : Value} {tab : List (String × Bool)} (hc : ∀ v, RelV c v → v = cv) (I : IsiOk G.1.K G.1 cv tab) (ha : VE G ow ta q a) :
    VE G ow (tCB (rIsiX G.1.K) (tCons ta (tCons (tC c) tNil))) .cl (eIsi tab a) := fun H0 av A σ H δ E d e Q k => by
  unfold eIsi at e
  cases he : a δ with
  | none => rw [he] at e; cases e
  | some x =>
    rw [he] at e
    dsimp only at e
    cases ht : isiD tab x with
    | none => rw [ht] at e; cases e
    | some b =>
      rw [ht] at e
      cases e
      refine ha H0 av A σ H δ E x he _ fun v H1 s r => ?_
      have r' := r.any
      have fin : ∀ t, TyOf G.1.K H1 v t → PySem.W.kitOne G.1.K t cv = some b → rIsiX G.1.K [v, c] H1 Q := fun t ty e => .inl ⟨v, c, cv, t, b, rfl, hc, ty, e, k _ H1 s rfl⟩
      cases x with
      | non => cases (show v = _ from r'); exact fin _ .non (I.plain _ (by decide) b (by exact ht))
      | bl y => cases (show v = _ from r'); exact fin _ (.bl y) (I.plain _ (by decide) b (by exact ht))
      | int y => cases (show v = _ from r'); exact fin _ (.int y) (I.plain _ (by decide) b (by exact ht))
      | str y => cases (show v = _ from r'); exact fin _ (.str _) (I.plain _ (by decide) b (by exact ht))
      | lst y =>
        unfold Rep at r'
        obtain ⟨p, vs, rfl, _, rd, _⟩ := r'
        rcases rd with (rd | ⟨o, rd⟩) | rd
        · exact fin _ (.lst rd) (I.plain _ (by decide) b (by exact ht))
        · exact fin _ (.frz rd) (I.plain _ (by decide) b (by exact ht))
        · exact .inr ⟨p, vs, c, cv, b, rfl, hc, rd, I.plain _ (by decide) b (by exact ht), k _ H1 s rfl⟩
      | tup y =>
        unfold Rep at r'
        obtain ⟨p, vs, rfl, _, rd, _⟩ := r'
        exact fin _ (.tup rd) (I.plain _ (by decide) b (by exact ht))
      | obj c' ks y =>
        unfold Rep at r'
        obtain ⟨p, dx, vs, rfl, _, rd, _⟩ := r'
        dsimp only [isiD] at ht
        cases hp : plainKinds.contains c' with
        | true => rw [hp, if_pos rfl] at ht; cases ht
        | false =>
        rw [hp, if_neg Bool.false_ne_true] at ht
        obtain ⟨h1, h2⟩ := I.own c' b hp ht
        exact fin _ (.ins rd h2.cl h2.ha h2.hn h2.htk h2.hm) h1
end
end DL

namespace L2
open PySem PySem.Spec
section
variable {X : Cx}
theorem mt_rfind : MtR X "str.rfind" (fun x xs H Q => ∃ a c, x = S a ∧ xs = [S [c]] ∧ Q (.int (rfindL c a)) H) := by
  intro pins s σ H x xs v us Q I rx rs h
  obtain ⟨a, c, rfl, rfl, q⟩ := h
  obtain ⟨t, rfl⟩ := rx
  obtain ⟨u, rfl, t', rfl⟩ := vals1 rs
  refine SC.rfind ?_
  rw [rfind_tx]
  exact ⟨.int _, H, I.tok _, ⟨_, rfl⟩, q⟩
theorem mt_find : MtR X "str.find" (fun x xs H Q => ∃ a c, x = S a ∧ xs = [S [c]] ∧ Q (.int (findL c a)) H) := by
  intro pins s σ H x xs v us Q I rx rs h
  obtain ⟨a, c, rfl, rfl, q⟩ := h
  obtain ⟨t, rfl⟩ := rx
  obtain ⟨u, rfl, t', rfl⟩ := vals1 rs
  refine SC.find ?_
  rw [find_tx]
  exact ⟨.int _, H, I.tok _, ⟨_, rfl⟩, q⟩
theorem mt_count : MtR X "str.count" (fun x xs H Q => ∃ a c, x = S a ∧ xs = [S [c]] ∧ Q (.int (a.count c : Nat)) H) := by
  intro pins s σ H x xs v us Q I rx rs h
  obtain ⟨a, c, rfl, rfl, q⟩ := h
  obtain ⟨t, rfl⟩ := rx
  obtain ⟨u, rfl, t', rfl⟩ := vals1 rs
  refine SC.count ?_
  rw [count_tx]
  exact ⟨.int _, H, I.tok _, ⟨_, rfl⟩, q⟩
theorem mt_index : MtR X "str.index" (fun x xs H Q => ∃ a c i, x = S a ∧ xs = [S [c]] ∧ findL c a = (i : Nat) ∧ Q (.int (i : Nat)) H) := by
  intro pins s σ H x xs v us Q I rx rs h
  obtain ⟨a, c, i, rfl, rfl, e, q⟩ := h
  obtain ⟨t, rfl⟩ := rx
  obtain ⟨u, rfl, t', rfl⟩ := vals1 rs
  have e' := find_tx a c
  rw [e] at e'
  unfold Txt.find at e'
  cases ho : Builtin.Str.occurrences (tx a) (tx [c]) 0 (tx a).length 1 with
  | nil => rw [ho] at e'; exact absurd e' (by show ¬ (-1 : Int) = (i : Int); omega)
  | cons j r =>
    rw [ho] at e'
    have e2 : j = i := by
      have : (j : Int) = (i : Int) := e'
      omega
    subst e2
    exact SC.index ho ⟨.int _, H, I.tok _, ⟨_, rfl⟩, q⟩
theorem strsAre_of : ∀ {l : List (List Nat)} {us : List Value}, Vals (l.map S) us → PyProof.Rows.StrsAre us (l.map tx)
  | [], us, r => by
    rw [List.map_nil] at r
    cases r
    exact .nil
  | a :: l, us, r => by
    rw [List.map_cons] at r
    cases r with
    | cons r1 r2 =>
      obtain ⟨t, rfl⟩ := r1
      exact .cons _ t (strsAre_of r2)
theorem mt_join {K : PySem.W.Frag} (hK : X.K = K := by rfl) : MtR X "str.join" (fun x xs H Q => ∃ sep p l, x = S sep ∧ xs = [.ref p] ∧ SqL K H p (l.map S) ∧ (l.map List.length).sum + l.length * sep.length ≤ sizeLine ∧ Q (S (joinL sep l)) H) := by
  subst hK
  intro pins s σ H x xs v us Q I rx rs h
  obtain ⟨sep, p, l, rfl, rfl, hq, hz, q⟩ := h
  obtain ⟨t, rfl⟩ := rx
  obtain ⟨u, rfl, rp⟩ := vals1 rs
  cases rp
  obtain ⟨its, rv, pl, _⟩ := I.list hq
  have hs : sizeLine = 16777216 := sizeLine_eq
  refine PyProof.Rows.join_list (ys := l.map tx) pl.isList (by simpa using strsAre_of rv) ?_ fun t' k => ⟨S (joinL sep l), H, I.tok _, ⟨t', ?_⟩, q⟩
  · have e : ((l.map tx).map (·.length)) = l.map List.length := by
      rw [List.map_map]
      exact List.map_congr_left fun a _ => tx_len a
    rw [e, List.length_map, tx_len]
    omega
  · have := join_tx sep l
    show Value.str (Builtin.Str.glued (tx sep) (l.map tx)) t' = _
    rw [StrLaws.glued_eq_join, join_tx]
end
end L2
namespace DL
open PySem PySem.Spec L2
section
variable {cA : Kn} {G : Cn} {ow : List Nat}
/-! ### methods of texts -/
def BmOk (cA : Kn) (r : V → List V → Hp → VK → Prop) (f : List Nat → List D → Option D) : Prop :=
  ∀ (i : Addr → Prop) (H : Hp) (a : List Nat) (ds : List D) (vs : List V) (d : D), (∀ a, i a → H a ≠ none) → RepIL cA i H ds vs → f a ds = some d → ∀ Q : VK, (∀ v H', Same H H' → Rep cA i H' d v → Q v H') → r (S a) vs H Q
def eBM (f : List Nat → List D → Option D) (a : Env → Option D) (α : Env → Option (List D)) (δ : Env) : Option D := match a δ with
  | some (.str cs) => match α δ with
    | some ds => f cs ds
    | none => none
  | _ => none
theorem ve_bm {K : PySem.W.Frag} {r : V → List V → Hp → VK → Prop} {f : List Nat → List D → Option D} {to : TE} {t : TA} {q0 q : Ql} {a : Env → Option D} {α : Env → Option (List D)} (hr : BmOk G.1 r f) (ha : VE G ow to q0 a) (h : VA G ow t q α) :
    VE G ow (tBM K "str" r to t) q.it (eBM f a α) := fun H0 av A σ H δ E d e Q k => by
  unfold eBM at e
  cases hx : a δ with
  | none => rw [hx] at e; cases e
  | some x =>
    rw [hx] at e
    cases x <;> first | (cases e; done) | skip
    rename_i cs
    dsimp only at e
    cases he : α δ with
    | none => rw [he] at e; cases e
    | some ds =>
      rw [he] at e
      refine ha H0 av A σ H δ E _ hx _ fun v H1 s1 r1 => ?_
      have e1 : v = S cs := r1.any
      subst e1
      refine ⟨rfl, h H0 av A σ H1 δ (E.mono s1) ds he _ fun vs H2 s2 r2 => ?_⟩
      have E2 := (E.mono s1).mono s2
      have s12 := s1.trans s2
      cases q with
      | cl => exact hr _ H2 cs ds vs d E2.avl r2.il e _ fun v H' s r => k v H' (s12.trans s) r.t
      | tp => exact hr _ H2 cs ds vs d E2.avl r2.il e _ fun v H' s r => k v H' (s12.trans s) r.t
      | dt => exact hr _ H2 cs ds vs d E2.avH r2.il e _ fun v H' s r => k v H' (s12.trans s) r.t
def startsD (a : List Nat) : List D → Option D
  | [.str b] => some (.bl (b.isPrefixOf a))
  | _ => none
def endsD (a : List Nat) : List D → Option D
  | [.str b] => some (.bl (b.isSuffixOf a))
  | _ => none
def rfindD (a : List Nat) : List D → Option D
  | [.str [c]] => some (.int (rfindL c a))
  | _ => none
def findD (a : List Nat) : List D → Option D
  | [.str [c]] => some (.int (findL c a))
  | _ => none
def countD (a : List Nat) : List D → Option D
  | [.str [c]] => some (.int (a.count c : Nat))
  | _ => none
def indexD (a : List Nat) : List D → Option D
  | [.str [c]] => if 0 ≤ findL c a then some (.int (findL c a)) else none
  | _ => none
theorem il_str {i : Addr → Prop} {H : Hp} {b : List Nat} {vs : List V} (h : RepIL cA i H [.str b] vs) : vs = [S b] := by
  obtain ⟨v, t, rfl, hx⟩ := il1 h
  rw [show v = S b from hx]
theorem bm_starts : BmOk cA (fun x xs H Q => ∃ a b, x = S a ∧ xs = [S b] ∧ Q (.bl (b.isPrefixOf a)) H) startsD := fun i H a ds vs d _ h e Q k => by
  unfold startsD at e
  split at e
  · cases e; exact ⟨a, _, rfl, il_str h, k _ H (Same.refl H) rfl⟩
  · cases e
theorem bm_ends : BmOk cA (fun x xs H Q => ∃ a b, x = S a ∧ xs = [S b] ∧ Q (.bl (b.isSuffixOf a)) H) endsD := fun i H a ds vs d _ h e Q k => by
  unfold endsD at e
  split at e
  · cases e; exact ⟨a, _, rfl, il_str h, k _ H (Same.refl H) rfl⟩
  · cases e
theorem bm_rfind : BmOk cA (fun x xs H Q => ∃ a c, x = S a ∧ xs = [S [c]] ∧ Q (.int (rfindL c a)) H) rfindD := fun i H a ds vs d _ h e Q k => by
  unfold rfindD at e
  split at e
  · cases e; exact ⟨a, _, rfl, il_str h, k _ H (Same.refl H) rfl⟩
  · cases e
theorem bm_find : BmOk cA (fun x xs H Q => ∃ a c, x = S a ∧ xs = [S [c]] ∧ Q (.int (findL c a)) H) findD := fun i H a ds vs d _ h e Q k => by
  unfold findD at e
  split at e
  · cases e; exact ⟨a, _, rfl, il_str h, k _ H (Same.refl H) rfl⟩
  · cases e
theorem bm_count : BmOk cA (fun x xs H Q => ∃ a c, x = S a ∧ xs = [S [c]] ∧ Q (.int (a.count c : Nat)) H) countD := fun i H a ds vs d _ h e Q k => by
  unfold countD at e
  split at e
  · cases e; exact ⟨a, _, rfl, il_str h, k _ H (Same.refl H) rfl⟩
  · cases e
theorem bm_index : BmOk cA (fun x xs H Q => ∃ a c i, x = S a ∧ xs = [S [c]] ∧ findL c a = (i : Nat) ∧ Q (.int (i : Nat)) H) indexD := fun i H a ds vs d _ h e Q k => by
  unfold indexD at e
  split at e
  · rename_i c
    by_cases hz : 0 ≤ findL c a
    · rw [if_pos hz] at e
      cases e
      exact ⟨a, c, (findL c a).toNat, rfl, il_str h, by omega, k _ H (Same.refl H) (by rw [Int.toNat_of_nonneg hz]; rfl)⟩
    · rw [if_neg hz] at e; cases e
  · cases e
/-- the texts of a list -/
def strs? : List D → Option (List (List Nat))
  | [] => some []
  | .str a :: r => match strs? r with
    | some l => some (a :: l)
    | none => none
  | _ => none
theorem strs_of : ∀ {xs : List D} {l : List (List Nat)}, strs? xs = some l → xs = l.map D.str
  | [], l, h => by cases h; rfl
  | x :: xs, l, h => by
    cases x <;> first | (cases h; done) | skip
    rename_i a
    unfold strs? at h
    cases hr : strs? xs with
    | none => rw [hr] at h; cases h
    | some r =>
      rw [hr] at h
      cases h
      rw [List.map_cons, strs_of hr]
theorem strs_map (l : List (List Nat)) : strs? (l.map D.str) = some l := by
  induction l with
  | nil => rfl
  | cons a l ih => rw [List.map_cons, strs?, ih]
def joinD (sep : List Nat) : List D → Option D
  | [.lst xs] => match strs? xs with
    | some l => if (l.map List.length).sum + l.length * sep.length ≤ sizeLine then some (.str (joinL sep l)) else none
    | none => none
  | _ => none
theorem bm_join : BmOk cA (fun x xs H Q => ∃ sep p l, x = S sep ∧ xs = [.ref p] ∧ SqL cA.K H p (l.map S) ∧ (l.map List.length).sum + l.length * sep.length ≤ sizeLine ∧ Q (S (joinL sep l)) H) joinD := fun i H a ds vs d _ h e Q k => by
  unfold joinD at e
  split at e
  · rename_i xs
    cases hs : strs? xs with
    | none => rw [hs] at e; cases e
    | some l =>
      rw [hs] at e
      dsimp only at e
      by_cases hz : (l.map List.length).sum + l.length * a.length ≤ sizeLine
      · rw [if_pos hz] at e
        cases e
        obtain ⟨v, t, rfl, p, ws, rfl, _, rd, ll⟩ := il1 h
        have ex := strs_of hs
        subst ex
        have ev := ll.vals (by rw [List.all_map]; exact List.all_eq_true.mpr fun _ _ => rfl)
        rw [List.map_map] at ev
        subst ev
        exact ⟨a, p, l, rfl, rfl, rd, hz, k _ H (Same.refl H) rfl⟩
      · rw [if_neg hz] at e; cases e
  · cases e
end
end DL

namespace L2
open PySem PySem.Spec
/-! ### a def with defaults -/
structure FunX (K : PySem.W.Frag) (x qual : Str) (st : Stmt) (f : Addr) (fd : FuncData) : Prop where
  ex : ∃ (oc : Value) (od : Option Addr) (dV kV doc pm : Value) (an : Option Addr) (cdv ct : Value) (osl : Array (Option Value)),
    fd = PySem.W.fnOf x qual (defArgs st) (defBody st) (defScope st) dV kV doc pm an cdv ct ∧ K.lookup f = some ⟨oc, od, .func fd, osl⟩ ∧ PySem.W.codeIn K cdv qual = true
theorem Fun.x {K : PySem.W.Frag} {x qual : Str} {st : Stmt} {f : Addr} {fd : FuncData} (F : Fun K x qual st f fd) : FunX K x qual st f fd := by
  obtain ⟨oc, od, kV, doc, pm, an, cdv, ct, osl, h⟩ := F.ex
  exact ⟨oc, od, .none, kV, doc, pm, an, cdv, ct, osl, h⟩
section
variable {P : Program} {w : World} {K : PySem.W.Frag} {mg : Str → Option Value} {base : Heap}
theorem FunX.ok {x qual : Str} {st : Stmt} {f : Addr} {fd : FuncData} {N ps : List Str} {k : Nat} {sp : Sp} (F : FunX K x qual st f fd) (S : FnScope N ps (defScope st)) (len : ∀ vs H Q E, sp vs H Q E → vs.length = ps.length)
    (hbody : ∀ (cdv : Value) (A : Around) (outer : List Env) (s : Shared) (H : Hp) (vs : List V) (Q : VK) (E : XK), Room k (A.deeper (PyProof.Rows.envOfC qual (defScope st) s.heap.objs.size f cdv)) → sp vs H Q E →
      ∃ t, PSs (cxOf CX0 P w K mg base N qual (defScope st) f cdv A outer s H E).nox (defBody st) t ∧ t { nx := fun _ H' => Q .non H', rt := Q } (start N vs) H) : FnOk P w K mg base CX0 (k + 1) f fd ps sp := by
  obtain ⟨oc, od, dV, kV, doc, pm, an, cdv, ct, osl, rfl, lk, hcd⟩ := F.ex
  refine fn_of lk hcd S len fun A outer s H vs Q E hr hsp => ?_
  obtain ⟨t, h, q⟩ := hbody cdv A outer s H vs Q E hr hsp
  exact ⟨t, h.nox, q⟩
/-- the last parameters by their defaults -/
theorem binds_dflt {x qual : Str} {st : Stmt} {dT : Addr} {o : Obj} {ps : List Str} {ds items : List Value} {n : Nat} {kV doc pm : Value} {an : Option Addr} {cdv ct : Value} (us0 : List Str) (ht : K.lookup dT = some o) (hd : o.data = .seq items.toArray n) (hn : us0.length + ds.length = ps.length)
    (h : ∀ (us : List Value), us.length = us0.length → ∃ k, bindArgs (PySem.W.fnOf x qual (defArgs st) (defBody st) (defScope st) (.ref dT) kV doc pm an cdv ct) ⟨us, []⟩ = seqItems? (.ref dT) >>= k ∧ k (some items.toArray) = pure (ps.zip (us ++ ds))) :
    Binds K (PySem.W.fnOf x qual (defArgs st) (defBody st) (defScope st) (.ref dT) kV doc pm an cdv ct) ps ds := fun s us X hl => by
  obtain ⟨k, h1, h2⟩ := h us (by rw [List.length_append] at hl; omega)
  exact BindsTo.of_defaults (T := dT) (o := o) (items := items.toArray) (n := n) rfl (X _ _ ht) hd h1 h2
end
/-! ### is True, is False -/
section
variable {X : Cx}
theorem op_is_bl : OpR X (compareOp .Is) (fun x y H Q => ∃ a b, x = .bl a ∧ y = .bl b ∧ Q (.bl (a == b)) H) := by
  intro pins s σ H x y v u Q I rx ry h
  obtain ⟨a, b, rfl, rfl, q⟩ := h
  cases rx
  cases ry
  refine wpAny_is_plain rfl ?_
  have e : (Value.bool a == Value.bool b) = (a == b) := by cases a <;> cases b <;> rfl
  rw [e]
  exact ⟨.bl (a == b), H, I, rfl, q⟩
end
/-! ### C.f(e, ..), f a def of the class C -/
structure CMeth (K : PySem.W.Frag) (C : Addr) (m : Str) (f : Addr) : Prop where
  ga : PySem.W.specialIn K (.ref C) "__getattribute__" = some (some (.builtin "type.__getattribute__"))
  rd : PySem.W.readsIn K C (.type "type") = true
  fc : PySem.W.findCls K (.ref C) (.type "type") m = some (.val (.ref f))
  kp : PySem.W.keepIn K (.ref f) = true
section
variable {X : Cx} {CX : CXT} {k : Nat} {f C : Addr} {fd : FuncData} {ps : List Str} {sp : Sp} {dvs : List V} {ds : List Value} {E : XK} {x m : Str} {p pos apos : Pos} {e o : Expr} {es : List Expr} {ta : TE} {t : TA}
theorem pe_cmeth {pl : Sem Bool} (hg : Gl X x) (hmg : X.mg x = some (.ref C)) (hm : CMeth X.K C m f) (F : FnOk X.prog X.w X.K X.mg X.base CX k f fd ps sp) (hr : Room k X.A) (hb : Binds X.K fd ps ds) (hd : Vals dvs ds) (hx : Passes CX X E) (ha : PA X (e :: es) t)
    (hdb : (x == ("__debug__" : Str)) = false := by decide)
    (hst : starEach (e :: es) X.env = (false, eval e X.env) :: starEach es X.env := by rfl) (hpl : (backTo pos (starEach es X.env)).any (·.1) = false := by rfl)
    (ht : eval (.Call (.Attribute (.Name x p) m apos) (e :: es) [] pos) X.env = (do
      let ov ← eval (.Name x p) X.env
      standAt apos.atName
      let (f, first) ← holding [ov] (getMethod ov m pl)
      callWith pos f first (backTo pos (starEach (e :: es) X.env)) (backToKw pos (keywordEach [] X.env))) := by rfl) :
    PE X (.Call (.Attribute (.Name x p) m apos) (e :: es) [] pos) (tCall sp dvs E t) := by
  intro pins s σ H Q I h
  refine PySem.W.methodCall_KW (pl := pl) (ld_glob I hg hmg ?_ hdb) ht
  refine PySem.W.method_cls I.kIn hm.ga (PySem.W.cls_value I.kIn hm.rd hm.fc rfl ?_)
  have I1 : Inv X pins σ H { s with toks := s.toks + 1 } := I.tok _
  refine PySem.W.callWith_K (first := []) (h₀ := X.base) I.ok.mod.kin hm.kp (thn (ha pos pins _ σ H _ I1 h) fun us s2 ⟨vs, H2, I2, r, q2⟩ => ⟨I2.kIn, ?_⟩) hst hpl
  exact run_fn (us := us) (vs := vs) F hr hb hd hx I2 r q2
end
end L2
namespace DL
open PySem PySem.Spec L2
/-! ### names of fields -/
theorem ofString_inj {a b : String} (h : Str.ofString a = Str.ofString b) : a = b := by
  rw [Str.ofString_eq_toList, Str.ofString_eq_toList] at h
  have h1 : (a.toList.map Char.toNat) = (b.toList.map Char.toNat) := by
    have := congrArg (fun s : Str => s.cps.toList) h
    simpa using this
  have inj : ∀ {x y : List Char}, x.map Char.toNat = y.map Char.toNat → x = y := by
    intro x
    induction x with
    | nil =>
      intro y h
      cases y with
      | nil => rfl
      | cons _ _ => cases h
    | cons c x ih =>
      intro y h
      cases y with
      | nil => cases h
      | cons d y =>
        rw [List.map_cons, List.map_cons, List.cons.injEq] at h
        have : c = d := Char.toNat_inj.mp h.1
        rw [this, ih h.2]
  exact String.toList_inj.mp (inj h1)
theorem ofString_beq (a b : String) : (Str.ofString a == Str.ofString b) = (a == b) := by
  rw [Bool.eq_iff_iff, beq_iff_eq, beq_iff_eq]
  exact ⟨ofString_inj, fun h => by rw [h]⟩
section
variable {cA : Kn} {G : Cn} {ow owN owB owC : List Nat}
theorem fld_look {av : Addr → Prop} {H : Hp} {f : String} : ∀ {ks : List String} {xs : List D} {vs : List V} {d : D}, RepL cA av H xs vs → (ks.zip xs).lookup f = some d → ∃ v, ((ks.map Str.ofString).zip vs).lookup (Str.ofString f) = some v ∧ Rep cA av H d v
  | [], _, _, _, _, h => by simp at h
  | k :: ks, [], _, _, _, h => by simp at h
  | k :: ks, x :: xs, vs, d, l, h => by
    obtain ⟨v, r, rfl, h1, h2⟩ := l.uncons
    rw [List.zip_cons_cons, List.lookup_cons] at h
    rw [List.map_cons, List.zip_cons_cons, List.lookup_cons, ofString_beq]
    cases hk : f == k with
    | true => rw [hk] at h; cases h; exact ⟨v, rfl, h1⟩
    | false => rw [hk] at h; exact fld_look h2 h
theorem fld_none {f : String} : ∀ {ks : List String} {vs : List V}, ks.contains f = false → ((ks.map Str.ofString).zip vs).lookup (Str.ofString f) = none
  | [], _, _ => by simp
  | k :: ks, [], _ => by simp
  | k :: ks, v :: vs, h => by
    rw [List.contains_cons, Bool.or_eq_false_iff] at h
    rw [List.map_cons, List.zip_cons_cons, List.lookup_cons, ofString_beq, h.1]
    exact fld_none h.2
theorem put_new {f : String} {y : V} : ∀ {ks : List String} {vs : List V}, ks.length = vs.length → ks.contains f = false → putF (Str.ofString f) y ((ks.map Str.ofString).zip vs) = (((ks ++ [f]).map Str.ofString).zip (vs ++ [y]))
  | [], [], _, _ => rfl
  | [], _ :: _, h, _ => by simp at h
  | _ :: _, [], h, _ => by simp at h
  | k :: ks, v :: vs, h, hf => by
    rw [List.contains_cons, Bool.or_eq_false_iff] at hf
    have hne : ¬ Str.ofString k = Str.ofString f := fun z => by
      have := ofString_inj z
      have h1 := hf.1
      rw [this] at h1
      simp at h1
    rw [List.map_cons, List.zip_cons_cons, List.cons_append, List.cons_append, List.map_cons, List.zip_cons_cons]
    rw [show putF (Str.ofString f) y ((Str.ofString k, v) :: (ks.map Str.ofString).zip vs) = (if Str.ofString k = Str.ofString f then (Str.ofString k, y) :: (ks.map Str.ofString).zip vs else (Str.ofString k, v) :: putF (Str.ofString f) y ((ks.map Str.ofString).zip vs)) from rfl, if_neg hne]
    rw [put_new (by simpa using h) hf.2]
/-! ### e.f -/
def FldOk (K : PySem.W.Frag) (cA : Kn) (cls : List String) (f : String) : Prop := ∀ c ∈ cls, Cls K (cA.c c) ∧ NoAttr K (cA.c c) (Str.ofString f)
def eFld (cls : List String) (f : String) (a : Env → Option D) (δ : Env) : Option D := match a δ with
  | some (.obj c ks xs) => if cls.contains c then (ks.zip xs).lookup f else none
  | _ => none
theorem ve_fld {K : PySem.W.Frag} {ta : TE} {q : Ql} {a : Env → Option D} {cls : List String} {f : String} (F : FldOk K G.1 cls f) (ha : VE G ow ta q a) : VE G ow (tFld K ta (Str.ofString f)) q.it (eFld cls f a) := fun H0 av A σ H δ E d e Q k => by
  unfold eFld at e
  cases he : a δ with
  | none => rw [he] at e; cases e
  | some x =>
    rw [he] at e
    cases x <;> first | (cases e; done) | skip
    rename_i c ks xs
    dsimp only at e
    by_cases hc : cls.contains c = true
    · rw [if_pos hc] at e
      obtain ⟨h1, h2⟩ := F c (by simpa using hc)
      refine ha H0 av A σ H δ E _ he _ fun v H1 s r => ?_
      obtain ⟨p, dx, vs, rfl, _, rd, _, l⟩ := r.tp
      obtain ⟨w, hw, rw'⟩ := fld_look l e
      refine ⟨p, _, dx, _, w, rfl, rd, h1, h2, hw, k w H1 s ?_⟩
      cases q <;> exact rw'.t
    · rw [if_neg hc] at e; cases e
/-- self.f = e, a new field -/
def sFldD (i : Nat) (cls : List String) (f : String) (ε : Env → Option D) (δ : Env) : Option Out := match ε δ with
  | some d => match eVar i δ with
    | some (.obj c ks xs) => if cls.contains c && !ks.contains f && decide (ks.length < 1000) then some (.nx (δ.set i (some (.obj c (ks ++ [f]) (xs ++ [d]))))) else none
    | _ => none
  | none => none
theorem vs_fld {K : PySem.W.Frag} {te : TE} {ε : Env → Option D} {cls : List String} {f : String} (i : Nat) (hi : ow.contains i = true) (F : FldOk K G.1 cls f) (h : VE G ow te .cl ε) : VS G ow ow owB owC (sFld K (tVar i) te (Str.ofString f)) (sFldD i cls f ε) := fun H0 av A σ H δ E o e De k => by
  unfold sFldD at e
  cases he : ε δ with
  | none => rw [he] at e; cases e
  | some d =>
    rw [he] at e
    dsimp only at e
    cases hv : eVar i δ with
    | none => rw [hv] at e; cases e
    | some x =>
      rw [hv] at e
      cases x <;> first | (cases e; done) | skip
      rename_i c ks xs
      dsimp only at e
      by_cases hz : (cls.contains c && !ks.contains f && decide (ks.length < 1000)) = true
      · rw [if_pos hz] at e
        cases e
        simp only [Bool.and_eq_true, decide_eq_true_eq, Bool.not_eq_true'] at hz
        obtain ⟨⟨z1, z2⟩, z3⟩ := hz
        obtain ⟨h1, h2⟩ := F c (by simpa using z1)
        have hi' : i ∈ ow := by simpa using hi
        cases hA : A i with
        | none => exact absurd hA (E.dom' i hi')
        | some a =>
          refine h H0 av A σ H δ E d he _ fun y H1 s r => ?_
          have E1 := E.mono s
          obtain ⟨v, g1, _, g3⟩ := E1.var i _ (eVar_some hv)
          obtain ⟨rfl, dx, vs, q1, q0, q2⟩ := g3 a hA
          have hl : ks.length = vs.length := q0.trans q2.length
          refine ⟨_, g1, a, _, dx, _, rfl, q1, h1, h2, ?_, k A σ _ (E1.put hA (eVar_some hv) (fun b o hb e => by rw [upd_ne hb]; exact e) (by rw [upd_same]; exact fun z => by cases z) ?_)⟩
          · rw [List.length_zip, List.length_map]; omega
          · refine ⟨dx, vs ++ [y], ?_, by rw [List.length_append, List.length_append, q0]; rfl, ?_⟩
            · rw [upd_same, put_new hl z2]
            · have ex : ∀ b o, ¬ AV av A b → H1 b = some o → upd H1 a (.ins (G.1.c c) dx (putF (Str.ofString f) y ((ks.map Str.ofString).zip vs))) b = some o := fun b o n e => by
                rw [upd_ne fun z => n (.inr ⟨i, by rw [z]; exact hA⟩)]
                exact e
              exact (q2.append (.cons (RepT.r r) .nil)).ext ex
      · rw [if_neg hz] at e; cases e
/-! ### making: __init__'s promise -/
def spI (cA : Kn) (n : Nat) (m : List D → Option D) : Sp := fun vs H Q _ => ∃ (x : Addr) (r : List V) (av : Addr → Prop) (ds : List D) (d d' : D), vs = .ref x :: r ∧ (∀ a, av a → H a ≠ none) ∧ ¬ av x ∧ Own cA (fun a => av a ∨ a = x) H d x ∧ RepL cA (fun a => av a ∨ a = x) H ds r ∧ (d :: ds).length = n ∧ m (d :: ds) = some d' ∧
  ∀ H', (∀ b o, b ≠ x → H b = some o → H' b = some o) → Own cA (fun a => av a ∨ a = x) H' d' x → Q .non H'
theorem Own.live {av : Addr → Prop} {H : Hp} {d : D} {a : Addr} (h : Own cA av H d a) : H a ≠ none := by
  cases d with
  | lst xs => obtain ⟨vs, q, _⟩ := h; rw [q]; exact fun z => by cases z
  | obj c ks xs => obtain ⟨dx, vs, q, _⟩ := h; rw [q]; exact fun z => by cases z
  | _ => exact h.elim
theorem Own.av {av av' : Addr → Prop} {H : Hp} {d : D} {a : Addr} (k : ∀ b, av' b → av b ∨ H b = none) (h : Own cA av H d a) : Own cA av' H d a := by
  cases d with
  | lst xs => obtain ⟨vs, q, l⟩ := h; exact ⟨vs, q, l.av k⟩
  | obj c ks xs => obtain ⟨dx, vs, q, z, l⟩ := h; exact ⟨dx, vs, q, z, l.av k⟩
  | _ => exact h.elim
theorem Own.rep {av : Addr → Prop} {H : Hp} {d : D} {a : Addr} (n : ¬ av a) (h : Own cA av H d a) : Rep cA av H d (.ref a) := by
  cases d with
  | lst xs => obtain ⟨vs, q, l⟩ := h; unfold Rep; exact ⟨a, vs, rfl, fun z => (n z).elim, SqL.of q, l⟩
  | obj c ks xs => obtain ⟨dx, vs, q, z, l⟩ := h; unfold Rep; exact ⟨a, dx, vs, rfl, n, q, z, l⟩
  | _ => exact h.elim
def eMake (c : String) (n : Nat) (m : List D → Option D) (dds : List D) (α : Env → Option (List D)) (δ : Env) : Option D := match α δ with
  | some ds => if (D.obj c [] [] :: (ds ++ dds)).length = n then m (.obj c [] [] :: (ds ++ dds)) else none
  | none => none
theorem ve_make {n : Nat} {m : List D → Option D} {t : TA} {α : Env → Option (List D)} {E0 : XK} {c : String} (dds : List D) (hd : dds.all scalar = true) (h : VA G ow t .cl α) : VE G ow (tMake (G.1.c c) (spI G.1 n m) (dds.map val) E0 t) .cl (eMake c n m dds α) := fun H0 av A σ H δ E d e Q k => by
  unfold eMake at e
  cases he : α δ with
  | none => rw [he] at e; cases e
  | some ds =>
    rw [he] at e
    dsimp only at e
    by_cases hz : (D.obj c [] [] :: (ds ++ dds)).length = n
    · rw [if_pos hz] at e
      refine h H0 av A σ H δ E ds he _ fun vs H1 s1 r1 x dx hx hdx hne => ?_
      have E1 := E.mono s1
      have s2 : Same H1 (upd (upd H1 dx (.own x)) x (.ins (G.1.c c) dx [])) := (same_upd hdx).trans (same_upd (by rw [upd_ne (Ne.symm hne)]; exact hx))
      have nx : ¬ AV av A x := fun z => E1.avl x z hx
      refine ⟨x, vs ++ dds.map val, AV av A, ds ++ dds, .obj c [] [], d, rfl, fun a z => ?_, nx, ⟨dx, [], upd_same, rfl, .nil⟩, ?_, hz, e, fun H' hk ho => ⟨rfl, k _ H' ?_ ?_⟩⟩
      · have := E1.avl a z
        cases q : H1 a with
        | none => exact absurd q this
        | some o => rw [s2 a o q]; exact fun z => by cases z
      · refine RepL.same s2 ((r1.cl.append (.of_vals hd)).av fun b z => ?_)
        rcases z with z | z
        · exact .inl z
        · exact .inr (by rw [z]; exact hx)
      · refine s1.trans fun b o e => hk b o (fun z => by rw [z, hx] at e; cases e) (s2 b o e)
      · exact ((ho.av fun b z => .inl (.inl z)).rep nx).t
    · rw [if_neg hz] at e; cases e
/-- Base.__init__(self, ..) -/
def sBase (i n : Nat) (m : List D → Option D) (dds : List D) (α : Env → Option (List D)) (δ : Env) : Option Out := match eVar i δ with
  | some d => match α δ with
    | some ds => if (d :: (ds ++ dds)).length = n then (match m (d :: (ds ++ dds)) with
      | some d' => some (.nx (δ.set i (some d')))
      | none => none) else none
    | none => none
  | none => none
theorem vs_base {n : Nat} {m : List D → Option D} {t : TA} {α : Env → Option (List D)} {E0 : XK} (i : Nat) (hi : ow.contains i = true) (dds : List D) (hd : dds.all scalar = true) (h : VA G ow t .cl α) :
    VS G ow ow owB owC (tDrop (tCall (spI G.1 n m) (dds.map val) E0 (tCons (tVar i) t))) (sBase i n m dds α) := fun H0 av A σ H δ E o e De k => by
  unfold sBase at e
  cases hv : eVar i δ with
  | none => rw [hv] at e; cases e
  | some d =>
    rw [hv] at e
    dsimp only at e
    cases he : α δ with
    | none => rw [he] at e; cases e
    | some ds =>
      rw [he] at e
      dsimp only at e
      by_cases hz : (d :: (ds ++ dds)).length = n
      · rw [if_pos hz] at e
        cases hm : m (d :: (ds ++ dds)) with
        | none => rw [hm] at e; cases e
        | some d' =>
          rw [hm] at e
          cases e
          have hi' : i ∈ ow := by simpa using hi
          cases hA : A i with
          | none => exact absurd hA (E.dom' i hi')
          | some a =>
            obtain ⟨v, g1, _, g3⟩ := E.var i _ (eVar_some hv)
            obtain ⟨rfl, _⟩ := g3 a hA
            refine ⟨_, g1, h H0 av A σ H δ E ds he _ fun vs H1 s r => ?_⟩
            have E1 := E.mono s
            obtain ⟨v2, g1', _, g3'⟩ := E1.var i _ (eVar_some hv)
            obtain ⟨_, ow'⟩ := g3' a hA
            have eqv : ∀ b, (AV av A b ∧ b ≠ a) ∨ b = a ↔ AV av A b := fun b => by
              constructor
              · rintro (z | z)
                · exact z.1
                · rw [z]; exact .inr ⟨i, hA⟩
              · intro z
                by_cases q : b = a
                · exact .inr q
                · exact .inl ⟨z, q⟩
            refine ⟨a, vs ++ dds.map val, fun b => AV av A b ∧ b ≠ a, ds ++ dds, d, d', rfl, fun b z => E1.avl b z.1, fun z => z.2 rfl, ow'.av fun b z => .inl ((eqv b).mp z), (r.cl.append (.of_vals hd)).av fun b z => .inl ((eqv b).mp z), hz, hm, fun H' hk ho => ?_⟩
            exact k A σ H' (E1.put hA (eVar_some hv) hk ho.live (ho.av fun b z => .inl ((eqv b).mpr z)))
      · rw [if_neg hz] at e; cases e
def runI (N : Nat) (φ : Env → Option Out) (ds : List D) : Option D := match φ (ds.map some ++ List.replicate (N - ds.length) none) with
  | some (.nx δ) => eVar 0 δ
  | _ => none
section
variable {P : Program} {w : World} {K : PySem.W.Frag} {mg : Str → Option Value} {base : Heap}
/-- THE RULE of an __init__ -/
theorem fn_I {x qual : Str} {st : Stmt} {f : Addr} {fd : FuncData} {N ps : List Str} {k : Nat} {φ : Env → Option Out} (F : FunX K x qual st f fd) (S : FnScope N ps (defScope st))
    (hbody : ∀ (cdv : Value) (A : Around) (outer : List PySem.Env) (s : Shared) (H : Hp) (E : XK) (a : Addr), Room k (A.deeper (PyProof.Rows.envOfC qual (defScope st) s.heap.objs.size f cdv)) →
      ∃ t, PSs (cxOf CX0 P w K mg base N qual (defScope st) f cdv A outer s H E).nox (defBody st) t ∧ VS ⟨cA, fun j => if j = 0 then some a else none⟩ [0] [0] [] [] t φ) : FnOk P w K mg base CX0 (k + 1) f fd ps (spI cA ps.length (runI N.length φ)) := by
  refine F.ok S (fun vs H Q E h => ?_) fun cdv A outer s H vs Q E hr h => ?_
  · obtain ⟨x, r, av, ds, d, d', rfl, _, _, _, l, hl, _⟩ := h
    rw [← hl, List.length_cons, List.length_cons, l.length]
  · obtain ⟨x, r, av, ds, d, d', rfl, ha, nx, ho, l, hl, hm, q⟩ := h
    obtain ⟨t, ht, hv⟩ := hbody cdv A outer s H E x hr
    refine ⟨t, ht, ?_⟩
    unfold runI at hm
    cases hφ : φ ((d :: ds).map some ++ List.replicate (N.length - (d :: ds).length) none) with
    | none => rw [hφ] at hm; cases hm
    | some o =>
      rw [hφ] at hm
      cases o <;> first | (cases hm; done) | skip
      rename_i δ'
      have hm : eVar 0 δ' = some d' := hm
      have hAV : ∀ b, AV av (fun j => if j = 0 then some x else none) b ↔ av b ∨ b = x := fun b => by
        constructor
        · rintro (z | ⟨j, z⟩)
          · exact .inl z
          · by_cases e : j = 0
            · simp [e] at z; exact .inr z.symm
            · simp [e] at z
        · rintro (z | z)
          · exact .inl z
          · exact .inr ⟨0, by simp [z]⟩
      have E0 : ER ⟨cA, fun j => if j = 0 then some x else none⟩ [0] (fun b => if b = x then none else H b) av (fun j => if j = 0 then some x else none) (L2.start N (.ref x :: r)) H ((d :: ds).map some ++ List.replicate (N.length - (d :: ds).length) none) := by
        refine ⟨fun b o e => ?_, fun a z => ?_, fun i a e => ?_, fun i j a e1 e2 => ?_, fun i a e => ?_, fun i e => ?_, fun i hi => ?_, ?_, fun i a e => e, fun i d'' e => ?_⟩
        · by_cases q : b = x
          · simp [q] at e
          · simpa [q] using e
        · have : a ≠ x := fun q => nx (q ▸ z)
          simp [this]
          exact ha a z
        · by_cases q : i = 0
          · simp [q] at e; simp [e]
          · simp [q] at e
        · by_cases q : i = 0
          · by_cases q2 : j = 0
            · rw [q, q2]
            · simp [q2] at e2
          · simp [q] at e1
        · by_cases q : i = 0
          · simp [q] at e; subst e; exact ho.live
          · simp [q] at e
        · by_cases q : i = 0
          · simp [q]
          · simp [q] at e
        · have : i = 0 := by simpa using hi
          simp [this]
        · unfold L2.start
          rw [List.length_append, List.length_append, List.length_map, List.length_map, List.length_replicate, List.length_replicate, List.length_cons, List.length_cons, l.length]
        · by_cases q : i = 0
          · subst q
            have e' : d = d'' := by simpa using e
            subst e'
            exact ⟨.ref x, by simp [L2.start], fun z => by simp at z, fun a z => by
              simp at z
              subst z
              exact ⟨rfl, ho.av fun b z => .inl ((hAV b).mp z)⟩⟩
          · obtain ⟨i, rfl⟩ : ∃ i', i = i' + 1 := ⟨i - 1, by omega⟩
            have e2 : (ds.map some ++ List.replicate (N.length - (ds.length + 1)) none)[i]? = some (some d'') := by simpa using e
            by_cases hi : i < ds.length
            · rw [List.getElem?_append_left (by simpa using hi), List.getElem?_map] at e2
              cases hd : ds[i]? with
              | none => rw [hd] at e2; cases e2
              | some z =>
                rw [hd] at e2
                cases e2
                obtain ⟨v, hv', rv⟩ := l.get hd
                refine ⟨v, ?_, fun _ => rv.av fun b z => .inl ((hAV b).mp z), fun a z => by simp at z⟩
                unfold L2.start
                have : i + 1 < (V.ref x :: r).length := by rw [List.length_cons, ← l.length]; omega
                rw [List.getElem?_append_left (by simpa using this), List.getElem?_map]
                simp [hv']
            · rw [List.getElem?_append_right (by simpa using hi), List.getElem?_replicate] at e2
              split at e2 <;> cases e2
      refine hv _ av _ _ H _ E0 _ hφ _ fun A' σ' H' E' => ?_
      have hA' : A' 0 = some x := E'.pin 0 x (by simp)
      obtain ⟨v, _, _, g3⟩ := E'.var 0 d' (eVar_some hm)
      obtain ⟨_, ho'⟩ := g3 x hA'
      refine q H' (fun b o hb e => E'.same b o (by simpa [hb] using e)) (ho'.av fun b z => ?_)
      rcases z with z | z
      · exact .inl (.inl z)
      · exact .inl (.inr ⟨0, by rw [hA', z]⟩)
/-- a def with defaults, or a method -/
theorem fn_DX {x qual : Str} {st : Stmt} {f : Addr} {fd : FuncData} {N ps : List Str} {k : Nat} {φ : Env → Option Out} (F : FunX K x qual st f fd) (S : FnScope N ps (defScope st))
    (hbody : ∀ (cdv : Value) (A : Around) (outer : List PySem.Env) (s : Shared) (H : Hp) (E : XK), Room k (A.deeper (PyProof.Rows.envOfC qual (defScope st) s.heap.objs.size f cdv)) →
      ∃ t, PSs (cxOf CX0 P w K mg base N qual (defScope st) f cdv A outer s H E).nox (defBody st) t ∧ ∃ owN, VS ⟨cA, fun _ => none⟩ [] owN [] [] t φ) : FnOk P w K mg base CX0 (k + 1) f fd ps (spD cA ps.length (run N.length φ)) := by
  refine F.ok S (fun vs H Q E h => ?_) fun cdv A outer s H vs Q E hr h => ?_
  · obtain ⟨av, ds, d, _, r, hl, _⟩ := h
    rw [← r.length, hl]
  · obtain ⟨av, ds, d, ha, r, hl, hm, q⟩ := h
    obtain ⟨t, ht, owN, hv⟩ := hbody cdv A outer s H E hr
    refine ⟨t, ht, ?_⟩
    unfold run at hm
    cases hφ : φ (ds.map some ++ List.replicate (N.length - ds.length) none) with
    | none => rw [hφ] at hm; cases hm
    | some o =>
      rw [hφ] at hm
      refine hv H av _ _ H _ (er_start ha r) o hφ _ ?_
      cases o with
      | nx δ' => cases hm; exact fun A' σ' H' E' => q .non H' E'.same rfl
      | rt d' => cases hm; exact fun v H' s' r' => q v H' s' r'
      | bk δ' => cases hm
      | ct δ' => cases hm
end
/-! ### o.m(..), by the object's class -/
abbrev MTab := List (String × (Nat × (List D → Option D)))
structure MethOk (X : Cx) (cA : Kn) (k : Nat) (m : String) (c : String) (n : Nat) (mm : List D → Option D) : Prop where
  ex : ∃ f fd ps, Cls X.K (cA.c c) ∧ Meth X.K (cA.c c) (Str.ofString m) f ∧ FnOk X.prog X.w X.K X.mg X.base CX0 k f fd ps (spD cA n mm) ∧ Binds X.K fd ps []
def MTOk (X : Cx) (cA : Kn) (k : Nat) (m : String) : MTab → Prop
  | [] => True
  | (c, n, mm) :: r => MethOk X cA k m c n mm ∧ MTOk X cA k m r
theorem MTOk.get {X : Cx} {k : Nat} {m : String} : ∀ {tab : MTab} {c : String} {n : Nat} {mm : List D → Option D}, MTOk X cA k m tab → tab.lookup c = some (n, mm) → MethOk X cA k m c n mm
  | [], _, _, _, _, h => by simp at h
  | (c', n', mm') :: r, c, n, mm, T, h => by
    rw [List.lookup_cons] at h
    cases hc : c == c' with
    | true =>
      rw [hc] at h
      cases h
      have : c = c' := eq_of_beq hc
      subst this
      exact T.1
    | false =>
      rw [hc] at h
      exact MTOk.get T.2 h
def tMethP (cA : Kn) (m : String) (tab : MTab) (ta : TE) (t : TA) : TE := fun σ H Q => ta σ H fun x H1 => ∃ a dx fs c n mm, x = .ref a ∧ H1 a = some (.ins (cA.c c) dx fs) ∧ fs.lookup (Str.ofString m) = none ∧ tab.lookup c = some (n, mm) ∧ t σ H1 fun vs H2 => spD cA n mm (x :: vs) H2 Q E0
theorem pe_methP {X : Cx} {k : Nat} {m : String} {tab : MTab} {o e : Expr} {es : List Expr} {ta : TE} {t : TA} {pos apos : Pos} {pl : Sem Bool} (T : MTOk X cA k m tab) (hr : Room k X.A) (he : PE X o ta) (ha : PA X (e :: es) t)
    (hst : starEach (e :: es) X.env = (false, eval e X.env) :: starEach es X.env := by rfl) (hpl : (backTo pos (starEach es X.env)).any (·.1) = false := by rfl)
    (ht : eval (.Call (.Attribute o (Str.ofString m) apos) (e :: es) [] pos) X.env = (do
      let ov ← eval o X.env
      standAt apos.atName
      let (f, first) ← holding [ov] (getMethod ov (Str.ofString m) pl)
      callWith pos f first (backTo pos (starEach (e :: es) X.env)) (backToKw pos (keywordEach [] X.env))) := by rfl) :
    PE X (.Call (.Attribute o (Str.ofString m) apos) (e :: es) [] pos) (tMethP cA m tab ta t) := by
  intro pins s σ H Q I h
  refine PySem.W.methodCall_KW (pl := pl) (thn (he pins s σ H _ I h) fun u s1 ⟨x, H1, I1, rx, a, dx, fs, c, n, mm, ex, ea, l, tl, q⟩ => ?_) ht
  subst ex
  obtain rfl : u = Value.ref a := rx
  obtain ⟨f, fd, ps, hc, hm, F, hb⟩ := (T.get tl).ex
  refine getmeth_ok I1 ea hc hm l ?_
  refine PySem.W.callWith_K (first := [.ref a]) (h₀ := X.base) I.ok.mod.kin hm.kp (thn (ha pos pins s1 σ H1 _ I1 q) fun us s2 ⟨vs, H2, I2, r, q2⟩ => ⟨I2.kIn, ?_⟩) hst hpl
  exact run_fn (us := .ref a :: us) (vs := .ref a :: vs) (dvs := []) (ds := []) F hr hb .nil pass0 I2 (.cons rfl r) (by rw [List.append_nil]; exact q2)
theorem pe_methP0 {X : Cx} {k : Nat} {m : String} {tab : MTab} {o : Expr} {ta : TE} {pos apos : Pos} {pl : Sem Bool} (T : MTOk X cA k m tab) (hr : Room k X.A) (he : PE X o ta)
    (ht : eval (.Call (.Attribute o (Str.ofString m) apos) [] [] pos) X.env = (do
      let ov ← eval o X.env
      standAt apos.atName
      let (f, first) ← holding [ov] (getMethod ov (Str.ofString m) pl)
      callWith pos f first (backTo pos (starEach [] X.env)) (backToKw pos (keywordEach [] X.env))) := by rfl) :
    PE X (.Call (.Attribute o (Str.ofString m) apos) [] [] pos) (tMethP cA m tab ta tNil) := by
  intro pins s σ H Q I h
  refine PySem.W.methodCall_KW (pl := pl) (thn (he pins s σ H _ I h) fun u s1 ⟨x, H1, I1, rx, a, dx, fs, c, n, mm, ex, ea, l, tl, q⟩ => ?_) ht
  subst ex
  obtain rfl : u = Value.ref a := rx
  obtain ⟨f, fd, ps, hc, hm, F, hb⟩ := (T.get tl).ex
  refine getmeth_ok I1 ea hc hm l ?_
  exact PySem.W.callWith_K0 (first := [.ref a]) I1.kIn hm.kp (run_fn (us := [.ref a]) (vs := [.ref a]) (dvs := []) (ds := []) F hr hb .nil pass0 I1 (.cons rfl .nil) (by rw [List.append_nil]; exact q))
def eMeth (m : String) (tab : MTab) (a : Env → Option D) (α : Env → Option (List D)) (δ : Env) : Option D := match a δ with
  | some (.obj c ks xs) => if ks.contains m then none else (match tab.lookup c with
    | some (n, mm) => match α δ with
      | some ds => if (D.obj c ks xs :: ds).length = n then mm (.obj c ks xs :: ds) else none
      | none => none
    | none => none)
  | _ => none
theorem ve_meth {m : String} {tab : MTab} {ta : TE} {t : TA} {a : Env → Option D} {α : Env → Option (List D)} (ha : VE G ow ta .cl a) (h : VA G ow t .cl α) : VE G ow (tMethP G.1 m tab ta t) .cl (eMeth m tab a α) := fun H0 av A σ H δ E d e Q k => by
  unfold eMeth at e
  cases hx : a δ with
  | none => rw [hx] at e; cases e
  | some x =>
    rw [hx] at e
    cases x <;> first | (cases e; done) | skip
    rename_i c ks xs
    dsimp only at e
    cases hf : ks.contains m with
    | true => rw [hf, if_pos rfl] at e; cases e
    | false =>
      rw [hf, if_neg Bool.false_ne_true] at e
      cases htb : tab.lookup c with
      | none => rw [htb] at e; cases e
      | some p =>
        obtain ⟨n, mm⟩ := p
        rw [htb] at e
        dsimp only at e
        cases he : α δ with
        | none => rw [he] at e; cases e
        | some ds =>
          rw [he] at e
          dsimp only at e
          by_cases hz : (D.obj c ks xs :: ds).length = n
          · rw [if_pos hz] at e
            refine ha H0 av A σ H δ E _ hx _ fun v H1 s1 r1 => ?_
            obtain ⟨p, dx, vs, rfl, np, rd, zl, l⟩ := r1
            refine ⟨p, dx, _, c, n, mm, rfl, rd, fld_none hf, htb, h H0 av A σ H1 δ (E.mono s1) ds he _ fun ws H2 s2 r2 => ?_⟩
            have E2 := (E.mono s1).mono s2
            refine ⟨AV av A, .obj c ks xs :: ds, d, E2.avl, .cons ?_ r2.cl, hz, e, fun v H' s r => k v H' ((s1.trans s2).trans s) r.t⟩
            unfold Rep
            exact ⟨p, dx, vs, rfl, np, s2 _ _ rd, zl, l.same s2⟩
          · rw [if_neg hz] at e; cases e
/-! ### is True, is False -/
def isD : D → D → Option D
  | .bl a, .bl b => some (.bl (a == b))
  | _, _ => none
theorem ok_is : OpOk cA (fun x y H Q => ∃ a b, x = .bl a ∧ y = .bl b ∧ Q (.bl (a == b)) H) isD := fun t t' i H x y vx vy d _ hx hy e Q k => by
  cases x <;> cases y <;> first | (cases e; done) | skip
  cases (show vx = _ from hx); cases (show vy = _ from hy)
  cases e
  exact ⟨_, _, rfl, rfl, k _ H (Same.refl H) rfl⟩
end
end DL

namespace DL
open PySem PySem.Spec L2
/-- the pairs of a number from k on and an item -/
def enumD : Nat → List D → List D
  | _, [] => []
  | k, x :: xs => .tup [.int (k : Nat), x] :: enumD (k + 1) xs
theorem enumD_length : ∀ (k : Nat) (xs : List D), (enumD k xs).length = xs.length
  | _, [] => rfl
  | k, x :: xs => by rw [enumD, List.length_cons, List.length_cons, enumD_length]
theorem enumD_get : ∀ (k : Nat) (xs : List D) (i : Nat), (enumD k xs)[i]? = (xs[i]?).map fun x => .tup [.int ((k + i : Nat) : Int), x]
  | _, [], i => by simp [enumD]
  | k, x :: xs, 0 => by simp [enumD]
  | k, x :: xs, i + 1 => by
    rw [enumD, List.getElem?_cons_succ, List.getElem?_cons_succ, enumD_get (k + 1) xs i]
    have : k + 1 + i = k + (i + 1) := by omega
    rw [this]
section
variable {cA : Kn} {G : Cn} {ow : List Nat}
def iotaE (k : Nat) (ε : Env → Option D) (δ : Env) : Option (List D) := match ε δ with
  | some (.str cs) => some (enumD k (cs.map fun c => .str [c]))
  | _ => none
theorem walkD_enumS {iv : Addr → Prop} {H0 : Hp} {n0 : Nat} {cs : List Nat} : WalkD cA iv (Ites n0 cs) (enumD n0 (cs.map fun c => .str [c])) H0 := fun H s => by
  refine ⟨fun i hi => ?_, fun i x v H' hx y => ?_, fun i hi => ?_⟩
  · have : i < cs.length := by simpa [enumD_length] using hi
    exact this
  · obtain ⟨c, p, hc, hp, rfl, rfl⟩ := y
    rw [enumD_get, List.getElem?_map, hc] at hx
    cases hx
    refine ⟨same_upd hp, fun av' h1 _ => ?_⟩
    unfold Rep
    exact ⟨p, _, rfl, fun z => h1 p z hp, upd_same, .cons rfl (.cons rfl .nil)⟩
  · have : cs.length ≤ i := by simpa [enumD_length] using hi
    exact this
theorem pi_enumA {X : Cx} {elts : List Expr} {x1 : Nat} {tpos : Pos} {a : Expr} {ta : TE} {p pos : Pos} (hg : Gl X "enumerate") (hm : X.mg "enumerate" = none) (ha : PE X a ta) (hs : starEach [a] X.env = [(false, eval a X.env)] := by rfl) :
    PI X (.Tuple elts x1 tpos) (.Call (.Name "enumerate" p) [a] [] pos) (iEnum (tCons ta tNil)) := pi_enum hg hm (pa_cons ha pa_nil hs) hs
theorem vi_enumA {ta : TE} {q : Ql} {ε : Env → Option D} (h : VE G ow ta q ε) : VI G ow (iEnum (tCons ta tNil)) (iotaE 0 ε) := fun H0 av A σ H δ E xs e R k => by
  unfold iotaE at e
  cases he : ε δ with
  | none => rw [he] at e; cases e
  | some d =>
    rw [he] at e
    cases d <;> first | (cases e; done) | skip
    cases e
    refine h H0 av A σ H δ E _ he _ fun v H1 s r => ?_
    have e1 : v = S _ := r.any
    subst e1
    exact ⟨_, rfl, k _ H1 s walkD_enumS⟩
end
end DL

namespace DL
open PySem PySem.Spec L2
section
variable {cA : Kn} {P : Program} {w : World} {K : PySem.W.Frag} {mg : Str → Option Value} {base : Heap}
/-- a def by its body, written out -/
theorem fn_DB {x qual : Str} {st : Stmt} {f : Addr} {fd : FuncData} {N ps : List Str} {k : Nat} {φ : Env → Option Out} {body : List Stmt} {scope : Scope} {n : Nat} {m : List D → Option D} (F : FunX K x qual st f fd) (S : FnScope N ps (defScope st)) (hS : defScope st = scope) (hB : defBody st = body)
    (hbody : ∀ (cdv : Value) (A : Around) (outer : List PySem.Env) (s : Shared) (H : Hp) (E : XK), Room k (A.deeper (PyProof.Rows.envOfC qual scope s.heap.objs.size f cdv)) →
      ∃ t, PSs (cxOf CX0 P w K mg base N qual scope f cdv A outer s H E).nox body t ∧ ∃ owN, VS ⟨cA, fun _ => none⟩ [] owN [] [] t φ)  (hm : m = run N.length φ) (hn : ps.length = n) : FnOk P w K mg base CX0 (k + 1) f fd ps (spD cA n m) := by
  subst hS hB hm hn
  exact fn_DX F S hbody
theorem fn_IB {x qual : Str} {st : Stmt} {f : Addr} {fd : FuncData} {N ps : List Str} {k : Nat} {φ : Env → Option Out} {body : List Stmt} {scope : Scope} {n : Nat} {m : List D → Option D} (F : FunX K x qual st f fd) (S : FnScope N ps (defScope st)) (hS : defScope st = scope) (hB : defBody st = body)
    (hbody : ∀ (cdv : Value) (A : Around) (outer : List PySem.Env) (s : Shared) (H : Hp) (E : XK) (a : Addr), Room k (A.deeper (PyProof.Rows.envOfC qual scope s.heap.objs.size f cdv)) →
      ∃ t, PSs (cxOf CX0 P w K mg base N qual scope f cdv A outer s H E).nox body t ∧ VS ⟨cA, fun j => if j = 0 then some a else none⟩ [0] [0] [] [] t φ)  (hm : m = runI N.length φ) (hn : ps.length = n) : FnOk P w K mg base CX0 (k + 1) f fd ps (spI cA n m) := by
  subst hS hB hm hn
  exact fn_I F S hbody
end
end DL

namespace DL
open PySem PySem.Spec L2 PyProof.Rows
/-! ### sum, max, min of a list of ints -/
def intsD : List D → Option (List Int)
  | [] => some []
  | .int b :: r => match intsD r with
    | some bs => some (b :: bs)
    | none => none
  | _ => none
theorem intsD_of : ∀ {xs : List D} {bs : List Int}, intsD xs = some bs → xs = bs.map D.int
  | [], bs, h => by cases h; rfl
  | x :: xs, bs, h => by
    cases x <;> first | (cases h; done) | skip
    rename_i b
    unfold intsD at h
    cases hr : intsD xs with
    | none => rw [hr] at h; cases h
    | some cs =>
      rw [hr] at h
      cases h
      rw [List.map_cons, intsD_of hr]
theorem intsD_map (bs : List Int) : intsD (bs.map D.int) = some bs := by
  induction bs with
  | nil => rfl
  | cons b bs ih => rw [List.map_cons, intsD, ih]
theorem run_ints : ∀ (ns : List Int) (its : List Value), Vals (ns.map V.int) its → IntsAre its ns
  | [], its, h => by cases h; exact .nil
  | n :: ns, its, h => by
    cases h with
    | cons r1 r2 =>
      obtain ⟨t, rfl⟩ := r1
      exact .cons _ _ (run_ints ns _ r2)
def maxZ : List Int → Int
  | [] => 0
  | n :: ns => ns.foldl max n
theorem foldl_max_spec : ∀ (ns : List Int) (n : Int), (ns.foldl max n = n ∨ ns.foldl max n ∈ ns) ∧ n ≤ ns.foldl max n ∧ ∀ a ∈ ns, a ≤ ns.foldl max n
  | [], n => ⟨.inl rfl, Int.le_refl _, fun _ z => nomatch z⟩
  | m :: ns, n => by
    obtain ⟨h1, h2, h3⟩ := foldl_max_spec ns (max n m)
    rw [List.foldl_cons]
    refine ⟨?_, by omega, fun a ha => ?_⟩
    · rcases h1 with h | h
      · by_cases hm : n ≤ m
        · exact .inr (by rw [h, Int.max_eq_right hm]; exact List.mem_cons_self)
        · exact .inl (by rw [h, Int.max_eq_left (by omega)])
      · exact .inr (List.mem_cons_of_mem _ h)
    · rcases List.mem_cons.mp ha with rfl | ha
      · omega
      · exact h3 a ha
theorem maxZ_spec {ns : List Int} (h : 0 < ns.length) : maxZ ns ∈ ns ∧ ∀ a ∈ ns, a ≤ maxZ ns := by
  cases ns with
  | nil => cases h
  | cons n ns =>
    obtain ⟨h1, h2, h3⟩ := foldl_max_spec ns n
    refine ⟨?_, fun a ha => ?_⟩
    · rcases h1 with h | h
      · show ns.foldl max n ∈ _
        rw [h]; exact List.mem_cons_self
      · exact List.mem_cons_of_mem _ h
    · rcases List.mem_cons.mp ha with rfl | ha
      · exact h2
      · exact h3 a ha
theorem maxZ_uniq {ns : List Int} {M : Int} (h1 : M ∈ ns) (h2 : ∀ a ∈ ns, a ≤ M) : M = maxZ ns := by
  obtain ⟨h3, h4⟩ := maxZ_spec (List.length_pos_of_mem h1)
  exact Int.le_antisymm (h4 M h1) (h2 _ h3)
def rMaxL (K : PySem.W.Frag) : List V → Hp → VK → Prop := fun xs H Q => ∃ (p : Addr) (ns : List Int), xs = [.ref p] ∧ SqL K H p (ns.map V.int) ∧ 0 < ns.length ∧ Q (.int (maxZ ns)) H
def rSumL (K : PySem.W.Frag) : List V → Hp → VK → Prop := fun xs H Q => ∃ (p : Addr) (ns : List Int), xs = [.ref p] ∧ SqL K H p (ns.map V.int) ∧ Q (.int ns.sum) H
section
variable {X : Cx} {K : PySem.W.Frag} {cA : Kn}
theorem call_maxL (hc : X.calm = true) : CallR X (.builtin "max") (rMaxL X.K) := by
  intro pins s σ H xs us Q I rs h
  obtain ⟨p, ns, rfl, hq, hne, q⟩ := h
  obtain ⟨u, rfl, rx⟩ := vals1 rs
  cases rx
  obtain ⟨its, rv, pl, hz⟩ := I.list hq
  have hi := run_ints ns its rv
  obtain ⟨ys, e⟩ := hi.allInts.items
  have hns : ns = ys.toList.map (·.1) := by
    rw [← hi.numsOf, ← nums_intItems, ← e]
  have hsz : 0 < ys.size := by
    have h3 := hne; rw [hns, List.length_map, Array.length_toList] at h3; exact h3
  have hl := pl.isList
  rw [e] at hl
  refine max_intList (I.ok.hd hc) hl hsz fun v h' tk hv hk => ?_
  obtain ⟨t, rfl⟩ := intItems_at hv
  obtain ⟨h1, h2⟩ := argBest_gt (numAt ys) (ys.size - 1)
  have hM := maxZ_uniq (ns := ns) (M := numAt ys (argBest (fun i j => decide (numAt ys i > numAt ys j)) (ys.size - 1))) (by
    rw [hns, numAt_eq]; exact getD_mem (by rw [List.length_map, Array.length_toList]; omega)) (fun a ha => by
    rw [hns] at ha
    obtain ⟨j, hj, rfl⟩ := mem_getD ha
    rw [List.length_map, Array.length_toList] at hj
    rw [← numAt_eq]; exact h2 j (by omega))
  exact ⟨.int (maxZ ns), H, I.kept hk, ⟨t, by rw [hM]⟩, q⟩
theorem call_sumL (hc : X.calm = true) : CallR X (.builtin "sum") (rSumL X.K) := by
  intro pins s σ H xs us Q I rs h
  obtain ⟨p, ns, rfl, hq, q⟩ := h
  obtain ⟨u, rfl, rx⟩ := vals1 rs
  cases rx
  obtain ⟨its, rv, pl, hz⟩ := I.list hq
  have hi := run_ints ns its rv
  obtain ⟨ys, e⟩ := hi.allInts.items
  have hns : ns = ys.toList.map (·.1) := by
    rw [← hi.numsOf, ← nums_intItems, ← e]
  have hl := pl.isList
  rw [e] at hl
  refine sum_intListG (I.ok.hd hc) hl fun h' tk t' hk => ?_
  have e2 : preSum (numAt ys) ys.size = ns.sum := by
    rw [preSum_eq, List.take_of_length_le (by simp), hns]
  exact ⟨.int ns.sum, H, I.kept hk, ⟨t', by rw [e2]⟩, q⟩
theorem k_maxL (hc : X.calm = true := by rfl) (hK : X.K = K := by rfl) : CallR X (.builtin "max") (rMaxL K) := hK ▸ call_maxL hc
theorem k_sumL (hc : X.calm = true := by rfl) (hK : X.K = K := by rfl) : CallR X (.builtin "sum") (rSumL K) := hK ▸ call_sumL hc
def maxLD : List D → Option D
  | [.lst xs] => match intsD xs with
    | some ns => if 0 < ns.length then some (.int (maxZ ns)) else none
    | none => none
  | _ => none
def sumLD : List D → Option D
  | [.lst xs] => match intsD xs with
    | some ns => some (.int ns.sum)
    | none => none
  | _ => none
theorem cb_maxL : CbOk cA (rMaxL cA.K) maxLD := fun i H ds vs d _ h e Q k => by
  unfold maxLD at e
  split at e
  · rename_i xs
    cases hb : intsD xs with
    | none => rw [hb] at e; cases e
    | some bs =>
      rw [hb] at e
      dsimp only at e
      by_cases hz : 0 < bs.length
      · rw [if_pos hz] at e
        cases e
        obtain ⟨v, t, rfl, a, ws, rfl, _, rd, l⟩ := il1 h
        have ex := intsD_of hb
        subst ex
        have ev := l.vals (by rw [List.all_map]; exact List.all_eq_true.mpr fun _ _ => rfl)
        rw [List.map_map] at ev
        subst ev
        exact ⟨a, bs, rfl, rd, hz, k _ H (Same.refl H) rfl⟩
      · rw [if_neg hz] at e; cases e
  · cases e
theorem cb_sumL : CbOk cA (rSumL cA.K) sumLD := fun i H ds vs d _ h e Q k => by
  unfold sumLD at e
  split at e
  · rename_i xs
    cases hb : intsD xs with
    | none => rw [hb] at e; cases e
    | some bs =>
      rw [hb] at e
      cases e
      obtain ⟨v, t, rfl, a, ws, rfl, _, rd, l⟩ := il1 h
      have ex := intsD_of hb
      subst ex
      have ev := l.vals (by rw [List.all_map]; exact List.all_eq_true.mpr fun _ _ => rfl)
      rw [List.map_map] at ev
      subst ev
      exact ⟨a, bs, rfl, rd, k _ H (Same.refl H) rfl⟩
  · cases e
end
end DL

namespace L2
open PySem PySem.Spec PyProof.Rows
section
variable {X : Cx} {scope : Scope} {tn cn : List Str} {js : List Nat} {tg iter elt : Expr} {ifs : List Expr} {pos spos pos' : Pos} {wi : TI} {g : TG} {tt : TT} {te : TE}
/-- name = [.. for ..]: the store comes before the block's own names go -/
theorem ps_setC {i : Nat} {x : Str} (hN : X.N.Nodup) (hi : X.N[i]? = some x) (hx : X.env.scope.names.lookup x = some .local) (hc : X.calm = true) (S : CompSc X scope tn cn js) (hI : PI X tg iter wi)
    (hg : ∀ C s₂ H₂ fp, PG (compX X scope (tn ++ cn) C s₂ H₂ fp) tg g) (ht : ∀ C s₂ H₂ fp, PTs (compX X scope (tn ++ cn) C s₂ H₂ fp) ifs tt) (he : ∀ C s₂ H₂ fp, PE (compX X scope (tn ++ cn) C s₂ H₂ fp) elt te)
    (hsw : swapsWith (.ListComp elt [⟨tg, iter, ifs, 0⟩] scope pos) (some (.Name x pos')) spos.line X.env = pure true := by rfl)
    (hs : ∀ x, foldedSetIterable iter X.env x = pure x := by intro _; rfl) :
    PS X (.Assign [.Name x pos'] (.ListComp elt [⟨tg, iter, ifs, 0⟩] scope pos) spos) (tAsg (tComp wi g tt te tn.length js) (gName i)) := by
  intro pins s σ H D I h
  rw [exec_Assign_Name_used _ _ _ _ hsw]
  refine wpAny_bind (wpAny_standAt (wpAny_bind ?_))
  show wpAny _ X.A (do let _ ← comprehension (.ListComp elt [⟨tg, iter, ifs, 0⟩] scope pos) scope X.env _ (newList []) false (eval iter X.env) (some (assign (.Name x pos') X.env))) _ _ s
  refine wpAny_bind (wpAny_mono (wpAny_comprehension_free (use := some (assign (.Name x pos') X.env)) (Q := fun _ s' => SP X pins D .next s') (cl := closL X.env.cells scope.names []) rfl hs (closureFor_eq (S.clos I.ok)) S.kind S.names
    (thn (hI pins s σ H _ I h) fun v s1 h1 => thn h1 fun itv s2 h2 => ?_)) (fun _ s' hq => wpAny_pure (wpAny_pure hq)) fun _ _ e => e)
  obtain ⟨it, fp, tnx, J, H2, e, I2, T, st2, f2, W, ⟨m0, w0⟩, turn⟩ := h2
  subst e
  refine comp_block (RR := fun acc C => compPost (model X.prog X.w) X.A X.xe (some (assign (.Name x pos') X.env)) (fun _ s' => SP X pins D .next s') acc C) (W := W) (m0 := m0) hc S hg ht he I2 T st2 f2 w0 fun i' m ys H w => ?_
  rcases turn i' m ys H w with ⟨stop, qn⟩ | r
  · refine .inl ⟨stop, fun C D' s its n σ' hC hD hDC hv hz I' => ?_⟩
    obtain ⟨m', hn, _⟩ := id I'.loc
    have pd := I'.pin (D', { cls := .type "list", data := .seq its.toArray n }) (List.mem_append_right _ List.mem_cons_self)
    have hCf : H C = none := I'.free
    have I1 : Inv X pins σ (upd H D' (.lst ys)) { s with heap := s.heap } := comp_end S I2 hC hD hDC f2 I' hv hz (Heap.SameBut.refl _ _)
    show wpAny _ X.A (assign (.Name x pos') X.env (.ref D')) _ _ _
    have hlC : X.env.locals ≠ C := fun z => absurd (z ▸ I2.lt) (Nat.not_lt.mpr hC)
    have hcC : ∀ y c, X.env.cells.lookup y = some c → c ≠ C := fun y c e z => by
      obtain ⟨v', o', q, _⟩ := I2.cell y c e
      exact absurd (Heap.lt_size q) (Nat.not_lt.mpr (z ▸ hC))
    refine wpAny_assign_Name (store_ok2 I1 hN hi (.inl hx) (v := .ref D') rfl (fun s3 I3 ⟨a, hsb, ha⟩ => ?_) (.inr hx))
    have hCa : C ≠ a := by
      rcases ha with rfl | ha
      · exact Ne.symm hlC
      · exact Ne.symm (hcC _ _ ha)
    refine ⟨m', hn.sameBut hsb hCa, fun h' hs' => ?_⟩
    have hCn : upd H D' (.lst ys) C = none := by rw [upd_ne (Ne.symm hDC)]; exact hCf
    have I4 : Inv X pins (σ.set i (some (.ref D'))) (upd H D' (.lst ys)) { s3 with heap := h', toks := s3.toks } := I3.turned (it := C) (fun b o hb e => (hs'.2 b hb).trans e) hCn (Ne.symm hlC) (.inr (Nat.le_trans (Nat.le_trans I2.ok.above (Nat.le_of_lt I2.lt)) hC)) (fun y c e => hcC y c e) fun p hp z => by
      have := (I2.pin p hp).1
      exact absurd (Heap.lt_size this) (Nat.not_lt.mpr (z ▸ hC))
    exact ⟨_, _, I4, qn D' pd.2.1⟩
  · exact .inr r
end
end L2

namespace DL
open PySem PySem.Spec L2 PyProof.Rows
/-! ### ints of any sign, up to some thousand bits -/
def Wd (i : Int) : Prop := i.natAbs < 2 ^ 8000
instance (i : Int) : Decidable (Wd i) := by unfold Wd; infer_instance
def CMulW (i j : Int) : Prop := (Wd i ∧ Wd j) ∨ CMul i j
instance (i j : Int) : Decidable (CMulW i j) := by unfold CMulW; infer_instance
def CDivW (_ j : Int) : Prop := j ≠ 0 ∧ Wd j
instance (i j : Int) : Decidable (CDivW i j) := by unfold CDivW; infer_instance
instance (i j : Int) : Decidable (CPow i j) := by unfold CPow; infer_instance
theorem wd_log {i : Int} (h : Wd i) (h0 : i ≠ 0) : i.natAbs.log2 < 8000 := (Nat.log2_lt (by omega)).mpr h
theorem CMulW.ok {i j : Int} (h : CMulW i j) : IntMulOk i j := by
  rcases h with ⟨h1, h2⟩ | h
  · have bits : ∀ {a : Int}, Wd a → Builtin.Int.intBits a ≤ 2 ^ 20 := fun {a} ha => by
      unfold Builtin.Int.intBits
      by_cases h0 : a = 0
      · subst h0; decide
      · have := wd_log ha h0
        have e : (2 : Nat) ^ 20 = 1048576 := by decide
        rw [e]
        split <;> omega
    exact .of_bits (bits h1) (bits h2)
  · exact h.ok
section
variable {X : Cx} {cA : Kn}
theorem op_mulW : OpR X (binaryOp .Mult) (rI CMulW fun i j => .int (i * j)) := opI fun _ _ _ _ _ _ _ hc q => mul_int q hc.ok
theorem op_fdivW : OpR X (binaryOp .FloorDiv) (rI CDivW fun i j => .int (i.fdiv j)) := opI fun _ _ _ _ _ _ _ hc q => floordiv_int hc.1 q (.inl (PyProof.noPylong_of_log2 (Nat.lt_trans (wd_log hc.2 hc.1) (by decide))))
def mulW : D → D → Option D
  | .int i, .int j => if CMulW i j then some (.int (i * j)) else none
  | _, _ => none
def fdivW : D → D → Option D
  | .int i, .int j => if CDivW i j then some (.int (i.fdiv j)) else none
  | _, _ => none
def modW : D → D → Option D
  | .int i, .int j => if j ≠ 0 then some (.int (i.fmod j)) else none
  | _, _ => none
def powW : D → D → Option D
  | .int i, .int j => if CPow i j then some (.int (i ^ j.toNat)) else none
  | _, _ => none
theorem ok_rI {C : Int → Int → Prop} [∀ i j, Decidable (C i j)] {g : Int → Int → Int} {f : D → D → Option D} (hf : ∀ x y d, f x y = some d → ∃ i j, x = .int i ∧ y = .int j ∧ C i j ∧ d = .int (g i j)) : OpOk cA (rI C fun i j => .int (g i j)) f := fun t t' i H x y vx vy d _ hx hy e Q k => by
  obtain ⟨a, b, rfl, rfl, hc, rfl⟩ := hf x y d e
  cases (show vx = _ from hx); cases (show vy = _ from hy)
  exact ⟨_, _, rfl, rfl, hc, k _ H (Same.refl H) rfl⟩
theorem ok_mulW : OpOk cA (rI CMulW fun i j => .int (i * j)) mulW := ok_rI fun x y d e => by
  cases x <;> cases y <;> first | (cases e; done) | skip
  rename_i a b
  dsimp only [mulW] at e
  by_cases hz : CMulW a b
  · rw [if_pos hz] at e; cases e; exact ⟨_, _, rfl, rfl, hz, rfl⟩
  · rw [if_neg hz] at e; cases e
theorem ok_fdivW : OpOk cA (rI CDivW fun i j => .int (i.fdiv j)) fdivW := ok_rI fun x y d e => by
  cases x <;> cases y <;> first | (cases e; done) | skip
  rename_i a b
  dsimp only [fdivW] at e
  by_cases hz : CDivW a b
  · rw [if_pos hz] at e; cases e; exact ⟨_, _, rfl, rfl, hz, rfl⟩
  · rw [if_neg hz] at e; cases e
theorem ok_modW : OpOk cA (rI (fun _ j => j ≠ 0) fun i j => .int (i.fmod j)) modW := ok_rI fun x y d e => by
  cases x <;> cases y <;> first | (cases e; done) | skip
  rename_i a b
  dsimp only [modW] at e
  by_cases hz : b ≠ 0
  · rw [if_pos hz] at e; cases e; exact ⟨_, _, rfl, rfl, hz, rfl⟩
  · rw [if_neg hz] at e; cases e
theorem ok_powW : OpOk cA (rI CPow fun i j => .int (i ^ j.toNat)) powW := ok_rI fun x y d e => by
  cases x <;> cases y <;> first | (cases e; done) | skip
  rename_i a b
  dsimp only [powW] at e
  by_cases hz : CPow a b
  · rw [if_pos hz] at e; cases e; exact ⟨_, _, rfl, rfl, hz, rfl⟩
  · rw [if_neg hz] at e; cases e
/-! ### abs -/
def rAbs : List V → Hp → VK → Prop := fun xs H Q => ∃ i, xs = [.int i] ∧ Q (.int (if i < 0 then -i else i)) H
theorem call_absI : CallR X (.builtin "abs") rAbs := by
  intro pins s σ H xs us Q I rs h
  obtain ⟨i, rfl, q⟩ := h
  obtain ⟨u, rfl, t, rfl⟩ := vals1 rs
  exact call_abs_int fun u tk => ⟨.int _, H, I.tok _, ⟨_, rfl⟩, q⟩
def absD : List D → Option D
  | [.int i] => some (.int (if i < 0 then -i else i))
  | _ => none
theorem cb_abs : CbOk cA rAbs absD := fun i H ds vs d _ h e Q k => by
  unfold absD at e
  split at e
  · rename_i j
    cases e
    obtain ⟨v, t, rfl, hv⟩ := il1 h
    cases (show v = _ from hv)
    exact ⟨_, rfl, k _ H (Same.refl H) rfl⟩
  · cases e
end
end DL

namespace L2
open PySem PySem.Spec PySem.W PyProof.Rows
/-! ### an exception on its way -/
def bmV : List Value := [.type "ValueError", .type "Exception", .type "BaseException", .type "object"]
theorem exc_obj {K : PySem.W.Frag} {hp : Heap} {C : Addr} {tlB : List Value} {nid : String} (KX : K.In hp) (q0 : excIn K C tlB nid = true) :
    ∃ bm N nm q bs hdct sn sub ab col dd k0 k1 k2 k3 k5 mN, hp.get? C = some (excClassObj nm q C N bs bm hdct sn sub ab col dd k0 k1 k2 k3 k5 nid) ∧ hp.Ns N mN ∧ mN "__init__" = none ∧ OwnTail hp tlB bm := by
  unfold excIn at q0
  split at q0
  · rename_i dict0 cls0 slots0 look0
    split at q0
    · rename_i C1 rest0 j0 j1 j2 j3 nid1 j5 mro0 sl0
      simp only [Bool.and_eq_true, beq_iff_eq, Bool.not_eq_true'] at q0
      have e1 : C1 = C := q0.1.1.1.1.1
      have e2 : nid1 = nid := q0.1.1.1.1.2
      have e3 := q0.1.1.1.2
      have e4 := q0.1.1.2
      have e5 := q0.1.2
      have e6 := q0.2
      subst e1 e2
      cases cls0 with
      | mk f1 f2 f3 f4 f5 f6 f7 f8 f9 f10 f11 =>
        dsimp only at mro0 e3 e5 e6
        subst mro0 e3
        have es : slots0 = #[j0, j1, j2, j3, some (.builtin nid1), j5] := by
          cases slots0 with
          | mk l => exact congrArg Array.mk sl0
        subst es
        exact ⟨rest0, f4, f1, f5, f2, f6, f7, f8, f9, f10, dict0, j0, j1, j2, j3, j5, _, KX _ _ look0, .of_isNs (isNs_of_in KX e5), nsMap_none_of_in KX e5 e6, tail_of_in KX e4⟩
    · cases q0
  · cases q0
/-- what is wanted of an exception that is made here -/
def RaiseOk (X : Cx) (E : XK) (C : Addr) : Prop := ∀ (pins : List (Addr × Obj)) (σ : St) (H : Hp) (s : Shared) (h' : Heap) (e : Addr) (us : List Value), Inv X pins σ H s → Heap.MadeExcOf s.heap h' e (.ref C) us → E (.ref C) none H → X.xe (.ref e) { s with heap := h' }
def tRaise (E : XK) (C : Addr) (t : TA) : TS := fun _ σ H => t σ H fun vs H1 => vs.length ≤ 8 ∧ E (.ref C) none H1
section
variable {X : Cx} {E : XK} {C : Addr} {x : Str} {p cpos pos : Pos} {e : Expr} {es : List Expr} {t : TA}
theorem ps_raise (hg : Gl X x) (hm : X.mg x = some (.ref C)) (hq : excIn X.K C bmV "ValueError.__new__" = true) (hR : RaiseOk X E C) (ha : PA X (e :: es) t) (hc : X.calm = true := by rfl)
    (he : starEach (e :: es) X.env = (false, eval e X.env) :: starEach es X.env := by rfl) (hpl : (backTo cpos (starEach es X.env)).any (·.1) = false := by rfl) (hdb : (x == ("__debug__" : Str)) = false := by decide) :
    PS X (.Raise (some (.Call (.Name x p) (e :: es) [] cpos)) none pos) (tRaise E C t) := by
  intro pins s σ H D I h
  obtain ⟨tl, N, nm, q, bs, hdct, sn, sub, ab, col, dd, k0, k1, k2, k3, k5, mN, hC, hN, hni, T⟩ := exc_obj I.ok.mod.kin hq
  refine wpAny_Raise_call_subT (C := C) (nm := nm) (q := q) (N := N) (bs := bs) (bm := tl) (hdct := hdct) (sn := sn) (sub := sub) (ab := ab) (col := col) (dd := dd) (k0 := k0) (k1 := k1) (k2 := k2) (k3 := k3) (k5 := k5)
    PySem.F.excBase_ValueError (mN := mN) (T.hasType PySem.F.excBase_ValueError.hasBase) (I.ok.hd hc) (by rw [he]; show (false || (backTo cpos (starEach es X.env)).any (·.1)) = false; rw [hpl]; rfl) hni (ld_glob I hg hm ⟨rfl, ?_⟩ hdb)
  have h1 := ha cpos pins s σ H _ I h
  rw [he] at h1 ⊢
  refine Calls.evalArgs_plain (thn h1 fun us s2 ⟨vs, H2, I2, r, hl, hE⟩ => ⟨rfl, ?_, I2.bk _ _ hC, hN.keeps I2.bk, T.keeps I2.bk, fun h' ea hx => ?_⟩)
  · show us.length ≤ sizeLine
    rw [← r.length]
    exact Nat.le_trans hl (by decide)
  · exact hR pins σ H2 s2 h' ea us I2 hx hE
end
/-! ### how it lies behind a call -/
theorem HOk.hide {P : Program} {w : World} {H : Hp} {h : Heap} {as : List Addr} (x : HOk P w H h) (hn : ∀ b ∈ as, H b = none) : HOk P w H (hideAll h as) := fun a o e =>
  (x a o e).stay (fun b u hb q => hideAll_get _ q fun z => by
    rcases hb with rfl | hb
    · rw [hn _ z] at e; cases e
    · rw [hn _ z] at hb; cases hb) (fun _ q => q) fun _ _ q => q
def CX1 (P : Program) (w : World) : CXT := fun outer H s E ev s' => ∃ (ea : Addr) (cls a0 : Value) (B : Heap) (H' : Hp), ev = .ref ea ∧ s'.os = s.os ∧ AllBare s'.gens ∧ Heap.FlyingW B outer ea cls a0 s'.heap ∧
  (∀ b o, s.heap.get? b = some o → H b = none → b ∉ frs outer → B.get? b = some o) ∧ HOk P w H' B ∧ Same H H' ∧ (∀ b o, s.heap.get? b = some o → H b = none → H' b = none) ∧ (∀ b o, s.heap.get? b = some o → b ∈ frs outer → ∃ sl, s'.heap.get? b = some { o with slots := sl }) ∧ E cls none H'
section
variable {P : Program} {w : World} {K : PySem.W.Frag} {mg : Str → Option Value} {base : Heap} {N : List Str} {qual : Str} {scope : Scope} {f : Addr} {cd : Value} {A : Around} {outer : List Env} {s : Shared} {H : Hp} {E : XK}
/-- where a def's body makes it and does not catch it -/
theorem raise_leaves {C : Addr} : RaiseOk (cxOf (CX1 P w) P w K mg base N qual scope f cd A outer s H E) (fun c d H' => Same H H' ∧ E c d H') C := by
  intro pins σ H1 s1 h' e us I hx ⟨hsm, hw⟩
  show wpAny (model P w) _ (leaving _ (.ref e)) _ _ _
  have hin : ∀ env ∈ ((cxOf (CX1 P w) P w K mg base N qual scope f cd A outer s H E).stack), ∀ b, env.frame = some b → b ∈ frs (cxOf (CX1 P w) P w K mg base N qual scope f cd A outer s H E).stack := fun env he b hb => List.mem_filterMap.mpr ⟨env, he, hb⟩
  have hfr := I.ok.frames
  have hfun := funFrames_hide I.stack hin
  have hfree := I.stkFree
  have hsub := I.stkSub
  refine wpAny_leaves_madeW (base := hideAll s1.heap (frs (cxOf (CX1 P w) P w K mg base N qual scope f cd A outer s H E).stack)) (h := s1.heap) (outer := outer) hfr rfl (fun b o q => of_hideAll _ q) hfun hx fun h2 t x1 x2 x3 x4 => ?_
  refine ⟨e, .ref C, .ref t, _, H1, rfl, I.os, I.bare, x1, fun b o q n hb => ?_, HOk.hide I.hok hfree, hsm, fun b o q n => I.base.free b o q n (fun z => nomatch z), fun b o q hb => ?_, hw⟩
  · have q1 := I.base.keep b o q n hb (fun z => nomatch z)
    refine hideAll_get _ q1 fun z => ?_
    rcases List.mem_cons.mp (hsub b z) with e' | z
    · have := I.ok.above
      exact absurd (Heap.lt_size q) (Nat.not_lt.mpr (by rw [e']; exact this))
    · exact hb z
  · obtain ⟨sl, q1⟩ := I.base.slot b o q (I.ok.frf b hb) hb (fun z => nomatch z)
    obtain ⟨_, o', q2, hnf⟩ := I.ok.funs.mem hb
    have : o' = o := Option.some.inj (q2.symm.trans q)
    subst this
    obtain ⟨sl2, q4⟩ := x4 b _ (hx.keeps b _ q1) (show ∀ vs, ({ cls := o'.cls, dict := o'.dict, data := o'.data, slots := sl } : Obj).data ≠ .fields vs from hnf)
    exact ⟨sl2, q4⟩
/-- where it comes from a def that is called, and is not caught -/
theorem pass_leaves : Passes (CX1 P w) (cxOf (CX1 P w) P w K mg base N qual scope f cd A outer s H E) (fun c d H' => Same H H' ∧ E c d H') := by
  intro pins σ H1 s1 ev s' I ⟨ea, cls, a0, B, H2, e, hos, hb, hfl, hKB, hok, hsame, hfree, hup, hS, hE⟩
  subst e
  show wpAny (model P w) _ (leaving _ (.ref ea)) _ _ _
  refine wpAny_leaves_onW (outer := outer) I.ok.frames rfl hfl fun h2 y1 y2 => ?_
  refine ⟨ea, cls, a0, B, H2, rfl, hos.trans I.os, hb, y1, fun b o q n hn => ?_, hok, hS, fun b o q n => ?_, fun b o q hn => ?_, hE⟩
  · refine hKB b o (I.base.keep b o q n hn (fun z => nomatch z)) (I.base.free b o q n (fun z => nomatch z)) fun z => ?_
    rcases List.mem_cons.mp (I.stkSub b z) with e' | z
    · exact absurd (Heap.lt_size q) (Nat.not_lt.mpr (by rw [e']; exact I.ok.above))
    · exact hn z
  · obtain ⟨sl, q1⟩ := I.base.any q n (fun z => nomatch z)
    exact hfree b _ q1 (I.base.free b o q n (fun z => nomatch z))
  · obtain ⟨sl, q1⟩ := I.base.slot b o q (I.ok.frf b hn) hn (fun z => nomatch z)
    obtain ⟨_, o', q2, hnf⟩ := I.ok.funs.mem hn
    have : o' = o := Option.some.inj (q2.symm.trans q)
    subst this
    obtain ⟨sl', q3⟩ := hup b _ q1 (List.mem_cons_of_mem _ hn)
    obtain ⟨sl2, q4⟩ := y2 b _ q3 (show ∀ vs, ({ cls := o'.cls, dict := o'.dict, data := o'.data, slots := sl' } : Obj).data ≠ .fields vs from hnf)
    exact ⟨sl2, q4⟩
end
end L2

namespace L2
open PySem PySem.Spec PySem.W PyProof.Rows PySem.Calls PySem.Builtin PySem.Builtin.ObjectAttr PySem.Builtin.Getset_descriptor
/-! ### isinstance of an exception -/
def ExcAt (e : Addr) (C : Value) (hp : Heap) : Prop := ∃ o : Obj, hp.get? e = some o ∧ o.cls = C
structure ExCls (K : PySem.W.Frag) (C : Addr) : Prop where
  ex : excIn K C bmV "ValueError.__new__" = true
  ga : findIn K (.ref C) "__getattribute__" = some (some (.builtin "BaseException.__getattribute__"))
  mb : mroIn K C (.type "BaseException") = some true
  gt : findIn K (.ref C) "__getattr__" = some none
  ca : findIn K (.ref C) "__class__" = some (some (.builtin "object.__class__"))
  cg : specialIn K (.builtin "object.__class__") "__get__" = some (some (.builtin "getset_descriptor.__get__"))
  ct : takesIn K (.builtin "object.__class__") = some true
  mo : mroIn K C (.type "object") = some true
  cl : (clsIn K C).isSome = true
section
variable {P : Program} {w : World} {A : Around} {E : Value → Shared → Prop} {s : Shared} {K : PySem.W.Frag} {e C : Addr}
theorem exc_ty {M : Model} {hp : Heap} (p : ExcAt e (.ref C) hp) : Looks M hp (typeOf (.ref e)) (.ref C) := by
  obtain ⟨o, h1, h2⟩ := p
  exact h2 ▸ (Looks.ld h1).andThen .now
theorem exc_find {M : Model} {hp : Heap} (T : ExCls K C) (KX : K.In hp) : Looks M hp (Builtin.ObjectAttr.find (.ref e) (.ref C) "__class__") (.bind (.builtin "getset_descriptor.__get__") (.builtin "object.__class__")) :=
  (looks_findIn (M := M) KX T.ca).andThen ((show Looks M hp (Builtin.ObjectAttr.getOf (some (.builtin "object.__class__"))) _ from looks_specialIn KX T.cg).andThen
    ((show Looks M hp (Builtin.ObjectAttr.dataDescriptor? (some (.builtin "object.__class__")) (some (.builtin "getset_descriptor.__get__"))) (some (Value.builtin "getset_descriptor.__get__", Value.builtin "object.__class__")) from (looks_takesIn (M := M) KX T.ct).andThen .now).andThen (Looks.tag .now)))
theorem exc_cget {tp : Value} {R : Result → Shared → Prop} (T : ExCls K C) (KX : K.In s.heap) (p : ExcAt e (.ref C) s.heap) (hr : R (.ok (.ret (.ref C))) s) :
    codeAny (model P w) A (.call (.builtin "getset_descriptor.__get__") ⟨[.builtin "object.__class__", .ref e, tp], []⟩) R s := by
  cases s with
  | mk hp gs dr tk os' =>
  have Y0 := exc_ty (M := model P w) p
  have Y1 := looks_mroIn (M := model P w) KX T.mo
  refine codeAny_call_builtin KF.slot_gs.plain KF.entry_gs (KF.slot_gs.check _ _ _ _ _ _ _ _ KF.type_class (KF.args_gs _ _ _) (by
    unfold Builtin.«getset_descriptor.__get__» descrGet; rw [dga_obj]; refine wpAny_bind (wpAny_pure ?_)
    unfold descrGetter descrCheckInstance descrNameAndClass isInstance; simp only [KF.owner_class]; repeat lk
    refine ⟨Code.quiet_builtin _ (by decide +kernel), codeAny_builtin KF.entry_class (by unfold Builtin.«object.__class__» shownTypeOf; repeat lk
                                                                                         exact hr)⟩))
theorem exc_entry {tk : Tok} {Q : Fin → Shared → Prop} (T : ExCls K C) (KX : K.In s.heap) (p : ExcAt e (.ref C) s.heap) (hq : Q (.done (.ret (.ref C))) s) : wpAny (model P w) A (Builtin.«object.__getattribute__» ⟨[.ref e, .str "__class__" tk], []⟩) Q E s := by
  have Y0 := exc_ty (M := model P w) p
  have Y2 := exc_find (e := e) (M := model P w) T KX
  unfold Builtin.«object.__getattribute__»
  refine wpAny_bind (wpAny_pure ?_)
  refine wpAny_bind (wpAny_pure ?_)
  refine wpAny_bind (Y0.here (wpAny_bind (Y2.here ?_)))
  show wpAny _ _ (holding [Value.builtin "object.__class__"] (call (.builtin "getset_descriptor.__get__") [.builtin "object.__class__", .ref e, .ref C]) >>= ret) _ _ _
  exact wpAny_bind (wpAny_holding (wpAny_call (exc_cget T KX p (wpAny_pure hq))))
theorem exc_check {nameV : Value} {Q : Unit → Shared → Prop} (T : ExCls K C) (KX : K.In s.heap) (p : ExcAt e (.ref C) s.heap) (hq : Q () s) : wpAny (model P w) A (checkBuiltinCall "BaseException.__getattribute__" ⟨[.ref e, nameV], []⟩) Q E s := by
  cases s with
  | mk hp gs dr tk os' =>
  have Y0 := exc_ty (M := model P w) p
  have Y1 := looks_mroIn (M := model P w) KX T.mb
  have e1 : builtinKind "BaseException.__getattribute__" = some .slot := by decide +kernel
  have e2 : splitId "BaseException.__getattribute__" = some ("BaseException", "__getattribute__") := by decide +kernel
  have e3 := F.args_bexc_ga (.ref e) nameV
  simp only [checkBuiltinCall, e1, e2]
  unfold isInstance
  repeat (first | exact hq | assumption | lk | wp_step)
theorem exc_class {Q : Option Value → Shared → Prop} (T : ExCls K C) (KX : K.In s.heap) (p : ExcAt e (.ref C) s.heap) (hq : Q (some (.ref C)) { s with toks := s.toks + 1 }) : wpAny (model P w) A (getAttr? (.ref e) "__class__") Q E s := by
  cases s with
  | mk hp gs dr tk os' =>
  have Y0 := exc_ty (M := model P w) p
  have Y1 := looks_findIn (M := model P w) KX T.ga
  have Y3 := looks_findIn (M := model P w) KX T.gt
  have b1 := PySem.F.attr_ValueError.ga.bind (.ref e)
  unfold getAttr? getAttrBy? getAttrBy
  refine wpAny_bind (wpAny_mkText (wpAny_bind (wpAny_attempt (wpAny_holding (wpAny_bind (Y0.at (wpAny_bind (Y1.at ?_))))))))
  show wpAny _ _ (getAttrByItsOwn (.ref e) _ (.ref C) (.builtin "BaseException.__getattribute__") false false) _ _ _
  unfold getAttrByItsOwn hookBefore
  refine wpAny_bind (Y3.at ?_)
  refine wpAny_bind (wpAny_attempt (wpAny_holding ?_))
  show wpAny _ _ (boundAndCalled (.builtin "BaseException.__getattribute__") (.ref e) _) _ _ _
  unfold boundAndCalled
  rw [b1]
  refine wpAny_bind (wpAny_pure ?_)
  show wpAny _ _ (call (.builtin "BaseException.__getattribute__") [.ref e, .str "__class__" _]) _ _ _
  refine wpAny_call (codeAny_call_builtin PySem.F.attr_ValueError.ga.plain F.entry_bexc_ga (exc_check (s := ⟨hp, gs, dr, tk + 1, os'⟩) T KX p (exc_entry (s := ⟨hp, gs, dr, tk + 1, os'⟩) T KX p ?_)))
  exact wpAny_mono (handed_on (E := fun _ _ => False) rfl (show (fun v s'' => Q (some v) s'') (.ref C) _ from hq)) (fun v s'' hv => wpAny_pure hv) (fun _ _ z => z.elim)
theorem kitx_exc (T : ExCls K C) : KitX K (.ref e) (.ref C) (ExcAt e (.ref C)) where
  ty := fun _ _ _ p => exc_ty p
  it := fun M hp KX _ => by
    have hc := T.cl
    cases hq : clsIn K C with
    | none => rw [hq] at hc; cases hc
    | some cd =>
      unfold clsIn at hq
      split at hq
      · rename_i look0
        intro A' Q' E' s' k0 q0
        unfold isType loadHead
        exact wpAny_bind (wpAny_loadPart (k0 _ _ (KX _ _ look0)) (wpAny_pure q0))
      · cases hq
  ne := fun hp tp dd its n sl KX htp => by
    have hc := T.cl
    cases hq : clsIn K C with
    | none => rw [hq] at hc; cases hc
    | some cd =>
      cases hz : (Value.ref C == Value.ref tp) with
      | false => rfl
      | true =>
        exfalso
        have ez : C = tp := Value.ref.inj (beq_iff_eq.mp hz)
        subst ez
        unfold clsIn at hq
        split at hq
        · rename_i look0
          have := (KX _ _ look0).symm.trans htp
          cases this
        · cases hq
  ca := fun KX p k => exc_class T KX p k
end
/-- isinstance(e, c) of an exception -/
theorem call_isiE {X : Cx} {e C : Addr} (T : ExCls X.K C) : CallR X (.builtin "isinstance") (fun xs H Q => ∃ c cv b, xs = [.ref e, c] ∧ (∀ v, RelV c v → v = cv) ∧ H e = some (.ext (ExcAt e (.ref C))) ∧ PySem.W.kitOne X.K (.ref C) cv = some b ∧ Q (.bl b) H) := by
  intro pins s σ H xs us Q I rs h
  obtain ⟨c, cv, b, rfl, hc, he, hk, q⟩ := h
  obtain ⟨u, w', rfl, rx, rc⟩ := vals2 rs
  have ec := hc _ rc
  subst ec
  cases (show u = Value.ref e from rx)
  have hx : ExcAt e (.ref C) s.heap := (I.hok e _ he).1
  exact PySem.W.kia_one (kitx_exc T) I.kIn hx hk (fun z => nomatch z) fun tk => ⟨.bl b, H, I.tok tk, rfl, q⟩
end L2

namespace L2
open PySem PySem.Spec PySem.W PyProof.Rows
/-! ### an exception is caught -/
theorem ObjOk.there {P : Program} {w : World} {H : Hp} {hp : Heap} {a : Addr} {o : HO} (x : ObjOk P w H hp a o) : ∃ u, hp.get? a = some u := by
  cases o with
  | lst xs => obtain ⟨_, _, _, _, e⟩ := x; exact ⟨_, e⟩
  | tup xs => obtain ⟨_, _, _, ob, e, _⟩ := x; exact ⟨_, e⟩
  | dK kvs => obtain ⟨_, _, _, _, o, _, _, e, _⟩ := x; exact ⟨_, e⟩
  | dT kvs => obtain ⟨_, _, _, _, o, _, _, e, _⟩ := x; exact ⟨_, e⟩
  | set S n => obtain ⟨o, _, _, _, e, _⟩ := x; exact ⟨_, e⟩
  | ins C dx fs => obtain ⟨_, _, _, e, _⟩ := x; exact ⟨_, e⟩
  | own y => exact x
  | xd fs => obtain ⟨_, ⟨_, _, _, e, _⟩, _⟩ := x; exact ⟨_, e⟩
  | rng lo hi => obtain ⟨_, _, _, e⟩ := x; exact ⟨_, e⟩
  | frz ob u => obtain ⟨e, _⟩ := x; exact ⟨_, e⟩
  | tbl ps => exact ⟨_, x⟩
  | met f y => exact ⟨_, x⟩
  | ext φ => exact x.2.1
section
variable {X : Cx} {pins : List (Addr × Obj)} {σ : St} {H H' : Hp} {s s' : Shared} {B hp : Heap} {ea : Addr} {C : Value}
/-- the state behind the catching: as ahead of the call, and the exception -/
theorem inv_caught (I : Inv X pins σ H s) (hos : s'.os = s.os) (hbare : AllBare s'.gens) (hst : B.StaysIn s'.heap) (hea : B.get? ea = none) (hKB : ∀ b o, s.heap.get? b = some o → H b = none → b ∉ frs X.stack → B.get? b = some o)
    (hok : HOk X.prog X.w H' B) (hsame : Same H H') (hfree : ∀ b o, s.heap.get? b = some o → H b = none → H' b = none) (hup : ∀ b o, s.heap.get? b = some o → b ∈ frs X.stack → ∃ sl, s'.heap.get? b = some { o with slots := sl })
    (hx : ExcAt ea C s'.heap) (hnf : ea ∉ frs X.stack) : Inv X pins σ (upd H' ea (.ext (ExcAt ea C))) s' ∧ H' ea = none := by
  have hn : H' ea = none := by
    cases q : H' ea with
    | none => rfl
    | some o =>
      obtain ⟨u, e⟩ := (hok ea o q).there
      rw [hea] at e; cases e
  have ne' : ∀ b o, H' b = some o → b ≠ ea := fun b o q z => by rw [z, hn] at q; cases q
  have hup' : ∀ b o, H' b = some o → upd H' ea (.ext (ExcAt ea C)) b = some o := fun b o q => (upd_ne (ne' b o q)).trans q
  refine ⟨I.call' (ch := []) hos ⟨fun b o q n hb _ => hst b o (hKB b o q n hb), fun b o q n hb _ => hup b o q hb, fun b o q n _ => ?_, fun b o q _ => ?_, fun b xs q => hup' b _ (hsame b _ q), fun b ob u q => hup' b _ (hsame b _ q), fun b ps q => ⟨#[], by rw [hup' b _ (hsame b _ q)]; simp⟩⟩ ?_ hbare (fun b z => nomatch z), hn⟩
  · by_cases hb : b ∈ frs X.stack
    · have hbe : b ≠ ea := fun z => hnf (by rw [← z]; exact hb)
      rw [upd_ne hbe]
      exact hfree b o q n
    · have := hKB b o q n hb
      have hbe : b ≠ ea := fun z => by rw [z, hea] at this; cases this
      rw [upd_ne hbe]
      exact hfree b o q n
  · by_cases hb : b ∈ frs X.stack
    · obtain ⟨sl, e⟩ := hup b o q hb
      exact ⟨_, e⟩
    · cases n : H b with
      | none => exact ⟨o, hst b o (hKB b o q n hb)⟩
      | some u =>
        obtain ⟨v, e⟩ := (hok b u (hsame b u n)).there
        exact ⟨v, hst b v e⟩
  · intro a o q
    by_cases ha : a = ea
    · subst ha
      rw [upd_same] at q
      cases q
      obtain ⟨ob, h1, h2⟩ := hx
      exact ⟨⟨ob, h1, h2⟩, ⟨ob, h1⟩, fun g1 g2 ⟨o1, a1, a2⟩ k => ⟨o1, k o1 a1, a2⟩⟩
    · rw [upd_ne ha] at q
      exact (hok a o q).stay (fun b u _ e => hst b u e) (fun b e => hup' b _ e) fun b xs e => hup' b _ e
/-- the handler's name goes -/
theorem unbind_ok {M : Model} {A : Around} {E : Value → Shared → Prop} {i : Nat} {n : Str} {pos : Pos} {Q : Unit → Shared → Prop} (I : Inv X pins σ H s) (hN : X.N.Nodup) (hi : X.N[i]? = some n) (hk : X.env.scope.names.lookup n = some .local)
    (hq : ∀ s', Inv X pins (σ.set i none) H s' → Q () s') : wpAny M A (do bindName X.env n .none; unbindBehindTheSuite X.env n pos) Q E s := by
  obtain ⟨m, hn, hl⟩ := id I.loc
  have hcls : (X.env.scope.kind == .class || (X.env.scope.kind == .module && X.env.locals != X.env.globals)) = false := by rw [I.ok.kind]; rfl
  have cne := I.cne
  refine wpAny_nameGoes_keeps hk hn hcls fun h1 v hn1 hs => ?_
  obtain ⟨oL, _, _, hoL, _⟩ := id hn
  have low : ∀ {b : Addr} {o : Obj}, X.s₀.heap.get? b = some o → b ≠ X.env.locals := fun {b o} e => Nat.ne_of_lt (Nat.lt_of_lt_of_le (Heap.lt_size e) I.ok.above)
  refine hq _ ⟨I.ok, I.os, I.bare, ⟨fun b o e n' hb hx => (hs.2 b (low e)).trans (I.base.keep b o e n' hb hx), fun b o e n' hb hx => ?_, I.base.free, fun b o e hx => ?_, I.base.tups, I.base.frzs, I.base.tbls⟩, ⟨_, hn1, fun j y v' e1 e2 e3 => ?_⟩, fun y c e => ?_, I.free, I.freeC, fun p hp => ?_, fun b ob e => ?_, by simpa using I.len⟩
  · obtain ⟨sl, e1⟩ := I.base.slot b o e n' hb hx
    exact ⟨sl, (hs.2 b (low e)).trans e1⟩
  · obtain ⟨o', e1⟩ := I.base.there b o e hx
    exact ⟨o', (hs.2 b (low e)).trans e1⟩
  · by_cases hj : j = i
    · subst hj
      have : j < σ.length := by rw [I.len]; exact (List.getElem?_eq_some_iff.mp hi).1
      rw [List.getElem?_set_self this] at e2
      cases e2
    · rw [List.getElem?_set_ne (Ne.symm hj)] at e2
      obtain ⟨u', r', q⟩ := hl j y v' e1 e2 e3
      refine ⟨u', r', ?_⟩
      rcases q with ⟨k1, e⟩ | ⟨k1, c, e, z⟩
      · refine .inl ⟨k1, ?_⟩
        have hyn : y ≠ n := fun e => hj (nodup_ix hN e1 (e ▸ hi))
        show (if y = n then v else m y) = some u'
        rw [if_neg hyn]; exact e
      · exact .inr ⟨k1, c, e, z.sameBut hs (cne y c e)⟩
  · obtain ⟨w', z⟩ := I.cell y c e
    exact ⟨w', z.sameBut hs (cne y c e)⟩
  · obtain ⟨e, n', ne, nf, d⟩ := I.pin p hp
    exact ⟨(hs.2 p.1 ne).trans e, n', ne, nf, d⟩
  · refine (I.hok b ob e).stay (fun c w' hc q => (hs.2 c ?_).trans q) (fun _ q => q) fun _ _ q => q
    intro z
    have fr := I.free
    rcases hc with hc | hc
    · rw [← z, hc, e] at fr; cases fr
    · rw [← z, hc] at fr; cases fr
end
/-- within the except suite -/
abbrev Cx.suite (X : Cx) (ea : Addr) : Cx := { X with A := X.A.mark (some (.ref ea)), calm := false, xe := fun _ _ => False }
theorem Inv.suite {X : Cx} {pins : List (Addr × Obj)} {σ : St} {H : Hp} {s : Shared} (I : Inv X pins σ H s) (ea : Addr) : Inv (X.suite ea) pins σ H s :=
  ⟨⟨I.ok.mod, I.ok.kind, I.ok.glob, I.ok.blt, I.ok.above, I.ok.inj, I.ok.has, I.ok.cab, (fun z => nomatch z), I.ok.frames, I.ok.stk, I.ok.exf, I.ok.bs, I.ok.bsz, I.ok.noex, I.ok.exfs, I.ok.funs, I.ok.frf⟩, I.os, I.bare, I.base, I.loc, I.cell, I.free, I.freeC, I.pin, I.hok, I.len⟩
theorem Inv.unsuite {X : Cx} {pins : List (Addr × Obj)} {σ : St} {H : Hp} {s : Shared} {ea : Addr} (ok : X.Ok) (I : Inv (X.suite ea) pins σ H s) : Inv X pins σ H s :=
  ⟨ok, I.os, I.bare, I.base, I.loc, I.cell, I.free, I.freeC, I.pin, I.hok, I.len⟩
/-- what a call that may raise does: the names are as they were -/
def PEx (X : Cx) (E : XK) (e : Expr) (t : TE) : Prop := ∀ (pins : List (Addr × Obj)) (s : Shared) (σ : St) (H : Hp) (Q : VK) (xe : Value → Shared → Prop), Inv X pins σ H s → t σ H Q →
  (∀ H2 s2 ev s', Inv X pins σ H2 s2 → CX1 X.prog X.w X.stack H2 s2 E ev s' → xe ev s') → wpAny (model X.prog X.w) X.A (eval e X.env) (EP X pins σ Q) xe s
def PSx (X : Cx) (E : XK) (st : List Stmt) (t : TS) : Prop := ∀ (pins : List (Addr × Obj)) (s : Shared) (σ : St) (H : Hp) (D : Ends) (xe : Value → Shared → Prop), Inv X pins σ H s → t D σ H →
  (∀ H2 s2 ev s', Inv X pins σ H2 s2 → CX1 X.prog X.w X.stack H2 s2 E ev s' → xe ev s') → wpAny (model X.prog X.w) X.A (execs st X.env) (SP X pins D) xe s
section
variable {X : Cx} {E : XK}
theorem pex_call {k : Nat} {f : Addr} {fd : FuncData} {ps : List Str} {sp : Sp} {dvs : List V} {ds : List Value} {x : Str} {p pos : Pos} {e : Expr} {es : List Expr} {t : TA}
    (F : FnOk X.prog X.w X.K X.mg X.base (CX1 X.prog X.w) k f fd ps sp) (hr : Room k X.A) (hg : Gl X x) (hm : X.mg x = some (.ref f)) (hk : PySem.W.keepIn X.K (.ref f) = true) (hb : Binds X.K fd ps ds) (hd : Vals dvs ds) (h0 : ∀ e s, ¬ X.xe e s) (ha : PA X (e :: es) t)
    (hdb : (x == ("__debug__" : Str)) = false := by decide) (he : starEach (e :: es) X.env = (false, eval e X.env) :: starEach es X.env := by rfl) (hpl : (backTo pos (starEach es X.env)).any (·.1) = false := by rfl) :
    PEx X E (.Call (.Name x p) (e :: es) [] pos) (tCall sp dvs E t) := by
  intro pins s σ H Q xe I h hx
  refine wpAny_Call_Name_kw (ld_glob I hg hm ?_ hdb)
  refine PySem.W.callWith_K (h₀ := X.base) I.ok.mod.kin hk (wpAny_mono (ha pos pins s σ H _ I h) (fun us s1 ⟨vs, H1, I1, r, q⟩ => ⟨I1.kIn, ?_⟩) fun e s z => (h0 e s z).elim) he hpl
  have r2 : Vals (vs ++ dvs) (us ++ ds) := r.append hd
  have hl : (us ++ ds).length = ps.length := by rw [← r2.length]; exact F.len _ _ _ _ q
  refine wpAny_call (codeAny_mono (F.run X.A X.stack s1 H1 ⟨us, []⟩ (us ++ ds) (vs ++ dvs) Q E hr I1.env0 (hb s1 us I1.kIn hl) r2 q) fun r' s' hq => ?_)
  cases r' with
  | error ev => exact hx H1 s1 ev s' I1 hq
  | ok fl =>
    cases fl with
    | ret u => exact I1.after hq
    | next => exact False.elim hq
    | brk => exact False.elim hq
    | cont => exact False.elim hq
theorem psx_expr {e : Expr} {te : TE} {pos : Pos} (he : PEx X E e te) (hs : swapsWith e none pos.line X.env = pure false := by rfl) : PSx X E [.Expr e pos] (tDrop te) := by
  intro pins s σ H D xe I h hx
  refine wpAny_execs_cons (thn (Q := SP X pins D) (wpAny_Expr_any (thn (he pins s σ H _ xe I h hx) fun v s1 ⟨x, H1, I1, r1, q1⟩ => ⟨σ, H1, I1, q1⟩) I.quiet hs) fun f s1 q => ?_)
  cases f with
  | next => exact wpAny_execs_nil q
  | ret v => exact q
  | brk => exact q
  | cont => exact q
end
end L2

namespace L2
open PySem PySem.Spec PySem.W PyProof.Rows
def endsOff (i : Nat) (D : Ends) : Ends := { nx := fun σ H => D.nx (σ.set i none) H, rt := D.rt, bk := fun σ H => D.bk (σ.set i none) H, ct := fun σ H => D.ct (σ.set i none) H }
/-- try: .. except G as n: .. -/
def tTry (K : PySem.W.Frag) (G : Addr) (i : Nat) (tb : XK → TS) (ts : Addr → Addr → TS) : TS := fun D σ H => ∃ E : XK, tb E D σ H ∧ ∀ cls H', E cls none H' → ∃ C, cls = .ref C ∧ ExCls K C ∧ exmOne K (.ref C) (.ref G) = some true ∧
  ∀ ea, H' ea = none → ts C ea (endsOff i D) (σ.set i (some (.ref ea))) (upd H' ea (.ext (ExcAt ea (.ref C))))
section
variable {X : Cx} {G : Addr} {g n : Str} {i : Nat} {body suite : List Stmt} {b₀ : Stmt} {gp hpos pos : Pos} {tb : XK → TS} {ts : Addr → Addr → TS}
theorem ps_try (hN : X.N.Nodup) (hi : X.N[i]? = some n) (hk : X.env.scope.names.lookup n = some .local) (hstk : X.stack = X.env :: X.outer ∧ X.env.frame = some X.env.locals) (hg : Gl X g) (hm : X.mg g = some (.ref G))
    (hb : ∀ E, PSx X E body (tb E)) (hs : ∀ C ea, ExCls X.K C → PSs (X.suite ea) (b₀ :: suite) (ts C ea)) (hdb : (g == ("__debug__" : Str)) = false := by decide) :
    PS X (.Try body [.ExceptHandler (some (.Name g gp)) (some n) (b₀ :: suite) hpos] [] [] pos) (tTry X.K G i tb ts) := by
  intro pins s σ H D I ⟨E, h⟩
  refine wpAny_Try_except ?_
  refine thn (hb E pins s σ H D _ I h.1 ?_) fun fl s1 q => ?_
  · intro H2 s2 ev s' I2 ⟨ea, cls, a0, B, H', e, hos, hbare, hfl, hKB, hok, hsame, hfree, hup, hE⟩
    subst e
    obtain ⟨C, rfl, T, hx, hts⟩ := h.2 cls H' hE
    have hfr : X.A.frames = some (X.env :: X.outer) := by rw [← hstk.1]; exact I.ok.frames
    have hfl' : Heap.FlyingW B (X.env :: X.outer) ea (.ref C) a0 s'.heap := hstk.1 ▸ hfl
    have hea : B.get? ea = none := hfl.2.1
    -- the exception is no frame
    have hnf : ea ∉ frs X.stack := fun z => by
      obtain ⟨_, o, h1, h2⟩ := hfl.2.2.1.mem z
      obtain ⟨oe, vs, h3, _, h4, _⟩ := hfl.first
      rw [h1] at h3
      cases h3
      exact h2 vs h4
    have frnf : ∀ b o, s2.heap.get? b = some o → b ∈ frs X.stack → ∀ vs, o.data ≠ .fields vs := fun b o q z => by
      obtain ⟨_, o', h1, h2⟩ := I2.stack.mem z
      have : o' = o := Option.some.inj (h1.symm.trans q)
      exact this ▸ h2
    -- the state at a heap behind
    have at_ : ∀ {hp : Heap} {g' : Array GenState} {d' : Drawn} {t' : Nat}, Heap.FlyingW B (X.env :: X.outer) ea (.ref C) a0 hp → s'.heap.UpToSlots hp → AllBare g' → Inv X pins σ (upd H' ea (.ext (ExcAt ea (.ref C)))) ⟨hp, g', d', t', s'.os⟩ ∧ H' ea = none := fun {hp g' d' t'} f u hg' => by
      refine inv_caught (s' := ⟨hp, g', d', t', s'.os⟩) I2 hos hg' f.1 hea hKB hok hsame hfree (fun b o q z => ?_) f.there hnf
      obtain ⟨sl, q1⟩ := hup b o q z
      obtain ⟨sl2, q2⟩ := u b _ q1 (show ∀ vs, ({ o with slots := sl } : Obj).data ≠ .fields vs from frnf b o q z)
      exact ⟨sl2, q2⟩
    refine wpAny_looks_onW hfr hstk.2 hfl' fun h4 hh4 u4 => ?_
    refine wpAny_landsW hh4 fun h5 hf5 u5 => ?_
    obtain ⟨I5, hn⟩ := at_ (hp := h5) (g' := s'.gens) (d' := s'.drawn) (t' := s'.toks) hf5 (u4.trans u5) hbare
    refine wpAny_handleBy_cons (codeAny_handlers_test (ld_glob (I5.suite ea) hg hm ?_ hdb)) (by intro q; cases q)
    refine (exm_one (M := model X.prog X.w) (K := X.K) I5.kIn (exc_ty (hf5.there)) hx).here ?_
    show codeAny (model X.prog X.w) (X.A.mark (some (.ref ea))) _ _ _
    refine codeAny_handlers_suite_as (lands_againW hf5 fun h6 hf6 u6 => ?_)
    obtain ⟨I6, _⟩ := at_ (hp := h6) (g' := s'.gens) (d' := s'.drawn) (t' := s'.toks) hf6 ((u4.trans u5).trans u6) hbare
    refine store_ok I6 hN hi (.inl hk) (v := .ref ea) (show RelV (.ref ea) (.ref ea) from rfl) (fun s7 I7 => ?_) (.inr hk)
    refine wpAny_mono (hs C ea T pins s7 _ _ (endsOff i D) (I7.suite ea) (hts ea hn)) (fun fl s8 q8 => ?_) fun _ _ z => z.elim
    cases fl with
    | next =>
      obtain ⟨σ', H8, I8, q⟩ := q8
      exact unbind_ok (I8.unsuite I.ok) hN hi hk fun s9 I9 => ⟨_, H8, I9, q⟩
    | brk =>
      obtain ⟨σ', H8, I8, q⟩ := q8
      exact unbind_ok (I8.unsuite I.ok) hN hi hk fun s9 I9 => ⟨_, H8, I9, q⟩
    | cont =>
      obtain ⟨σ', H8, I8, q⟩ := q8
      exact unbind_ok (I8.unsuite I.ok) hN hi hk fun s9 I9 => ⟨_, H8, I9, q⟩
    | ret u =>
      obtain ⟨v, σ', H8, I8, r, q⟩ := q8
      exact unbind_ok (I8.unsuite I.ok) hN hi hk fun s9 I9 => ⟨v, _, H8, I9, r, q⟩
  · cases fl with
    | next => exact wpAny_execs_nil q
    | ret v => exact q
    | brk => exact q
    | cont => exact q
end
end L2

namespace DL
open PySem PySem.Spec L2
/-! ### defs that may raise, as data -/
/-- m: what is told; x: the class that is raised -/
def spX (cA : Kn) (n : Nat) (m : List D → Option D) (x : List D → Option String) : Sp := fun vs H Q E => spD cA n m vs H Q E ∨
  ∃ (av : Addr → Prop) (ds : List D) (c : String), (∀ a, av a → H a ≠ none) ∧ RepL cA av H ds vs ∧ ds.length = n ∧ x ds = some c ∧ ∀ H', Same H H' → E (.ref (cA.c c)) none H'
def runX (N : Nat) (χ : Env → Option String) (ds : List D) : Option String := χ (ds.map some ++ List.replicate (N - ds.length) none)
/-- a statement that raises -/
def VX (G : Cn) (ow : List Nat) (E : XK) (ts : TS) (χ : Env → Option String) : Prop :=
  ∀ H0 av A σ H δ, ER G ow H0 av A σ H δ → ∀ c, χ δ = some c → (∀ H', Same H0 H' → E (.ref (G.1.c c)) none H') → ∀ De : Ends, ts De σ H
/-- an expression that raises; a statement that raises and has changed nothing ahead of it -/
def VXe (G : Cn) (ow : List Nat) (E : XK) (te : TE) (χ : Env → Option String) : Prop :=
  ∀ H0 av A σ H δ, ER G ow H0 av A σ H δ → ∀ c, χ δ = some c → (∀ H', Same H H' → E (.ref (G.1.c c)) none H') → ∀ Q : VK, te σ H Q
def VXs (G : Cn) (ow : List Nat) (E : XK) (ts : TS) (χ : Env → Option String) : Prop :=
  ∀ H0 av A σ H δ, ER G ow H0 av A σ H δ → ∀ c, χ δ = some c → (∀ H', Same H H' → E (.ref (G.1.c c)) none H') → ∀ De : Ends, ts De σ H
section
variable {cA : Kn} {G : Cn} {ow ow1 owB owC owN : List Nat} {E : XK}
def xNever (_ : Env) : Option String := none
theorem vx_none {ts : TS} : VX G ow E ts xNever := fun H0 av A σ H δ R c e => nomatch e
def xRaise (c : String) (α : Env → Option (List D)) (δ : Env) : Option String := match α δ with
  | some ds => if ds.length ≤ 8 then some c else none
  | none => none
theorem vx_raise {C : Addr} {t : TA} {q : Ql} {α : Env → Option (List D)} (c : String) (hC : C = G.1.c c) (h : VA G ow t q α) : VX G ow E (tRaise E C t) (xRaise c α) := fun H0 av A σ H δ R c' e k De => by
  unfold xRaise at e
  cases he : α δ with
  | none => rw [he] at e; cases e
  | some ds =>
    rw [he] at e
    dsimp only at e
    by_cases hz : ds.length ≤ 8
    · rw [if_pos hz] at e
      cases e
      subst hC
      exact h H0 av A σ H δ R ds he _ fun vs H1 s1 r1 => ⟨by rw [← r1.any.length]; exact hz, k H1 (R.same.trans s1)⟩
    · rw [if_neg hz] at e; cases e
def xIf (τ : Env → Option Bool) (χ ψ : Env → Option String) (δ : Env) : Option String := match τ δ with
  | some true => χ δ
  | some false => ψ δ
  | none => none
theorem vx_if {c : TT} {t u : TS} {τ : Env → Option Bool} {χ ψ : Env → Option String} (hc : VT G ow c τ) (h1 : VX G ow E t χ) (h2 : VX G ow E u ψ) : VX G ow E (tIfS c t u) (xIf τ χ ψ) := fun H0 av A σ H δ R c' e k De => by
  unfold xIf at e
  cases he : τ δ with
  | none => rw [he] at e; cases e
  | some b =>
    rw [he] at e
    refine hc H0 av A σ H δ R b he _ fun H' s => ?_
    cases b with
    | true => exact iteT (h1 H0 av A σ H' δ (R.mono s) c' e k De)
    | false => exact iteF (h2 H0 av A σ H' δ (R.mono s) c' e k De)
/-- a row of statements: the first raises, or the others do behind it -/
def xSeq (χ : Env → Option String) (φ : Env → Option Out) (ψ : Env → Option String) (δ : Env) : Option String := match χ δ with
  | some c => some c
  | none => match φ δ with
    | some (.nx δ1) => ψ δ1
    | _ => none
theorem vx_seq {t u : TS} {χ ψ : Env → Option String} {φ : Env → Option Out} (h1 : VX G ow E t χ) (hv : VS G ow ow1 owB owC t φ) (h2 : VX G ow1 E u ψ) : VX G ow E (tSeq t u) (xSeq χ φ ψ) := fun H0 av A σ H δ R c e k De => by
  unfold xSeq at e
  cases hx : χ δ with
  | some c' =>
    rw [hx] at e
    cases e
    exact h1 H0 av A σ H δ R c hx k _
  | none =>
    rw [hx] at e
    dsimp only at e
    cases hp : φ δ with
    | none => rw [hp] at e; cases e
    | some o =>
      rw [hp] at e
      cases o with
      | nx δ1 => exact hv H0 av A σ H δ R _ hp _ fun A' σ' H' R' => h2 H0 av A' σ' H' δ1 R' c e k De
      | rt d => cases e
      | bk δ1 => cases e
      | ct δ1 => cases e
theorem VXs.vx {ts : TS} {χ : Env → Option String} (h : VXs G ow E ts χ) : VX G ow E ts χ := fun H0 av A σ H δ R c e k De => h H0 av A σ H δ R c e (fun H' s => k H' (R.same.trans s)) De
theorem vxs_expr {te : TE} {χ : Env → Option String} (h : VXe G ow E te χ) : VXs G ow E (tDrop te) χ := fun H0 av A σ H δ R c e k De => h H0 av A σ H δ R c e k _
theorem vxs_asg {te : TE} {χ : Env → Option String} {g : TG} (h : VXe G ow E te χ) : VXs G ow E (tAsg te g) χ := fun H0 av A σ H δ R c e k De => h H0 av A σ H δ R c e k _
theorem vxs_ret {te : TE} {χ : Env → Option String} (h : VXe G ow E te χ) : VXs G ow E (tRet te) χ := fun H0 av A σ H δ R c e k De => h H0 av A σ H δ R c e k _
theorem vxs_if {c : TT} {t u : TS} {τ : Env → Option Bool} {χ ψ : Env → Option String} (hc : VT G ow c τ) (h1 : VXs G ow E t χ) (h2 : VXs G ow E u ψ) : VXs G ow E (tIfS c t u) (xIf τ χ ψ) := fun H0 av A σ H δ R c' e k De => by
  unfold xIf at e
  cases he : τ δ with
  | none => rw [he] at e; cases e
  | some b =>
    rw [he] at e
    refine hc H0 av A σ H δ R b he _ fun H' s => ?_
    cases b with
    | true => exact iteT (h1 H0 av A σ H' δ (R.mono s) c' e (fun H2 s2 => k H2 (s.trans s2)) De)
    | false => exact iteF (h2 H0 av A σ H' δ (R.mono s) c' e (fun H2 s2 => k H2 (s.trans s2)) De)
/-- f(..) of a def that may raise -/
theorem ve_callX {n : Nat} {m : List D → Option D} {x : List D → Option String} {t : TA} {q : Ql} {α : Env → Option (List D)} {E0 : XK} (dds : List D) (hd : dds.all scalar = true) (h : VA G ow t q α) : VE G ow (tCall (spX G.1 n m x) (dds.map val) E0 t) q.cq (eCall n m dds α) := fun H0 av A σ H δ R d e Q k => by
  unfold eCall at e
  cases he : α δ with
  | none => rw [he] at e; cases e
  | some ds =>
    rw [he] at e
    dsimp only at e
    by_cases hz : (ds ++ dds).length = n
    · rw [if_pos hz] at e
      refine h H0 av A σ H δ R ds he _ fun vs H1 s1 r1 => .inl ?_
      have E1 := R.mono s1
      cases q with
      | cl => exact ⟨AV av A, ds ++ dds, d, E1.avl, r1.cl.append (.of_vals hd), hz, e, fun v H' s r => k v H' (s1.trans s) r.t⟩
      | tp => exact ⟨av, ds ++ dds, d, E1.avH, r1.any.append (.of_vals hd), hz, e, fun v H' s r => k v H' (s1.trans s) r.t⟩
      | dt => exact ⟨av, ds ++ dds, d, E1.avH, r1.any.append (.of_vals hd), hz, e, fun v H' s r => k v H' (s1.trans s) r.t⟩
    · rw [if_neg hz] at e; cases e
def xCall (n : Nat) (x : List D → Option String) (dds : List D) (α : Env → Option (List D)) (δ : Env) : Option String := match α δ with
  | some ds => if (ds ++ dds).length = n then x (ds ++ dds) else none
  | none => none
theorem vxe_call {n : Nat} {m : List D → Option D} {x : List D → Option String} {t : TA} {q : Ql} {α : Env → Option (List D)} (dds : List D) (hd : dds.all scalar = true) (h : VA G ow t q α) : VXe G ow E (tCall (spX G.1 n m x) (dds.map val) E t) (xCall n x dds α) := fun H0 av A σ H δ R c e k Q => by
  unfold xCall at e
  cases he : α δ with
  | none => rw [he] at e; cases e
  | some ds =>
    rw [he] at e
    dsimp only at e
    by_cases hz : (ds ++ dds).length = n
    · rw [if_pos hz] at e
      refine h H0 av A σ H δ R ds he _ fun vs H1 s1 r1 => .inr ⟨av, ds ++ dds, c, (R.mono s1).avH, r1.any.append (.of_vals hd), hz, e, fun H' s => k H' (s1.trans s)⟩
    · rw [if_neg hz] at e; cases e
end
section
variable {P : Program} {w : World} {K : PySem.W.Frag} {mg : Str → Option Value} {base : Heap} {cA : Kn}
/-- THE RULE for a def that may raise -/
theorem fn_XB {x qual : Str} {st : Stmt} {f : Addr} {fd : FuncData} {N ps : List Str} {k : Nat} {φ : Env → Option Out} {χ : Env → Option String} {body : List Stmt} {scope : Scope} {n : Nat} {m : List D → Option D} {xm : List D → Option String} (F : FunX K x qual st f fd) (S : FnScope N ps (defScope st)) (hS : defScope st = scope) (hB : defBody st = body)
    (hbody : ∀ (cdv : Value) (A : Around) (outer : List PySem.Env) (s : Shared) (H : Hp) (E : XK), Room k (A.deeper (PyProof.Rows.envOfC qual scope s.heap.objs.size f cdv)) →
      ∃ t, PSs (cxOf (CX1 P w) P w K mg base N qual scope f cdv A outer s H E) body t ∧ ∃ owN, VS ⟨cA, fun _ => none⟩ [] owN [] [] t φ ∧ VX ⟨cA, fun _ => none⟩ [] (fun c d H' => Same H H' ∧ E c d H') t χ) (hm : m = run N.length φ) (hx : xm = runX N.length χ) (hn : ps.length = n) :
    FnOk P w K mg base (CX1 P w) (k + 1) f fd ps (spX cA n m xm) := by
  subst hS hB hm hx hn
  obtain ⟨oc, od, dV, kV, doc, pm, an, cdv, ct, osl, rfl, lk, hcd⟩ := F.ex
  refine fn_of lk hcd S (fun vs H Q E h => ?_) fun A outer s H vs Q E hr h => ?_
  · rcases h with ⟨av, ds, d, _, r, hl, _⟩ | ⟨av, ds, c, _, r, hl, _⟩
    · rw [← r.length, hl]
    · rw [← r.length, hl]
  · obtain ⟨t, ht, owN, hv, hX⟩ := hbody cdv A outer s H E hr
    refine ⟨t, ht, ?_⟩
    rcases h with ⟨av, ds, d, ha, r, hl, hm, q⟩ | ⟨av, ds, c, ha, r, hl, hm, q⟩
    · unfold run at hm
      cases hφ : φ (ds.map some ++ List.replicate (N.length - ds.length) none) with
      | none => rw [hφ] at hm; cases hm
      | some o =>
        rw [hφ] at hm
        refine hv H av _ _ H _ (er_start ha r) o hφ _ ?_
        cases o with
        | nx δ' => cases hm; exact fun A' σ' H' E' => q .non H' E'.same rfl
        | rt d' => cases hm; exact fun v H' s' r' => q v H' s' r'
        | bk δ' => cases hm
        | ct δ' => cases hm
    · exact hX H av _ _ H _ (er_start ha r) c hm (fun H' s' => ⟨s', q H' s'⟩) _
end
end DL

namespace DL
open PySem PySem.Spec L2
/-! ### try, and in the suite r = [isinstance(e, ..), ..] -/
def rIsiE (K : PySem.W.Frag) (e C : Addr) : List V → Hp → VK → Prop := fun xs H Q => ∃ c cv b, xs = [.ref e, c] ∧ (∀ v, RelV c v → v = cv) ∧ H e = some (.ext (ExcAt e (.ref C))) ∧ PySem.W.kitOne K (.ref C) cv = some b ∧ Q (.bl b) H
theorem k_isiE {X : Cx} {K : PySem.W.Frag} {e C : Addr} (T : ExCls K C) (hK : X.K = K := by rfl) : CallR X (.builtin "isinstance") (rIsiE K e C) := by
  subst hK
  exact call_isiE T
def tIsis (K : PySem.W.Frag) (i : Nat) (C ea : Addr) : List V → TA
  | [] => tNil
  | v :: vs => tCons (tCB (rIsiE K ea C) (tCons (tVar i) (tCons (tC v) tNil))) (tIsis K i C ea vs)
def isis (c : String) : List (List (String × Bool)) → Option (List Bool)
  | [] => some []
  | t :: r => match t.lookup c, isis c r with
    | some b, some bs => some (b :: bs)
    | _, _ => none
/-- what isinstance tells of the exceptions' classes -/
def IsiE (K : PySem.W.Frag) (cA : Kn) (v : V) (tab : List (String × Bool)) : Prop := ∀ c b, tab.lookup c = some b → ∃ cv, (∀ u, RelV v u → u = cv) ∧ PySem.W.kitOne K (.ref (cA.c c)) cv = some b
inductive IsiEs (K : PySem.W.Frag) (cA : Kn) : List V → List (List (String × Bool)) → Prop where
  | nil : IsiEs K cA [] []
  | cons {v : V} {t : List (String × Bool)} {vs : List V} {ts : List (List (String × Bool))} : IsiE K cA v t → IsiEs K cA vs ts → IsiEs K cA (v :: vs) (t :: ts)
theorem isis_ok {K : PySem.W.Frag} {cA : Kn} {i : Nat} {ea : Addr} {c : String} {σ : L2.St} {H : Hp} (hi : σ[i]? = some (some (.ref ea))) (he : H ea = some (.ext (ExcAt ea (.ref (cA.c c))))) : ∀ {vs : List V} {tabs : List (List (String × Bool))} {bs : List Bool}, IsiEs K cA vs tabs → isis c tabs = some bs → ∀ Q : List V → Hp → Prop, Q (bs.map V.bl) H → tIsis K i (cA.c c) ea vs σ H Q
  | _, _, bs, .nil, e, Q, q => by cases e; exact q
  | _, _, bs, .cons h1 h2, e, Q, q => by
    unfold isis at e
    split at e
    · rename_i b bs' e1 e2
      cases e
      obtain ⟨cv, hc, hk⟩ := h1 c b e1
      show tVar i σ H _
      exact ⟨.ref ea, hi, ⟨_, cv, b, rfl, hc, he, hk, isis_ok hi he h2 e2 _ q⟩⟩
    · cases e
section
variable {cA : Kn} {G : Cn} {ow owB owC : List Nat}
theorem ER.none {H0 H : Hp} {av : Addr → Prop} {A : Nat → Option Addr} {σ : L2.St} {δ : Env} {i : Nat} {x : Option V} (R : ER G ow H0 av A σ H δ) (hi : ow.contains i = false) (hn : G.2 i = Option.none) : ER G ow H0 av A (σ.set i x) H (δ.set i Option.none) :=
  ⟨R.same, R.avd, R.fr, R.inj, R.live, R.dom, R.dom', by rw [List.length_set, List.length_set]; exact R.len, R.pin, fun j d e => by
    have hj : j ≠ i := by
      intro z
      subst z
      by_cases hl : j < δ.length
      · rw [List.getElem?_set_self hl] at e; cases e
      · rw [List.getElem?_eq_none (by rw [List.length_set]; omega)] at e; cases e
    rw [List.getElem?_set_ne (Ne.symm hj)] at e
    obtain ⟨v, h1, h2⟩ := R.var j d e
    exact ⟨v, by rw [List.getElem?_set_ne (Ne.symm hj)]; exact h1, h2⟩⟩
def sTry (φb : Env → Option Out) (χb : Env → Option String) (cl : List String) (i r : Nat) (tabs : List (List (String × Bool))) (δ : Env) : Option Out := match χb δ with
  | some c => if cl.contains c = true ∧ i < δ.length then (match isis c tabs with
    | some bs => if bs.length ≤ 1000 then some (.nx ((δ.set r (some (.lst (bs.map D.bl)))).set i none)) else none
    | none => none) else none
  | none => φb δ
theorem vs_try {K : PySem.W.Frag} {Gd : Addr} {tb : XK → TS} {φb : Env → Option Out} {χb : Env → Option String} {vs : List V} {tabs : List (List (String × Bool))} (cl : List String) (i r : Nat)
    (hi : ow.contains i = false) (hr : ow.contains r = false) (hni : G.2 i = none) (hnr : G.2 r = none) (hT : ∀ c ∈ cl, ExCls K (G.1.c c) ∧ PySem.W.exmOne K (.ref (G.1.c c)) (.ref Gd) = some true) (hI : IsiEs K G.1 vs tabs)
    (hb : ∀ E, VS G ow ow owB owC (tb E) φb) (hx : ∀ E, VXs G ow E (tb E) χb) : VS G ow ow owB owC (tTry K Gd i tb (fun C ea => tAsg (tLst (tIsis K i C ea vs)) (gName r))) (sTry φb χb cl i r tabs) := fun H0 av A σ H δ R o e De k => by
  unfold sTry at e
  cases hc : χb δ with
  | none =>
    rw [hc] at e
    exact ⟨fun _ _ _ => False, hb _ H0 av A σ H δ R o e De k, fun _ _ z => z.elim⟩
  | some c =>
    rw [hc] at e
    dsimp only at e
    by_cases hz : cl.contains c = true ∧ i < δ.length
    · rw [if_pos hz] at e
      cases hs : isis c tabs with
      | none => rw [hs] at e; cases e
      | some bs =>
        rw [hs] at e
        dsimp only at e
        by_cases hl : bs.length ≤ 1000
        · rw [if_pos hl] at e
          cases e
          obtain ⟨hT1, hT2⟩ := hT c (by simpa using hz.1)
          refine ⟨fun cls d H' => cls = .ref (G.1.c c) ∧ Same H H', hx _ H0 av A σ H δ R c hc (fun H' s => ⟨rfl, s⟩) De, fun cls H' ⟨e1, s1⟩ => ⟨G.1.c c, e1, hT1, hT2, fun ea hea => ?_⟩⟩
          have hlen : i < σ.length := by rw [R.len]; exact hz.2
          have R1 := R.mono s1
          have s2 : Same H' (upd H' ea (.ext (ExcAt ea (.ref (G.1.c c))))) := same_upd hea
          have R2 := R1.mono s2
          refine isis_ok (List.getElem?_set_self hlen) upd_same hI hs _ ⟨by rw [List.length_map]; exact Nat.le_trans hl (by decide), fun p hp => ?_⟩
          have R3 := R2.mono (same_upd (o := .lst (bs.map V.bl)) hp)
          have hAr : ∀ j, A j ≠ none → j ≠ r := fun j hj z => by
            have := R.dom j hj
            rw [z] at this
            simp at hr
            exact hr this
          have rp : Rep G.1 (AV av A) (upd (upd H' ea (.ext (ExcAt ea (.ref (G.1.c c))))) p (.lst (bs.map V.bl))) (.lst (bs.map D.bl)) (.ref p) := by
            unfold Rep
            refine ⟨p, bs.map V.bl, rfl, fun z => ((R2.avl p z) hp).elim, SqL.of upd_same, ?_⟩
            have := RepL.of_vals (cA := G.1) (av := AV av A) (H := upd (upd H' ea (.ext (ExcAt ea (.ref (G.1.c c))))) p (.lst (bs.map V.bl))) (xs := bs.map D.bl) (by rw [List.all_map]; exact List.all_eq_true.mpr fun _ _ => rfl)
            rw [List.map_map] at this
            exact this
          have R4 : ER G ow H0 av A (σ.set r (some (.ref p))) (upd (upd H' ea (.ext (ExcAt ea (.ref (G.1.c c))))) p (.lst (bs.map V.bl))) (δ.set r (some (.lst (bs.map D.bl)))) := by
            refine ⟨R3.same, R3.avd, R3.fr, R3.inj, R3.live, R3.dom, R3.dom', by rw [List.length_set, List.length_set]; exact R3.len, R3.pin, fun j d e => ?_⟩
            by_cases hj : j = r
            · subst hj
              have hjl : j < δ.length := by
                by_cases hl2 : j < δ.length
                · exact hl2
                · rw [List.getElem?_eq_none (by rw [List.length_set]; omega)] at e; cases e
              rw [List.getElem?_set_self hjl] at e
              cases e
              refine ⟨.ref p, List.getElem?_set_self (by rw [R.len]; exact hjl), fun _ => rp, fun a z => ?_⟩
              exact (hAr j (by rw [z]; exact fun y => by cases y) rfl).elim
            · rw [List.getElem?_set_ne (Ne.symm hj)] at e
              obtain ⟨v, h1, h2⟩ := R3.var j d e
              exact ⟨v, by rw [List.getElem?_set_ne (Ne.symm hj)]; exact h1, h2⟩
          have R5 := R4.none (i := i) (x := none) hi hni
          have ez : ((σ.set i (some (.ref ea))).set r (some (.ref p))).set i none = (σ.set r (some (.ref p))).set i none := by
            apply List.ext_getElem?
            intro j
            by_cases hj : j = i
            · subst hj
              rw [List.getElem?_set_self (by rw [List.length_set, List.length_set]; exact hlen), List.getElem?_set_self (by rw [List.length_set]; exact hlen)]
            · rw [List.getElem?_set_ne (Ne.symm hj), List.getElem?_set_ne (Ne.symm hj)]
              by_cases hjr : j = r
              · subst hjr
                by_cases hl3 : j < σ.length
                · rw [List.getElem?_set_self (by rw [List.length_set]; exact hl3), List.getElem?_set_self hl3]
                · rw [List.getElem?_eq_none (by rw [List.length_set, List.length_set]; omega), List.getElem?_eq_none (by rw [List.length_set]; omega)]
              · rw [List.getElem?_set_ne (Ne.symm hjr), List.getElem?_set_ne (Ne.symm hj), List.getElem?_set_ne (Ne.symm hjr)]
          show De.nx (((σ.set i (some (.ref ea))).set r (some (.ref p))).set i none) _
          rw [ez]
          exact k A _ _ R5
        · rw [if_neg hl] at e; cases e
    · rw [if_neg hz] at e; cases e
end
end DL

namespace L2
open PySem PySem.Spec PyProof.Rows
section
variable {X : Cx}
/-! ### lists of any kind, put together and repeated -/
def rCatS (K : PySem.W.Frag) : R2 := fun x y H Q => ∃ l b xs zs, x = .ref l ∧ y = .ref b ∧ SqL K H l xs ∧ SqL K H b zs ∧ xs.length + zs.length ≤ sizeLine ∧ ∀ p, H p = none → Q (.ref p) (upd H p (.lst (xs ++ zs)))
theorem op_catS : OpR X (binaryOp .Add) (rCatS X.K) := by
  intro pins s σ H x y v u Q I rx ry h
  obtain ⟨l, b, xs, zs, rfl, rfl, hH, hB, hz, q⟩ := h
  cases rx
  cases ry
  obtain ⟨its, r, pl, _⟩ := I.list hH
  obtain ⟨its2, r2, pl2, _⟩ := I.list hB
  obtain ⟨⟨c1, d1, da1, sl1⟩, n1, g1, e1, e2, e3⟩ := pl
  obtain ⟨⟨c2, d2, da2, sl2⟩, n2, g2, f1, f2, f3⟩ := pl2
  dsimp only at e1 e2 e3 f1 f2 f3
  subst e1 e2 e3 f1 f2 f3
  have hl := r.length
  have hl2 := r2.length
  refine concat_meets ⟨_, g1, rfl⟩ ⟨_, g2, rfl⟩ noFill_list_add seq_list_add PySem.F.slot_list_add PySem.F.entry_list_add (PySem.F.args_list_add_2 _ _) (list_addW l b its.toArray its2.toArray n1 n2 none none sl1 sl2 (by rw [List.size_toArray, List.size_toArray]; omega)) ⟨g1, g2, ?_⟩
  have ea : its.toArray ++ its2.toArray = (its ++ its2).toArray := by simp
  rw [ea]
  exact ⟨.ref _, _, I.lnew (t' := s.toks) (r.append r2) (by rw [List.length_append]; omega), rfl, q _ I.fresh⟩
def rRepS (K : PySem.W.Frag) : R2 := fun x y H Q => ∃ l k xs, x = .ref l ∧ y = .int k ∧ SqL K H l xs ∧ -(2 ^ 63) ≤ k ∧ k < 2 ^ 63 ∧ xs.length * k.toNat ≤ sizeLine ∧ ∀ p, H p = none → Q (.ref p) (upd H p (.lst (List.replicate k.toNat xs).flatten))
theorem op_repS : OpR X (binaryOp .Mult) (rRepS X.K) := by
  intro pins s σ H x y v u Q I rx ry h
  obtain ⟨l, k, xs, rfl, rfl, hH, h1, h2, hz, q⟩ := h
  cases rx
  obtain ⟨t, rfl⟩ := ry
  obtain ⟨its, r, pl, _⟩ := I.list hH
  obtain ⟨⟨c1, d1, da1, sl1⟩, n1, g1, e1, e2, e3⟩ := pl
  dsimp only at e1 e2 e3
  subst e1 e2 e3
  have hl := r.length
  have hlen : its.toArray.size * k.toNat ≤ sizeLine := by rw [List.size_toArray, ← hl]; exact hz
  have hcap : ¬ its.toArray.size * k.toNat > (2 ^ 63 - 1) / 8 := by
    have : (sizeLine : Nat) ≤ (2 ^ 63 - 1) / 8 := by decide
    omega
  have hfit : ¬ (!Builtin.List.listFitsIndex k) = true := by
    rw [fitsIndex_both h1 h2]
    exact Bool.false_ne_true
  have hlong : ¬ Builtin.List.listTooLong (its.toArray.size * k.toNat) = true := by
    rw [notLongL hlen]
    exact Bool.false_ne_true
  have hnew : List.foldl (fun x1 x2 => x1 ++ x2) #[] (List.replicate (if its.toArray.isEmpty = true then 0 else k.toNat) its.toArray) = (List.replicate k.toNat its).flatten.toArray := by
    have f0 : ∀ m : Nat, List.foldl (fun x1 x2 => x1 ++ x2) #[] (List.replicate m its.toArray) = (List.replicate m its).flatten.toArray := fun m => by
      have := foldl_rep its m []
      rw [List.nil_append] at this
      exact this
    rw [f0]
    cases its with
    | nil => simp
    | cons a r' => rw [if_neg (by simp)]
  refine wpAny_binaryOp_repeat_ref (T := "list") (U := "int") (by decide) ⟨_, g1, rfl⟩ (fun s' => typeIs_int s' k t) noFill_list_mul F.fills_int_mul F.slot_int_rmul repeat_list F.slot_int_index.lookup
    (call_meets F.slot_int_rmul (typeIs_int s k t) F.entry_int_rmul (F.args_int_rmul_2 _ _) (lm_int_rmul_list_any k t l its.toArray n1 none sl1)
      ⟨g1, rfl, ⟨_, g1, rfl⟩, call_meets F.slot_list_mul ⟨_, g1, rfl⟩ F.entry_list_mul (F.args_list_mul_2 _ _) (lm_list_mul_any l its.toArray n1 none sl1 k t hfit hcap hlong) ⟨g1, ?_⟩⟩)
  rw [hnew]
  exact ⟨.ref _, _, I.lnew (t' := s.toks) (r.rep k.toNat) (by rw [len_rep, Nat.mul_comm]; exact hz), rfl, q _ I.fresh⟩
def rAddZ (K : PySem.W.Frag) : R2 := fun x y H Q => rI0 (fun i j => .int (i + j)) x y H Q ∨ rAddS x y H Q ∨ rCatS K x y H Q
theorem op_addZ : OpR X (binaryOp .Add) (rAddZ X.K) := op_add.or (op_addS.or op_catS)
theorem k_addZ {K : PySem.W.Frag} (hK : X.K = K := by rfl) : OpR X (binaryOp .Add) (rAddZ K) := hK ▸ op_addZ
def rMulZ (K : PySem.W.Frag) : R2 := fun x y H Q => rI DL.CMulW (fun i j => .int (i * j)) x y H Q ∨ DL.rMulS x y H Q ∨ rRepS K x y H Q
theorem op_mulZ : OpR X (binaryOp .Mult) (rMulZ X.K) := DL.op_mulW.or (DL.op_mulS.or op_repS)
theorem k_mulZ {K : PySem.W.Frag} (hK : X.K = K := by rfl) : OpR X (binaryOp .Mult) (rMulZ K) := hK ▸ op_mulZ
end
end L2
namespace DL
open PySem PySem.Spec L2
section
variable {cA : Kn} {G : Cn} {ow owB owC : List Nat}
/-- a new list of what is known -/
theorem rep_new {i : Addr → Prop} {H : Hp} {p : Addr} {xs : List D} {vs : List V} (hi : ∀ a, i a → H a ≠ none) (hp : H p = none) (l : RepL cA i H xs vs) : Rep cA i (upd H p (.lst vs)) (.lst xs) (.ref p) := by
  unfold Rep
  exact ⟨p, vs, rfl, fun z => (hi p z hp).elim, SqL.of upd_same, l.same (same_upd hp)⟩
def addX : D → D → Option D
  | .lst a, .lst b => if a.length + b.length ≤ sizeLine then some (.lst (a ++ b)) else none
  | x, y => addD x y
theorem ok_addX : OpOk cA (rAddZ cA.K) addX := fun t t' i H x y vx vy d hi hx hy e Q k => by
  have old : addD x y = some d → rAddZ cA.K vx vy H Q := fun e => by
    rcases (ok_add (cA := cA) t t' i H x y vx vy d hi hx hy e Q k) with h | h | h
    · exact .inl h
    · exact .inr (.inl h)
    · obtain ⟨l, b, xs, zs, e1, e2, h1, h2, h3, h4⟩ := h
      exact .inr (.inr ⟨l, b, xs, zs, e1, e2, SqL.of h1, SqL.of h2, h3, h4⟩)
  cases x with
  | lst a =>
    cases y with
    | lst b =>
      dsimp only [addX] at e
      by_cases hz : a.length + b.length ≤ sizeLine
      · rw [if_pos hz] at e
        cases e
        obtain ⟨a1, vs1, rfl, _, r1, l1⟩ := hx
        obtain ⟨a2, vs2, rfl, _, r2, l2⟩ := hy
        exact .inr (.inr ⟨a1, a2, vs1, vs2, rfl, rfl, r1, r2, by rw [← l1.length, ← l2.length]; exact hz, fun p hp => k _ _ (same_upd hp) (rep_new hi hp (l1.append l2))⟩)
      · rw [if_neg hz] at e; cases e
    | _ => exact old e
  | _ => exact old e
theorem RepL.rep {av : Addr → Prop} {H : Hp} {xs : List D} {vs : List V} (l : RepL cA av H xs vs) : ∀ n : Nat, RepL cA av H (List.replicate n xs).flatten (List.replicate n vs).flatten
  | 0 => .nil
  | n + 1 => by
    rw [List.replicate_succ, List.replicate_succ, List.flatten_cons, List.flatten_cons]
    exact l.append (RepL.rep l n)
def mulX : D → D → Option D
  | .int i, .int j => if CMulW i j then some (.int (i * j)) else none
  | .str a, .int n => if n < 2 ^ 63 ∧ -(2 ^ 63) ≤ n ∧ a.length * n.toNat ≤ sizeLine then some (.str (mulL a n)) else none
  | .lst a, .int n => if n < 2 ^ 63 ∧ -(2 ^ 63) ≤ n ∧ a.length * n.toNat ≤ sizeLine then some (.lst (List.replicate n.toNat a).flatten) else none
  | _, _ => none
theorem ok_mulX : OpOk cA (rMulZ cA.K) mulX := fun t t' i H x y vx vy d hi hx hy e Q k => by
  cases x <;> cases y <;> first | (cases e; done) | skip
  · cases (show vx = _ from hx); cases (show vy = _ from hy)
    rename_i a b
    dsimp only [mulX] at e
    by_cases hz : CMulW a b
    · rw [if_pos hz] at e
      cases e
      exact .inl ⟨_, _, rfl, rfl, hz, k _ H (Same.refl H) rfl⟩
    · rw [if_neg hz] at e; cases e
  · cases (show vx = _ from hx); cases (show vy = _ from hy)
    rename_i a n
    dsimp only [mulX] at e
    by_cases hz : n < 2 ^ 63 ∧ -(2 ^ 63) ≤ n ∧ a.length * n.toNat ≤ sizeLine
    · rw [if_pos hz] at e
      cases e
      exact .inr (.inl ⟨_, _, rfl, rfl, hz, k _ H (Same.refl H) rfl⟩)
    · rw [if_neg hz] at e; cases e
  · rename_i a n
    cases (show vy = _ from hy)
    dsimp only [mulX] at e
    by_cases hz : n < 2 ^ 63 ∧ -(2 ^ 63) ≤ n ∧ a.length * n.toNat ≤ sizeLine
    · rw [if_pos hz] at e
      cases e
      obtain ⟨a1, vs1, rfl, _, r1, l1⟩ := hx
      exact .inr (.inr ⟨a1, n, vs1, rfl, rfl, r1, hz.2.1, hz.1, by rw [← l1.length]; exact hz.2.2, fun p hp => k _ _ (same_upd hp) (rep_new hi hp (l1.rep n.toNat))⟩)
    · rw [if_neg hz] at e; cases e
/-! ### xs[k] = v, xs the name's own -/
def sSetI (i : Nat) (κ ε : Env → Option D) (δ : Env) : Option Out := match ε δ with
  | some d => match eVar i δ with
    | some (.lst xs) => match κ δ with
      | some (.int k) => match ixN xs.length k with
        | some j => some (.nx (δ.set i (some (.lst (xs.set j d)))))
        | none => none
      | _ => none
    | _ => none
  | none => none
theorem vs_setI {te ti : TE} {q : Ql} {ε κ : Env → Option D} (i : Nat) (hi : ow.contains i = true) (h : VE G ow te .cl ε) (hk : VE G ow ti q κ) : VS G ow ow owB owC (tAsg te (gSub (tVar i) ti rSetL)) (sSetI i κ ε) := fun H0 av A σ H δ E o e De k => by
  unfold sSetI at e
  cases he : ε δ with
  | none => rw [he] at e; cases e
  | some d =>
    rw [he] at e
    dsimp only at e
    cases hv : eVar i δ with
    | none => rw [hv] at e; cases e
    | some x =>
      rw [hv] at e
      cases x <;> first | (cases e; done) | skip
      rename_i xs
      dsimp only at e
      cases hq : κ δ with
      | none => rw [hq] at e; cases e
      | some y =>
        rw [hq] at e
        cases y <;> first | (cases e; done) | skip
        rename_i n
        dsimp only at e
        cases hj : ixN xs.length n with
        | none => rw [hj] at e; cases e
        | some j =>
          rw [hj] at e
          cases e
          have hi' : i ∈ ow := by simpa using hi
          cases hA : A i with
          | none => exact absurd hA (E.dom' i hi')
          | some a =>
            refine h H0 av A σ H δ E d he _ fun v H1 s1 r1 => ?_
            have E1 := E.mono s1
            obtain ⟨v0, h1, _, h3⟩ := E1.var i _ (eVar_some hv)
            obtain ⟨rfl, vs, q1, q2⟩ := h3 a hA
            refine ⟨_, h1, hk H0 av A σ H1 δ E1 _ hq _ fun y H2 s2 r2 => ?_⟩
            have ey : y = .int n := r2.any
            subst ey
            have E2 := E1.mono s2
            have q1' := s2 _ _ q1
            refine ⟨a, vs, n, j, rfl, rfl, q1', by rw [← q2.length]; exact hj, k A σ _ (E2.put hA (eVar_some hv) (fun b o hb e => by rw [upd_ne hb]; exact e) (by rw [upd_same]; exact fun z => by cases z) ⟨_, upd_same, ?_⟩)⟩
            have ex : ∀ b o, ¬ AV av A b → H2 b = some o → upd H2 a (.lst (vs.set j v)) b = some o := fun b o nb e => by
              rw [upd_ne fun z => nb (.inr ⟨i, by rw [z]; exact hA⟩)]
              exact e
            exact (((q2.same s2).set ((RepT.r r1).same s2) j)).ext ex
end
end DL
namespace L2
open PySem PySem.W
theorem pass10 {P : Program} {w : World} {X : Cx} : Passes (CX1 P w) X E0 := fun _ _ _ _ _ _ _ ⟨_, _, _, _, _, _, _, _, _, _, _, _, _, _, hE⟩ => hE.elim
theorem cls_of_exc {K : PySem.W.Frag} {C : Addr} {tlB : List Value} {nid : String} (q0 : excIn K C tlB nid = true) : (clsIn K C).isSome = true := by
  unfold excIn at q0
  split at q0
  · rename_i look0
    unfold clsIn
    rw [look0]
    rfl
  · cases q0
theorem ExCls.of {K : PySem.W.Frag} {C : Addr} (ex : excIn K C bmV "ValueError.__new__" = true) (ga : findIn K (.ref C) "__getattribute__" = some (some (.builtin "BaseException.__getattribute__"))) (mb : mroIn K C (.type "BaseException") = some true) (gt : findIn K (.ref C) "__getattr__" = some none) (ca : findIn K (.ref C) "__class__" = some (some (.builtin "object.__class__")))
    (cg : specialIn K (.builtin "object.__class__") "__get__" = some (some (.builtin "getset_descriptor.__get__"))) (ct : takesIn K (.builtin "object.__class__") = some true) (mo : mroIn K C (.type "object") = some true) : ExCls K C := ⟨ex, ga, mb, gt, ca, cg, ct, mo, cls_of_exc ex⟩
end L2
namespace DL
open L2
theorem VX.frz {G : Cn} {ow ow1 : List Nat} {E : XK} {t : TS} {χ : Env → Option String} (i : Nat) (h : VX G ow1 E t χ) (hn : G.2 i = none) (h1 : sub ow1 ow = true) (h2 : ow1.contains i = false) (h3 : sub ow (i :: ow1) = true) : VX G ow E t χ := fun H0 av A σ H δ R c e k De =>
  h H0 av _ σ H δ (R.freeze i (mem_minus h1 h2 h3) hn) c e k De
theorem isiE_tab {K : PySem.W.Frag} {cA : Kn} {v : V} {cv : PySem.Value} {tab : List (String × Bool)} (hv : ∀ u, RelV v u → u = cv) (h : ∀ p ∈ tab, PySem.W.kitOne K (.ref (cA.c p.1)) cv = some p.2) : IsiE K cA v tab := fun c b e => ⟨cv, hv, h (c, b) (look_mem e)⟩
end DL
namespace L2
open PySem
theorem ps_nox {X : Cx} {st : Stmt} {t : TS} (h : PS X.nox st t) : PS X st t := fun pins s σ H D I q =>
  wpAny_mono (h pins s σ H D (I.wish _) q) (fun _ _ z => SP.unwish z) fun _ _ z => z.elim
end L2
namespace L2
open PySem
/-- a block within a block that takes no name from it -/
theorem CompSc.mk3 {X : Cx} {scope : Scope} {tn : List Str} (hk : scope.kind = .function) (h : compScB [] [] scope.names [] [] = true) : CompSc X scope tn [] [] := by
  refine CompSc.mk' (osc := X.env.scope) (oN := X.N) hk rfl rfl ?_
  unfold compScB at h ⊢
  simp only [Bool.and_eq_true, List.all_eq_true] at h ⊢
  obtain ⟨⟨⟨⟨h1, h2⟩, h3⟩, h4⟩, h5⟩ := h
  refine ⟨⟨⟨⟨h1, h2⟩, fun y hy => ?_⟩, fun y hy => ?_⟩, h5⟩
  · have := h3 y hy
    simp only [List.lookup_nil] at this
    cases hb : (y.2 == NameKind.free) with
    | false => rfl
    | true => rw [hb] at this; simp at this
  · cases hy
end L2

namespace L2
open PySem PySem.Spec PySem.W PyProof.Rows
/-! ### f'..' -/
def repL (cs : List Nat) : List Nat := (reprText (tx cs)).cps.toList
theorem repL_len (cs : List Nat) (h : cs.all (fun c => decide (c < 65536)) = true) : (repL cs).length ≤ 10 * cs.length + 2 := by
  have := StrLaws.reprText_len (tx cs) (fun c hc => by
    have h1 := List.all_eq_true.mp h c (by simpa using hc)
    have : c < 65536 := of_decide_eq_true h1
    exact Nat.lt_trans this (by decide))
  simpa [repL, Str.length] using this
section
variable {X : Cx} {e : Expr} {te : TE} {pos : Pos}
def tFmtR (te : TE) : TE := fun σ H Q => te σ H fun v H1 => ∃ cs, v = S cs ∧ (repL cs).length ≤ sizeLine ∧ Q (S (repL cs)) H1
theorem pe_fmtR (he : PE X e te) : PE X (.FormattedValue e 114 none pos) (tFmtR te) := by
  intro pins s σ H Q I h
  refine wpAny_FormattedValue_repr (thn (he pins s σ H _ I h) fun u s1 ⟨v, H1, I1, r, cs, ev, hl, q⟩ => ?_)
  subst ev
  obtain ⟨t, rfl⟩ := r
  have er : tx (repL cs) = reprText (tx cs) := rfl
  have hz : (reprText (tx cs)).length ≤ sizeLine := by simpa [repL, Str.length] using hl
  refine wpAny_pyReprObj_str ?_ hz
  refine wpAny_formatField_str ⟨S (repL cs), H1, I1.tok _, ⟨_, rfl⟩, q⟩ ⟨S (repL cs), H1, (I1.tok _), ⟨_, rfl⟩, q⟩ hz
def tFmtP (te : TE) : TE := fun σ H Q => te σ H fun v H1 => (∃ cs, v = S cs ∧ cs.length ≤ sizeLine ∧ Q (S cs) H1) ∨ ∃ n : Nat, v = .int n ∧ n < 10 ^ 10 ∧ Q (S (figs n)) H1
theorem pe_fmtP (he : PE X e te) : PE X (.FormattedValue e (-1) none pos) (tFmtP te) := by
  intro pins s σ H Q I h
  refine wpAny_FormattedValue_plain (thn (he pins s σ H _ I h) fun u s1 ⟨v, H1, I1, r, q⟩ => ?_)
  rcases q with ⟨cs, ev, hl, q⟩ | ⟨n, ev, hn, q⟩
  · subst ev
    obtain ⟨t, rfl⟩ := r
    have hz : (tx cs).length ≤ sizeLine := by simpa [Str.length] using hl
    exact wpAny_formatField_str ⟨S cs, H1, I1, ⟨_, rfl⟩, q⟩ ⟨S cs, H1, I1.tok _, ⟨_, rfl⟩, q⟩ hz
  · subst ev
    obtain ⟨t, rfl⟩ := r
    refine formatField_int_small ?_ ?_
    · have h1 : n.log2 < 40 := by
        by_cases h0 : n = 0
        · subst h0; decide
        · exact (Nat.log2_lt h0).mpr (Nat.lt_trans hn (by decide))
      show (n : Int).natAbs.log2 < 1920
      rw [Int.natAbs_natCast]
      omega
    · refine ⟨S (figs n), H1, I1.tok _, ⟨s1.toks + 1, ?_⟩, q⟩
      rw [tx_num]
inductive PJ (X : Cx) : List Expr → List TE → Prop where
  | nil : PJ X [] []
  | cons {e : Expr} {es : List Expr} {t : TE} {ts : List TE} : PE X e t → PJ X es ts → PJ X (e :: es) (t :: ts)
def tJs : List TE → List Nat → L2.St → Hp → (List Nat → Hp → Prop) → Prop
  | [], acc, _, H, Q => Q acc H
  | t :: r, acc, σ, H, Q => t σ H fun v H1 => ∃ cs, v = S cs ∧ (acc ++ cs).length ≤ sizeLine ∧ tJs r (acc ++ cs) σ H1 Q
theorem joins_ok {pins : List (Addr × Obj)} {σ : L2.St} {Q : List Nat → Hp → Prop} : ∀ {es : List Expr} {ts : List TE} {acc : List Nat} {H : Hp} {s : Shared}, PJ X es ts → Inv X pins σ H s → acc.length ≤ sizeLine → tJs ts acc σ H Q →
    Joins (model X.prog X.w) X.A X.xe (evalEach es X.env) (tx acc) (fun out s1 => ∃ cs H', out = tx cs ∧ Inv X pins σ H' s1 ∧ cs.length ≤ sizeLine ∧ Q cs H') s
  | _, _, acc, H, s, .nil, I, hl, q => ⟨acc, H, rfl, I, hl, q⟩
  | _, _, acc, H, s, .cons he hr, I, hl, q => by
    show wpAny (model X.prog X.w) X.A _ _ X.xe s
    refine thn (he pins s σ H _ I q) fun u s1 ⟨v, H1, I1, r, cs, ev, hz, q1⟩ => ?_
    subst ev
    obtain ⟨t, rfl⟩ := r
    have ea : tx acc ++ tx cs = tx (acc ++ cs) := by
      show (⟨acc.toArray ++ cs.toArray⟩ : Str) = ⟨(acc ++ cs).toArray⟩
      simp
    refine ⟨_, _, rfl, ?_, ?_⟩
    · rw [ea]; simpa [Str.length] using hz
    · rw [ea]; exact joins_ok hr I1 hz q1
theorem joins_mono {P Q : Str → Shared → Prop} (k : ∀ x s, P x s → Q x s) : ∀ {parts : List (Sem Value)} {acc : Str} {s : Shared}, Joins (model X.prog X.w) X.A X.xe parts acc P s → Joins (model X.prog X.w) X.A X.xe parts acc Q s
  | [], acc, s, h => k _ _ h
  | x :: r, acc, s, h => thn h fun v s1 ⟨y, t, e, hz, q⟩ => ⟨y, t, e, hz, joins_mono k q⟩
def tJoin (ts : List TE) : TE := fun σ H Q => tJs ts [] σ H fun cs H1 => Q (S cs) H1
theorem pe_join {e1 e2 : Expr} {es : List Expr} {ts : List TE} (h : PJ X (e1 :: e2 :: es) ts) : PE X (.JoinedStr (e1 :: e2 :: es) pos) (tJoin ts) := by
  intro pins s σ H Q I q
  refine wpAny_JoinedStr (joins_mono (fun x s1 ⟨cs, H1, ex, I1, hl, q1⟩ => ?_) (joins_ok (acc := []) h I (Nat.zero_le _) q))
  subst ex
  exact ⟨by simpa [Str.length] using hl, S cs, H1, I1.tok _, ⟨_, rfl⟩, q1⟩
end
end L2
namespace DL
open PySem PySem.Spec L2
def fmtR : D → Option D
  | .str cs => if cs.length ≤ 1000 ∧ cs.all (fun c => decide (c < 65536)) = true then some (.str (repL cs)) else none
  | _ => none
def fmtP : D → Option D
  | .str cs => if cs.length ≤ sizeLine then some (.str cs) else none
  | .int n => if 0 ≤ n ∧ n < 10 ^ 10 then some (.str (figs n.toNat)) else none
  | _ => none
def eFmt (f : D → Option D) (a : Env → Option D) (δ : Env) : Option D := match a δ with
  | some d => f d
  | none => none
section
variable {G : Cn} {ow : List Nat}
theorem ve_fmtR {te : TE} {a : Env → Option D} (h : VE G ow te .cl a) : VE G ow (tFmtR te) .cl (eFmt fmtR a) := fun H0 av A σ H δ E d e Q k => by
  unfold eFmt at e
  cases hx : a δ with
  | none => rw [hx] at e; cases e
  | some x =>
    rw [hx] at e
    dsimp only at e
    unfold fmtR at e
    split at e
    · rename_i cs
      by_cases hz : cs.length ≤ 1000 ∧ cs.all (fun c => decide (c < 65536)) = true
      · rw [if_pos hz] at e
        cases e
        refine h H0 av A σ H δ E _ hx _ fun v H1 s1 r1 => ⟨cs, r1, ?_, k _ H1 s1 rfl⟩
        have := repL_len cs hz.2
        have hs : sizeLine = 16777216 := sizeLine_eq
        omega
      · rw [if_neg hz] at e; cases e
    · cases e
theorem ve_fmtP {te : TE} {a : Env → Option D} (h : VE G ow te .cl a) : VE G ow (tFmtP te) .cl (eFmt fmtP a) := fun H0 av A σ H δ E d e Q k => by
  unfold eFmt at e
  cases hx : a δ with
  | none => rw [hx] at e; cases e
  | some x =>
    rw [hx] at e
    dsimp only at e
    unfold fmtP at e
    split at e
    · rename_i cs
      by_cases hz : cs.length ≤ sizeLine
      · rw [if_pos hz] at e
        cases e
        exact h H0 av A σ H δ E _ hx _ fun v H1 s1 r1 => .inl ⟨cs, r1, hz, k _ H1 s1 rfl⟩
      · rw [if_neg hz] at e; cases e
    · rename_i n
      by_cases hz : 0 ≤ n ∧ n < 10 ^ 10
      · rw [if_pos hz] at e
        cases e
        refine h H0 av A σ H δ E _ hx _ fun v H1 s1 r1 => .inr ⟨n.toNat, ?_, by omega, k _ H1 s1 rfl⟩
        rw [Int.toNat_of_nonneg hz.1]
        exact r1
      · rw [if_neg hz] at e; cases e
    · cases e
inductive VJ (G : Cn) (ow : List Nat) : List TE → List (Env → Option D) → Prop where
  | nil : VJ G ow [] []
  | cons {t : TE} {a : Env → Option D} {ts : List TE} {as : List (Env → Option D)} : VE G ow t .cl a → VJ G ow ts as → VJ G ow (t :: ts) (a :: as)
def xJs : List (Env → Option D) → List Nat → Env → Option (List Nat)
  | [], acc, _ => some acc
  | a :: r, acc, δ => match a δ with
    | some (.str cs) => if (acc ++ cs).length ≤ sizeLine then xJs r (acc ++ cs) δ else none
    | _ => none
theorem vjs {H0 : Hp} {av : Addr → Prop} {A : Nat → Option Addr} {σ : L2.St} {δ : Env} : ∀ {ts : List TE} {as : List (Env → Option D)}, VJ G ow ts as → ∀ {acc cs : List Nat} {H : Hp}, ER G ow H0 av A σ H δ → xJs as acc δ = some cs → ∀ Q : List Nat → Hp → Prop, (∀ H', Same H H' → Q cs H') → tJs ts acc σ H Q
  | _, _, .nil, acc, cs, H, E, e, Q, k => by cases e; exact k H (Same.refl H)
  | _, _, .cons h hr, acc, cs, H, E, e, Q, k => by
    rename_i t a ts as
    unfold xJs at e
    cases hx : a δ with
    | none => rw [hx] at e; cases e
    | some x =>
      rw [hx] at e
      cases x <;> first | (cases e; done) | skip
      rename_i c1
      dsimp only at e
      by_cases hz : (acc ++ c1).length ≤ sizeLine
      · rw [if_pos hz] at e
        exact h H0 av A σ H δ E _ hx _ fun v H1 s1 r1 => ⟨c1, r1, hz, vjs hr (E.mono s1) e _ fun H' s => k H' (s1.trans s)⟩
      · rw [if_neg hz] at e; cases e
def eJoin (as : List (Env → Option D)) (δ : Env) : Option D := match xJs as [] δ with
  | some cs => some (.str cs)
  | none => none
theorem ve_join {ts : List TE} {as : List (Env → Option D)} (h : VJ G ow ts as) : VE G ow (tJoin ts) .cl (eJoin as) := fun H0 av A σ H δ E d e Q k => by
  unfold eJoin at e
  cases hx : xJs as [] δ with
  | none => rw [hx] at e; cases e
  | some cs =>
    rw [hx] at e
    cases e
    exact vjs h E hx _ fun H' s => k _ H' s rfl
end
end DL

namespace L2
open PySem PySem.Spec PySem.W PyProof.Rows
section
variable {X : Cx} {E : XK}
theorem psx_of {st : Stmt} {t : TS} (h : ∀ (pins : List (Addr × Obj)) (s : Shared) (σ : St) (H : Hp) (D : Ends) (xe : Value → Shared → Prop), Inv X pins σ H s → t D σ H →
    (∀ H2 s2 ev s', Inv X pins σ H2 s2 → CX1 X.prog X.w X.stack H2 s2 E ev s' → xe ev s') → wpAny (model X.prog X.w) X.A (exec st X.env) (SP X pins D) xe s) : PSx X E [st] t := by
  intro pins s σ H D xe I q hx
  refine wpAny_execs_cons (thn (Q := SP X pins D) (h pins s σ H D xe I q hx) fun f s1 q => ?_)
  cases f with
  | next => exact wpAny_execs_nil q
  | ret v => exact q
  | brk => exact q
  | cont => exact q
/-- x = a call that may raise -/
theorem psx_set {i : Nat} {x : Str} {e : Expr} {te : TE} {pos pos' : Pos} (hN : X.N.Nodup) (hi : X.N[i]? = some x) (hx : Loc X.env.scope x) (he : PEx X E e te) (hs : swapsWith e (some (.Name x pos')) pos.line X.env = pure false := by rfl)
    (hf : X.fn x = true ∨ X.env.scope.names.lookup x = some .local := by first | exact .inl rfl | exact .inr rfl | assumption) : PSx X E [.Assign [.Name x pos'] e pos] (tAsg te (gName i)) := by
  refine psx_of fun pins s σ H D xe I h hxe => ?_
  refine wpAny_Assign_Name (thn (he pins s σ H _ xe I h hxe) fun v s1 ⟨y, H1, I1, r1, q1⟩ => ?_) hs
  exact store_ok I1 hN hi hx r1 (fun s2 I2 => ⟨_, H1, I2, q1⟩) hf
theorem psx_if {c : Expr} {a b : List Stmt} {tc : TT} {t u : TS} {pos : Pos} (h0 : ∀ e s, ¬ X.xe e s) (hc : PT X c tc) (ha : PSx X E a t) (hb : PSx X E b u) : PSx X E [.If c a b pos] (tIfS tc t u) := by
  refine psx_of fun pins s σ H D xe I h hxe => ?_
  refine wpAny_If (wpAny_mono (hc pins s σ H _ I h) (fun d s1 ⟨H1, I1, q1⟩ => ?_) fun e s z => (h0 e s z).elim)
  cases d with
  | true => exact ha pins s1 σ H1 D xe I1 q1 hxe
  | false => exact hb pins s1 σ H1 D xe I1 q1 hxe
end
end L2
namespace DL
open PySem PySem.Spec L2
/-! ### o.m(..) that may raise -/
abbrev XTab := List (String × (Nat × (List D → Option D) × (List D → Option String)))
structure MethOkX (X : Cx) (cA : Kn) (k : Nat) (m : String) (c : String) (n : Nat) (mm : List D → Option D) (xm : List D → Option String) : Prop where
  ex : ∃ f fd ps, Cls X.K (cA.c c) ∧ Meth X.K (cA.c c) (Str.ofString m) f ∧ FnOk X.prog X.w X.K X.mg X.base (CX1 X.prog X.w) k f fd ps (spX cA n mm xm) ∧ Binds X.K fd ps []
def MTOkX (X : Cx) (cA : Kn) (k : Nat) (m : String) : XTab → Prop
  | [] => True
  | (c, n, mm, xm) :: r => MethOkX X cA k m c n mm xm ∧ MTOkX X cA k m r
theorem MTOkX.get {X : Cx} {cA : Kn} {k : Nat} {m : String} : ∀ {tab : XTab} {c : String} {n : Nat} {mm : List D → Option D} {xm : List D → Option String}, MTOkX X cA k m tab → tab.lookup c = some (n, mm, xm) → MethOkX X cA k m c n mm xm
  | [], _, _, _, _, _, h => by simp at h
  | (c', n', mm', xm') :: r, c, n, mm, xm, T, h => by
    rw [List.lookup_cons] at h
    cases hc : c == c' with
    | true =>
      rw [hc] at h
      cases h
      have : c = c' := eq_of_beq hc
      subst this
      exact T.1
    | false =>
      rw [hc] at h
      exact MTOkX.get T.2 h
def tMethX (cA : Kn) (m : String) (tab : XTab) (E : XK) (ta : TE) (t : TA) : TE := fun σ H Q => ta σ H fun x H1 => ∃ a dx fs c n mm xm, x = .ref a ∧ H1 a = some (.ins (cA.c c) dx fs) ∧ fs.lookup (Str.ofString m) = none ∧ tab.lookup c = some (n, mm, xm) ∧ t σ H1 fun vs H2 => spX cA n mm xm (x :: vs) H2 Q E
section
variable {X : Cx} {cA : Kn} {k : Nat} {m : String} {tab : XTab} {o e : Expr} {es : List Expr} {ta : TE} {t : TA} {pos apos : Pos} {pl : Sem Bool} {E : XK}
theorem pe_methX (T : MTOkX X cA k m tab) (hr : Room k X.A) (hx : Passes (CX1 X.prog X.w) X E) (he : PE X o ta) (ha : PA X (e :: es) t)
    (hst : starEach (e :: es) X.env = (false, eval e X.env) :: starEach es X.env := by rfl) (hpl : (backTo pos (starEach es X.env)).any (·.1) = false := by rfl)
    (ht : eval (.Call (.Attribute o (Str.ofString m) apos) (e :: es) [] pos) X.env = (do
      let ov ← eval o X.env
      standAt apos.atName
      let (f, first) ← holding [ov] (getMethod ov (Str.ofString m) pl)
      callWith pos f first (backTo pos (starEach (e :: es) X.env)) (backToKw pos (keywordEach [] X.env))) := by rfl) :
    PE X (.Call (.Attribute o (Str.ofString m) apos) (e :: es) [] pos) (tMethX cA m tab E ta t) := by
  intro pins s σ H Q I h
  refine PySem.W.methodCall_KW (pl := pl) (thn (he pins s σ H _ I h) fun u s1 ⟨x, H1, I1, rx, a, dx, fs, c, n, mm, xm, ex, ea, l, tl, q⟩ => ?_) ht
  subst ex
  obtain rfl : u = Value.ref a := rx
  obtain ⟨f, fd, ps, hc, hm, F, hb⟩ := (T.get tl).ex
  refine getmeth_ok I1 ea hc hm l ?_
  refine PySem.W.callWith_K (first := [.ref a]) (h₀ := X.base) I.ok.mod.kin hm.kp (thn (ha pos pins s1 σ H1 _ I1 q) fun us s2 ⟨vs, H2, I2, r, q2⟩ => ⟨I2.kIn, ?_⟩) hst hpl
  exact run_fn (us := .ref a :: us) (vs := .ref a :: vs) (dvs := []) (ds := []) F hr hb .nil hx I2 (.cons rfl r) (by rw [List.append_nil]; exact q2)
theorem pex_meth (T : MTOkX X cA k m tab) (hr : Room k X.A) (h0 : ∀ e s, ¬ X.xe e s) (he : PE X o ta) (ha : PA X (e :: es) t)
    (hst : starEach (e :: es) X.env = (false, eval e X.env) :: starEach es X.env := by rfl) (hpl : (backTo pos (starEach es X.env)).any (·.1) = false := by rfl)
    (ht : eval (.Call (.Attribute o (Str.ofString m) apos) (e :: es) [] pos) X.env = (do
      let ov ← eval o X.env
      standAt apos.atName
      let (f, first) ← holding [ov] (getMethod ov (Str.ofString m) pl)
      callWith pos f first (backTo pos (starEach (e :: es) X.env)) (backToKw pos (keywordEach [] X.env))) := by rfl) :
    PEx X E (.Call (.Attribute o (Str.ofString m) apos) (e :: es) [] pos) (tMethX cA m tab E ta t) := by
  intro pins s σ H Q xe I h hx
  refine PySem.W.methodCall_KW (pl := pl) (wpAny_mono (he pins s σ H _ I h) (fun u s1 ⟨x, H1, I1, rx, a, dx, fs, c, n, mm, xm, ex, ea, l, tl, q⟩ => ?_) fun e s z => (h0 e s z).elim) ht
  subst ex
  obtain rfl : u = Value.ref a := rx
  obtain ⟨f, fd, ps, hc, hm, F, hb⟩ := (T.get tl).ex
  refine getmeth_ok I1 ea hc hm l ?_
  refine PySem.W.callWith_K (first := [.ref a]) (h₀ := X.base) I.ok.mod.kin hm.kp (wpAny_mono (ha pos pins s1 σ H1 _ I1 q) (fun us s2 ⟨vs, H2, I2, r, q2⟩ => ⟨I2.kIn, ?_⟩) fun e s z => (h0 e s z).elim) hst hpl
  have r2 : Vals (.ref a :: vs) (.ref a :: us) := .cons rfl r
  have r3 : Vals ((.ref a :: vs) ++ []) ((.ref a :: us) ++ []) := by rw [List.append_nil, List.append_nil]; exact r2
  have q3 : spX cA n mm xm ((.ref a :: vs) ++ []) H2 Q E := by rw [List.append_nil]; exact q2
  have hl : ((Value.ref a :: us) ++ []).length = ps.length := by rw [← r3.length]; exact F.len _ _ _ _ q3
  refine wpAny_call (codeAny_mono (F.run X.A X.stack s2 H2 ⟨.ref a :: us, []⟩ ((.ref a :: us) ++ []) ((.ref a :: vs) ++ []) Q E hr I2.env0 (hb s2 (.ref a :: us) I2.kIn hl) r3 q3) fun r' s' hq => ?_)
  cases r' with
  | error ev => exact hx H2 s2 ev s' I2 hq
  | ok fl =>
    cases fl with
    | ret u => exact I2.after hq
    | next => exact False.elim hq
    | brk => exact False.elim hq
    | cont => exact False.elim hq
end
section
variable {cA : Kn} {G : Cn} {ow ow1 owB owC owN : List Nat} {E : XK}
def eMethX (m : String) (tab : XTab) (a : Env → Option D) (α : Env → Option (List D)) (δ : Env) : Option D := match a δ with
  | some (.obj c ks xs) => if ks.contains m then none else (match tab.lookup c with
    | some (n, mm, _) => match α δ with
      | some ds => if (D.obj c ks xs :: ds).length = n then mm (.obj c ks xs :: ds) else none
      | none => none
    | none => none)
  | _ => none
def xMeth (m : String) (tab : XTab) (a : Env → Option D) (α : Env → Option (List D)) (δ : Env) : Option String := match a δ with
  | some (.obj c ks xs) => if ks.contains m then none else (match tab.lookup c with
    | some (n, _, xm) => match α δ with
      | some ds => if (D.obj c ks xs :: ds).length = n then xm (.obj c ks xs :: ds) else none
      | none => none
    | none => none)
  | _ => none
theorem ve_methX {m : String} {tab : XTab} {ta : TE} {t : TA} {a : Env → Option D} {α : Env → Option (List D)} {E1 : XK} (ha : VE G ow ta .cl a) (h : VA G ow t .cl α) : VE G ow (tMethX G.1 m tab E1 ta t) .cl (eMethX m tab a α) := fun H0 av A σ H δ E d e Q k => by
  unfold eMethX at e
  cases hx : a δ with
  | none => rw [hx] at e; cases e
  | some x =>
    rw [hx] at e
    cases x <;> first | (cases e; done) | skip
    rename_i c ks xs
    dsimp only at e
    cases hf : ks.contains m with
    | true => rw [hf, if_pos rfl] at e; cases e
    | false =>
      rw [hf, if_neg Bool.false_ne_true] at e
      cases htb : tab.lookup c with
      | none => rw [htb] at e; cases e
      | some p =>
        obtain ⟨n, mm, xm⟩ := p
        rw [htb] at e
        dsimp only at e
        cases he : α δ with
        | none => rw [he] at e; cases e
        | some ds =>
          rw [he] at e
          dsimp only at e
          by_cases hz : (D.obj c ks xs :: ds).length = n
          · rw [if_pos hz] at e
            refine ha H0 av A σ H δ E _ hx _ fun v H1 s1 r1 => ?_
            obtain ⟨p, dx, vs, rfl, np, rd, zl, l⟩ := r1
            refine ⟨p, dx, _, c, n, mm, xm, rfl, rd, fld_none hf, htb, h H0 av A σ H1 δ (E.mono s1) ds he _ fun ws H2 s2 r2 => .inl ?_⟩
            have E2 := (E.mono s1).mono s2
            refine ⟨AV av A, .obj c ks xs :: ds, d, E2.avl, .cons ?_ r2.cl, hz, e, fun v H' s r => k v H' ((s1.trans s2).trans s) r.t⟩
            unfold Rep
            exact ⟨p, dx, vs, rfl, np, s2 _ _ rd, zl, l.same s2⟩
          · rw [if_neg hz] at e; cases e
theorem vxe_meth {m : String} {tab : XTab} {ta : TE} {t : TA} {a : Env → Option D} {α : Env → Option (List D)} (ha : VE G ow ta .cl a) (h : VA G ow t .cl α) : VXe G ow E (tMethX G.1 m tab E ta t) (xMeth m tab a α) := fun H0 av A σ H δ R c0 e k Q => by
  unfold xMeth at e
  cases hx : a δ with
  | none => rw [hx] at e; cases e
  | some x =>
    rw [hx] at e
    cases x <;> first | (cases e; done) | skip
    rename_i c ks xs
    dsimp only at e
    cases hf : ks.contains m with
    | true => rw [hf, if_pos rfl] at e; cases e
    | false =>
      rw [hf, if_neg Bool.false_ne_true] at e
      cases htb : tab.lookup c with
      | none => rw [htb] at e; cases e
      | some p =>
        obtain ⟨n, mm, xm⟩ := p
        rw [htb] at e
        dsimp only at e
        cases he : α δ with
        | none => rw [he] at e; cases e
        | some ds =>
          rw [he] at e
          dsimp only at e
          by_cases hz : (D.obj c ks xs :: ds).length = n
          · rw [if_pos hz] at e
            refine ha H0 av A σ H δ R _ hx _ fun v H1 s1 r1 => ?_
            obtain ⟨p, dx, vs, rfl, np, rd, zl, l⟩ := r1
            refine ⟨p, dx, _, c, n, mm, xm, rfl, rd, fld_none hf, htb, h H0 av A σ H1 δ (R.mono s1) ds he _ fun ws H2 s2 r2 => .inr ?_⟩
            have E2 := (R.mono s1).mono s2
            refine ⟨AV av A, .obj c ks xs :: ds, c0, E2.avl, .cons ?_ r2.cl, hz, e, fun H' s => k H' ((s1.trans s2).trans s)⟩
            unfold Rep
            exact ⟨p, dx, vs, rfl, np, s2 _ _ rd, zl, l.same s2⟩
          · rw [if_neg hz] at e; cases e
/-! ### for, in a def that may raise -/
def forX (γ : D → Env → Option Env) (φ : Env → Option Out) (χ : Env → Option String) : List D → Env → Option String
  | [], _ => none
  | x :: r, δ => match γ x δ with
    | none => none
    | some δ1 => match χ δ1 with
      | some c => some c
      | none => match φ δ1 with
        | some (.nx δ2) => forX γ φ χ r δ2
        | some (.ct δ2) => forX γ φ χ r δ2
        | _ => none
def xFor (ι : Env → Option (List D)) (γ : D → Env → Option Env) (φ : Env → Option Out) (χ : Env → Option String) (δ : Env) : Option String := match ι δ with
  | some xs => forX γ φ χ xs δ
  | none => none
theorem vx_for {wi : TI} {g : TG} {tb : TS} {ι : Env → Option (List D)} {γ : D → Env → Option Env} {φ : Env → Option Out} {χ : Env → Option String} (hi : VI G ow wi ι) (hg : VG G ow ow g γ) (hb : VS G ow ow ow ow tb φ) (hX : VX G ow E tb χ) : VX G ow E (tFor wi g tb) (xFor ι γ φ χ) := fun H0 av A σ H δ R c e k De => by
  unfold xFor at e
  cases he : ι δ with
  | none => rw [he] at e; cases e
  | some xs =>
    rw [he] at e
    have e : forX γ φ χ xs δ = some c := e
    refine hi H0 av A σ H δ R xs he _ fun J H1 s1 W => ?_
    have E1 := R.mono s1
    refine ⟨fun i m σ' H' => m = xs.length - i ∧ i ≤ xs.length ∧ ∃ A' δ', ER G ow (DL.cut A H1) av A' σ' H' δ' ∧ forX γ φ χ (xs.drop i) δ' = some c, ⟨xs.length, by simp, Nat.zero_le _, A, δ, E1.cut, e⟩, ?_⟩
    rintro i m σ' H' ⟨rfl, hle, A', δ', E', e'⟩
    obtain ⟨w1, w2, w3⟩ := W H' E'.same
    by_cases hlt : i < xs.length
    · refine .inr ⟨w1 i hlt, fun σ2 H2 => ∃ A2 δ2, ER G ow (DL.cut A H1) av A2 σ2 H2 δ2 ∧ forX γ φ χ (xs.drop (i + 1)) δ2 = some c, fun σ2 H2 ⟨A2, δ2, E2, e2⟩ => ⟨xs.length - (i + 1), by omega, rfl, hlt, A2, δ2, E2, e2⟩, fun v H2 y => ?_⟩
      have hx : xs[i]? = some xs[i] := List.getElem?_eq_getElem hlt
      obtain ⟨s2, rep⟩ := w2 i _ v H2 hx y
      have E2 := E'.mono s2
      have rep' : Rep G.1 (AV av A') H2 xs[i] v := rep _ E'.avl fun b z => by
        rcases z with z | ⟨j, z⟩
        · exact .inl (.inl z)
        · exact .inr (E'.fr j b z)
      rw [List.drop_eq_getElem_cons hlt] at e'
      unfold forX at e'
      cases hγ : γ xs[i] δ' with
      | none => rw [hγ] at e'; cases e'
      | some δ1 =>
        rw [hγ] at e'
        dsimp only at e'
        refine hg _ av A' σ' H2 δ' E2 _ v rep' δ1 hγ _ fun A3 σ3 H3 s3 E3 => ?_
        cases hχ : χ δ1 with
        | some c' =>
          rw [hχ] at e'
          cases e'
          exact hX _ av A3 σ3 H3 δ1 E3 c hχ (fun H' s => k H' (E1.sub0.trans s)) _
        | none =>
          rw [hχ] at e'
          dsimp only at e'
          cases hφ : φ δ1 with
          | none => rw [hφ] at e'; cases e'
          | some o1 =>
            rw [hφ] at e'
            refine hb _ av A3 σ3 H3 δ1 E3 o1 hφ _ ?_
            cases o1 with
            | nx δ2 => exact fun A4 σ4 H4 E4 => ⟨A4, δ2, E4, e'⟩
            | ct δ2 => exact fun A4 σ4 H4 E4 => ⟨A4, δ2, E4, e'⟩
            | bk δ2 => cases e'
            | rt d => cases e'
    · have ei : i = xs.length := by omega
      subst ei
      rw [List.drop_length] at e'
      cases e'
end
end DL

namespace L2
open PySem PySem.Spec PySem.W PyProof.Rows
/-! ### list(a text) -/
theorem signs_vals : ∀ (cs : List Nat) (its : List Value), its.length = cs.length → (∀ (j : Nat) (v : Value), its[j]? = some v → ∃ (c : Nat) (u : Tok), cs[j]? = some c ∧ v = Value.str ⟨#[c]⟩ u) → Vals (cs.map fun c => S [c]) its
  | [], [], _, _ => .nil
  | c :: cs, [], h, _ => by simp at h
  | [], v :: its, h, _ => by simp at h
  | c :: cs, v :: its, h, k => by
    refine .cons ?_ (signs_vals cs its (by simpa using h) fun j v hj => by simpa using k (j + 1) v (by simpa using hj))
    obtain ⟨c', u, e1, e2⟩ := k 0 v rfl
    cases e1
    exact ⟨u, e2⟩
def rLstX (K : PySem.W.Frag) : List V → Hp → VK → Prop := fun xs H Q => rLstOf K xs H Q ∨ ∃ cs, xs = [S cs] ∧ cs.length ≤ sizeLine ∧ ∀ l, H l = none → Q (.ref l) (upd H l (.lst (cs.map fun c => S [c])))
theorem call_listX {X : Cx} {K : PySem.W.Frag} (hc : X.calm = true := by rfl) (hK : X.K = K := by rfl) : CallR X (.type "list") (rLstX K) := by
  subst hK
  intro pins s σ H xs us Q I r h
  rcases h with h | ⟨cs, rfl, hz, q⟩
  · exact call_list_of pins s σ H xs us Q I r h
  · obtain ⟨u, rfl, rx⟩ := vals1 r
    obtain ⟨t, rfl⟩ := rx
    refine call_list_str (I.ok.hd hc) (tx cs) t (fun h' tk acc' c' kp e hi => ?_) (by simpa using hz)
    have hv : Vals (cs.map fun c => S [c]) acc'.toList := signs_vals cs _ (by simpa using hi.1) fun j v hj => by
      obtain ⟨c, u, e1, e2⟩ := hi.2 j v (by simpa using hj)
      exact ⟨c, u, by simpa using e1, e2⟩
    exact ⟨.ref s.heap.objs.size, _, I.laid (t' := tk) kp (Nat.le_refl _) (show ObjOk X.prog X.w _ h' _ (.lst _) from ⟨by rw [List.length_map]; exact hz, acc'.toList, c', hv, e⟩), rfl, q _ (I.hok.fresh (Nat.le_refl _))⟩
end L2
namespace DL
open PySem PySem.Spec L2
def listX : List D → Option D
  | [.str cs] => if cs.length ≤ sizeLine then some (.lst (cs.map fun c => .str [c])) else none
  | ds => listD ds
section
variable {G : Cn} {ow : List Nat}
theorem repL_signs {cA : Kn} {av : Addr → Prop} {H : Hp} : ∀ cs : List Nat, RepL cA av H (cs.map fun c => D.str [c]) (cs.map fun c => S [c])
  | [] => .nil
  | c :: cs => .cons rfl (repL_signs cs)
theorem vf_listX {t : TA} {q : Ql} {α : Env → Option (List D)} (hq : q = .cl ∨ q = .tp) (h : VA G ow t q α) : VF G ow (tCB (rLstX G.1.K) t) (eCB listX α) := fun H0 av A σ H δ E d e Q k => by
  unfold eCB at e
  cases he : α δ with
  | none => rw [he] at e; cases e
  | some ds =>
    rw [he] at e
    replace e : listX ds = some d := e
    unfold listX at e
    split at e
    · rename_i cs
      by_cases hz : cs.length ≤ sizeLine
      · rw [if_pos hz] at e
        cases e
        refine h H0 av A σ H δ E _ he _ fun vs H1 s1 r1 => ?_
        have il : RepIL G.1 (AV av A) H1 [.str cs] vs := by
          rcases hq with rfl | rfl <;> exact r1.il
        obtain ⟨v, t, rfl, hx⟩ := il1 il
        cases (show v = _ from hx)
        exact .inr ⟨cs, rfl, hz, fun p hp => k p _ _ H1 s1 hp (repL_signs cs) rfl⟩
      · rw [if_neg hz] at e; cases e
    · exact h H0 av A σ H δ E _ he _ fun vs H1 s1 r1 => by
        have il : RepIL G.1 (AV av A) H1 ds vs := by
          rcases hq with rfl | rfl <;> exact r1.il
        refine .inl ?_
        unfold listD at e
        split at e
        · rename_i xs
          cases e
          obtain ⟨v, t, rfl, a, ws, rfl, _, rd, l⟩ := il1 il
          exact ⟨a, ws, rfl, .inl rd, fun p hp => k p ws _ H1 s1 hp l rfl⟩
        · rename_i xs
          cases e
          obtain ⟨v, t, rfl, a, ws, rfl, _, rd, l⟩ := il1 il
          exact ⟨a, ws, rfl, .inr (SqT.of rd), fun p hp => k p ws _ H1 s1 hp l rfl⟩
        · cases e
end
end DL

namespace DL
open PySem PySem.Spec L2
/-! ### the functions of data, reckoned -/
theorem eqD_int (i j : Int) : eqD (.int i) (.int j) = some (.bl (decide (i = j))) := by
  show (if (scalar (.int i) && scalar (.int j) && scal (V.int i) (V.int j)) = true then some (D.bl (decide (V.int i = V.int j))) else _) = _
  rw [if_pos (by rfl)]
  simp
theorem eqD_str (a b : List Nat) : eqD (.str a) (.str b) = some (.bl (decide (a = b))) := by
  show (if (scalar (.str a) && scalar (.str b) && scal (S a) (S b)) = true then some (D.bl (decide (S a = S b))) else _) = _
  rw [if_pos (by rfl)]
  simp only [S_inj]
theorem eqD_bl' (a b : Bool) : eqD (.bl a) (.bl b) = some (.bl (decide (a = b))) := by
  show (if (scalar (.bl a) && scalar (.bl b) && scal (V.bl a) (V.bl b)) = true then some (D.bl (decide (V.bl a = V.bl b))) else _) = _
  rw [if_pos (by rfl)]
  simp
theorem eqD_nn : eqD .non .non = some (.bl true) := rfl
theorem eqD_ni (i : Int) : eqD .non (.int i) = some (.bl false) := by
  show (if (scalar .non && scalar (.int i) && scal V.non (V.int i)) = true then some (D.bl (decide (V.non = V.int i))) else _) = _
  rw [if_pos (by rfl)]
  simp
theorem eqD_in (i : Int) : eqD (.int i) .non = some (.bl false) := by
  show (if (scalar (.int i) && scalar .non && scal (V.int i) V.non) = true then some (D.bl (decide (V.int i = V.non))) else _) = _
  rw [if_pos (by rfl)]
  simp
theorem neD_int (i j : Int) : neD (.int i) (.int j) = some (.bl (!decide (i = j))) := by unfold neD; rw [eqD_int]
theorem neD_str (i j : List Nat) : neD (.str i) (.str j) = some (.bl (!decide (i = j))) := by unfold neD; rw [eqD_str]
theorem neD_nn : neD .non .non = some (.bl false) := by unfold neD; rw [eqD_nn]; rfl
theorem neD_ni (i : Int) : neD .non (.int i) = some (.bl true) := by unfold neD; rw [eqD_ni]; rfl
theorem neD_in (i : Int) : neD (.int i) .non = some (.bl true) := by unfold neD; rw [eqD_in]; rfl
theorem atI_map {α β : Type} (f : α → β) (xs : List α) (i : Int) : atI (xs.map f) i = (atI xs i).map f := by
  unfold atI
  rw [List.length_map]
  cases ixN xs.length i with
  | none => rfl
  | some j => simp
theorem atI_lt {α : Type} {xs : List α} {i : Int} (h0 : 0 ≤ i) (h1 : i < xs.length) : ∃ x, atI xs i = some x ∧ xs[i.toNat]? = some x := by
  have hj : i.toNat < xs.length := by omega
  refine ⟨xs[i.toNat], ?_, by simp [hj]⟩
  have := atI_nat (xs := xs) (j := i.toNat) (v := xs[i.toNat]) (by simp [hj])
  rwa [Int.toNat_of_nonneg h0] at this
/-- a for: what holds between two turns -/
theorem forD_inv {γ : D → Env → Option Env} {φ : Env → Option Out} (I : Nat → Env → Prop) : ∀ (xs : List D) (k : Nat) (δ : Env), I k δ →
    (∀ (j : Nat) x δ, xs[j]? = some x → I (k + j) δ → ∃ δ1, γ x δ = some δ1 ∧ ∃ δ2, φ δ1 = some (.nx δ2) ∧ I (k + j + 1) δ2) → ∃ δ', forD γ φ xs δ = some (.nx δ') ∧ I (k + xs.length) δ'
  | [], k, δ, h, _ => ⟨δ, rfl, h⟩
  | x :: xs, k, δ, h, step => by
    obtain ⟨δ1, h1, δ2, h2, h3⟩ := step 0 x δ rfl h
    obtain ⟨δ', h4, h5⟩ := forD_inv I xs (k + 1) δ2 h3 fun j y δ hy hI => by
      have := step (j + 1) y δ (by simpa using hy) (by rwa [show k + (j + 1) = k + 1 + j by omega])
      rwa [show k + (j + 1) + 1 = k + 1 + j + 1 by omega] at this
    refine ⟨δ', ?_, by rwa [List.length_cons, show k + (xs.length + 1) = k + 1 + xs.length by omega]⟩
    unfold forD
    rw [h1]
    dsimp only
    rw [h2]
    exact h4
/-- a for that may leave -/
theorem forD_or {γ : D → Env → Option Env} {φ : Env → Option Out} (I : Nat → Env → Prop) (R : D → Prop) : ∀ (xs : List D) (k : Nat) (δ : Env), I k δ →
    (∀ (j : Nat) x δ, xs[j]? = some x → I (k + j) δ → ∃ δ1, γ x δ = some δ1 ∧ ((∃ δ2, φ δ1 = some (.nx δ2) ∧ I (k + j + 1) δ2) ∨ ∃ d, φ δ1 = some (.rt d) ∧ R d)) →
    (∃ δ', forD γ φ xs δ = some (.nx δ') ∧ I (k + xs.length) δ') ∨ ∃ d, forD γ φ xs δ = some (.rt d) ∧ R d
  | [], k, δ, h, _ => .inl ⟨δ, rfl, h⟩
  | x :: xs, k, δ, h, step => by
    obtain ⟨δ1, h1, h2⟩ := step 0 x δ rfl h
    rcases h2 with ⟨δ2, h2, h3⟩ | ⟨d, h2, h3⟩
    · have ih := forD_or I R xs (k + 1) δ2 h3 fun j y δ hy hI => by
        have := step (j + 1) y δ (by simpa using hy) (by rwa [show k + (j + 1) = k + 1 + j by omega])
        rwa [show k + (j + 1) + 1 = k + 1 + j + 1 by omega] at this
      have e : forD γ φ (x :: xs) δ = forD γ φ xs δ2 := by
        conv => lhs; unfold forD
        rw [h1]
        dsimp only
        rw [h2]
      rw [e]
      rcases ih with ⟨δ', h4, h5⟩ | r
      · exact .inl ⟨δ', h4, by rwa [List.length_cons, show k + (xs.length + 1) = k + 1 + xs.length by omega]⟩
      · exact .inr r
    · refine .inr ⟨d, ?_, h3⟩
      unfold forD
      rw [h1]
      dsimp only
      rw [h2]
/-- a comprehension without a test -/
theorem compD_map {γ : D → Env → Option Env} {ε : Env → Option D} {δ0 : Env} (f : D → D) : ∀ (xs : List D), (∀ x ∈ xs, ∃ δ1, γ x δ0 = some δ1 ∧ ε δ1 = some (f x)) → compD γ (fun _ => some true) ε δ0 xs = some (xs.map f)
  | [], _ => rfl
  | x :: xs, h => by
    obtain ⟨δ1, h1, h2⟩ := h x List.mem_cons_self
    have ih := compD_map f xs fun y hy => h y (List.mem_cons_of_mem _ hy)
    unfold compD
    rw [h1]
    dsimp only
    rw [h2, ih]
    rfl
/-- .. with one -/
theorem compD_filter {γ : D → Env → Option Env} {τ : Env → Option Bool} {ε : Env → Option D} {δ0 : Env} (p : D → Bool) (f : D → D) : ∀ (xs : List D), (∀ x ∈ xs, ∃ δ1, γ x δ0 = some δ1 ∧ τ δ1 = some (p x) ∧ (p x = true → ε δ1 = some (f x))) → compD γ τ ε δ0 xs = some ((xs.filter p).map f)
  | [], _ => rfl
  | x :: xs, h => by
    obtain ⟨δ1, h1, h2, h3⟩ := h x List.mem_cons_self
    have ih := compD_filter p f xs fun y hy => h y (List.mem_cons_of_mem _ hy)
    unfold compD
    rw [h1]
    dsimp only
    rw [h2]
    cases hp : p x with
    | false => rw [List.filter_cons_of_neg (by simp [hp])]; exact ih
    | true =>
      rw [List.filter_cons_of_pos hp]
      dsimp only
      rw [h3 hp, ih]
      rfl
theorem rngI_get {lo c : Int} {n i : Nat} {x : D} (h : (rngI lo c n)[i]? = some x) : i < n ∧ x = .int (lo + (i : Nat) * c) := by
  have hi : i < n := by have := (List.getElem?_eq_some_iff.mp h).1; simpa [rngI] using this
  unfold rngI at h
  rw [List.getElem?_map, List.getElem?_range hi] at h
  exact ⟨hi, (Option.some.inj h).symm⟩
theorem rngI_length (lo c : Int) (n : Nat) : (rngI lo c n).length = n := by simp [rngI]
theorem rngI_mem {lo c : Int} {n : Nat} {x : D} (h : x ∈ rngI lo c n) : ∃ i : Nat, i < n ∧ x = .int (lo + (i : Nat) * c) := by
  obtain ⟨i, hi⟩ := List.getElem?_of_mem h
  exact ⟨i, rngI_get hi⟩
end DL
namespace DL
open PySem PySem.Spec L2
theorem strs_ones {α : Type} (g : α → Nat) : ∀ xs : List α, strs? (xs.map fun x => D.str [g x]) = some (xs.map fun x => [g x])
  | [] => rfl
  | x :: xs => by rw [List.map_cons, strs?, strs_ones g xs, List.map_cons]
theorem join_ones {α : Type} (g : α → Nat) (xs : List α) (h : xs.length ≤ sizeLine) : joinD [] [.lst (xs.map fun x => D.str [g x])] = some (.str (xs.map g)) := by
  unfold joinD
  dsimp only
  rw [strs_ones]
  dsimp only
  have e1 : ((xs.map fun x => [g x]).map List.length).sum = xs.length := by
    clear h
    induction xs with
    | nil => rfl
    | cons x xs ih =>
      rw [List.map_cons, List.map_cons, List.sum_cons, ih]
      simp
      omega
  rw [if_pos (by rw [e1]; simpa using h), joinL_nil]
  congr 2
  clear h e1
  induction xs with
  | nil => rfl
  | cons x xs ih => rw [List.map_cons, List.flatten_cons, ih]; rfl
theorem cut_last {α : Type} (r : List α) (c : α) : cutL (r ++ [c]) none (some (-1)) = r := by
  unfold cutL sIx'
  have e : (-1 + ((r ++ [c]).length : Int)).toNat = r.length := by rw [List.length_append, List.length_singleton]; omega
  simp only [show (-1 : Int) < 0 by decide, if_true, e, List.drop_zero, Nat.sub_zero]
  exact List.take_left
theorem figs_all {bs : List Bool} (h : ∀ b ∈ bs, b = true) : bs.all id = true := List.all_eq_true.mpr fun b hb => h b hb
end DL
namespace DL
open PySem PySem.Spec L2
theorem mulD_int {i j : Int} (h : CMul i j) : mulD (.int i) (.int j) = some (.int (i * j)) := if_pos h
theorem modD_int {i j : Int} (h : 0 < j) : modD (.int i) (.int j) = some (.int (i % j)) := if_pos h
theorem fdivD_int {i j : Int} (h : CDiv i j) : fdivD (.int i) (.int j) = some (.int (i / j)) := if_pos h
theorem ixD_str {cs : List Nat} {i : Int} {c : Nat} (h : cs.length ≤ sizeLine) (hz : atI cs i = some c) : ixD (.str cs) (.int i) = some (.str [c]) := by
  show (if cs.length ≤ sizeLine then (atI cs i).map fun c => D.str [c] else none) = _
  rw [if_pos h, hz]
  rfl
theorem cmul_small {i j : Int} (h1 : 0 ≤ i) (h2 : i < 1000) : CMul i j := .inl ⟨by omega, by omega⟩
theorem cdiv_small {i j : Int} (h1 : 0 < j) (h2 : j < 1000000) : CDiv i j := ⟨h1, by omega⟩
end DL

namespace DL
open PySem PySem.Spec L2
/-! ### stepping through a def -/
theorem seq_nx {a b : Env → Option Out} {δ δ' : Env} (h : a δ = some (.nx δ')) : sSeq a b δ = b δ' := by
  unfold sSeq; rw [h]
theorem seq_rt {a b : Env → Option Out} {δ : Env} {d : D} (h : a δ = some (.rt d)) : sSeq a b δ = some (.rt d) := by
  unfold sSeq; rw [h]
theorem asg_of {i : Nat} {e : Env → Option D} {δ : Env} {d : D} (h : e δ = some d) : sAsg i e δ = some (.nx (δ.set i (some d))) := by
  unfold sAsg; rw [h]
theorem ret_of {e : Env → Option D} {δ : Env} {d : D} (h : e δ = some d) : sRet e δ = some (.rt d) := by
  unfold sRet; rw [h]
theorem if_yes {t : Env → Option Bool} {a b : Env → Option Out} {δ : Env} (h : t δ = some true) : sIf t a b δ = a δ := by
  unfold sIf; rw [h]
theorem if_no {t : Env → Option Bool} {a b : Env → Option Out} {δ : Env} (h : t δ = some false) : sIf t a b δ = b δ := by
  unfold sIf; rw [h]
theorem xB_of {e : Env → Option D} {δ : Env} {b : Bool} (h : e δ = some (.bl b)) : xB e δ = some b := by
  unfold xB; rw [h]; rfl
theorem xNot_of {t : Env → Option Bool} {δ : Env} {b : Bool} (h : t δ = some b) : xNot t δ = some (!b) := by
  unfold xNot; rw [h]
theorem xOr_no {a b : Env → Option Bool} {δ : Env} {x : Bool} (h1 : a δ = some false) (h2 : b δ = some x) : xOr a b δ = some x := by
  unfold xOr; rw [h1]; exact h2
theorem xOr_yes {a b : Env → Option Bool} {δ : Env} (h1 : a δ = some true) : xOr a b δ = some true := by
  unfold xOr; rw [h1]
theorem xAnd_yes {a b : Env → Option Bool} {δ : Env} {x : Bool} (h1 : a δ = some true) (h2 : b δ = some x) : xAnd a b δ = some x := by
  unfold xAnd; rw [h1]; exact h2
theorem xAnd_no {a b : Env → Option Bool} {δ : Env} (h1 : a δ = some false) : xAnd a b δ = some false := by
  unfold xAnd; rw [h1]
theorem call_of {n : Nat} {m : List D → Option D} {α : Env → Option (List D)} {δ : Env} {ds : List D} (h : α δ = some ds) (hn : ds.length = n) : eCall n m [] α δ = m ds := by
  unfold eCall
  rw [h]
  dsimp only
  rw [List.append_nil, if_pos hn]
theorem cons_of {a : Env → Option D} {b : Env → Option (List D)} {δ : Env} {x : D} {xs : List D} (h1 : a δ = some x) (h2 : b δ = some xs) : eCons a b δ = some (x :: xs) := by
  unfold eCons; rw [h1, h2]
theorem op_of {f : D → D → Option D} {a b : Env → Option D} {δ : Env} {x y : D} (h1 : a δ = some x) (h2 : b δ = some y) : eOp f a b δ = f x y := by
  unfold eOp; rw [h1, h2]
theorem and_yes {a b : Env → Option D} {δ : Env} {x : D} (h1 : a δ = some (.bl true)) (h2 : b δ = some x) : eAnd a b δ = some x := by
  unfold eAnd; rw [h1]; exact h2
theorem tup_of {α : Env → Option (List D)} {δ : Env} {ds : List D} (h : α δ = some ds) (hl : ds.length ≤ 1000) : eTup α δ = (some (.tup ds) : Option D) := by
  unfold eTup; rw [h]
  exact if_pos (Nat.le_trans hl (by decide))
theorem lst_of {α : Env → Option (List D)} {δ : Env} {ds : List D} (h : α δ = some ds) (hl : ds.length ≤ 1000) : eLst α δ = (some (.lst ds) : Option D) := by
  unfold eLst; rw [h]
  exact if_pos (Nat.le_trans hl (by decide))
/-- a for: what holds between two turns, whichever -/
theorem forD_keep {γ : D → Env → Option Env} {φ : Env → Option Out} (I : Env → Prop) : ∀ (xs : List D) (δ : Env), I δ →
    (∀ x ∈ xs, ∀ δ, I δ → ∃ δ1, γ x δ = some δ1 ∧ ∃ δ2, φ δ1 = some (.nx δ2) ∧ I δ2) → ∃ δ', forD γ φ xs δ = some (.nx δ') ∧ I δ'
  | [], δ, h, _ => ⟨δ, rfl, h⟩
  | x :: xs, δ, h, step => by
    obtain ⟨δ1, h1, δ2, h2, h3⟩ := step x List.mem_cons_self δ h
    obtain ⟨δ', h4, h5⟩ := forD_keep I xs δ2 h3 fun y hy => step y (List.mem_cons_of_mem _ hy)
    refine ⟨δ', ?_, h5⟩
    unfold forD
    rw [h1]
    dsimp only
    rw [h2]
    exact h4
theorem rng_mem {lo c : Int} {n : Nat} {x : D} (h : x ∈ rngI lo c n) : ∃ k : Nat, k < n ∧ x = .int (lo + (k : Nat) * c) := by
  unfold rngI at h
  obtain ⟨k, hk, rfl⟩ := List.mem_map.mp h
  exact ⟨k, List.mem_range.mp hk, rfl⟩
/-- a while: a measure that falls -/
theorem while_of {τ : Env → Option Bool} {φ : Env → Option Out} (I J : Env → Prop) (μ : Env → Nat)
    (step : ∀ δ, I δ → (τ δ = some false ∧ J δ) ∨ (τ δ = some true ∧ ∃ δ', φ δ = some (.nx δ') ∧ I δ' ∧ μ δ' < μ δ)) :
    ∀ (k : Nat) (δ : Env), μ δ ≤ k → I δ → ∃ n δ', whileD τ φ n δ = some (.nx δ') ∧ J δ'
  | 0, δ, hk, h => by
    rcases step δ h with ⟨h1, h2⟩ | ⟨h1, δ', h2, h3, h4⟩
    · exact ⟨1, δ, by unfold whileD; rw [h1], h2⟩
    · omega
  | k + 1, δ, hk, h => by
    rcases step δ h with ⟨h1, h2⟩ | ⟨h1, δ', h2, h3, h4⟩
    · exact ⟨1, δ, by unfold whileD; rw [h1], h2⟩
    · obtain ⟨n, δ2, h5, h6⟩ := while_of I J μ step k δ' (by omega) h3
      refine ⟨n + 1, δ2, ?_, h6⟩
      unfold whileD
      rw [h1]
      dsimp only
      rw [h2]
      exact h5
theorem sWhile_inv {τ : Env → Option Bool} {φ : Env → Option Out} (I J : Env → Prop) (μ : Env → Nat)
    (step : ∀ δ, I δ → (τ δ = some false ∧ J δ) ∨ (τ δ = some true ∧ ∃ δ', φ δ = some (.nx δ') ∧ I δ' ∧ μ δ' < μ δ)) (δ : Env) (h : I δ) : ∃ δ', sWhile τ φ δ = some (.nx δ') ∧ J δ' := by
  obtain ⟨n, δ', h1, h2⟩ := while_of I J μ step (μ δ) δ (Nat.le_refl _) h
  exact ⟨δ', sWhile_of h1, h2⟩
/-! ### ints -/
theorem wd_of {i : Int} (h : i.natAbs ≤ 10 ^ 1000) : Wd i := Nat.lt_of_le_of_lt h (by decide +kernel)
theorem mulW_wd {i j : Int} (h1 : Wd i) (h2 : Wd j) : mulW (.int i) (.int j) = some (.int (i * j)) := if_pos (.inl ⟨h1, h2⟩)
theorem fdivW_of {i j : Int} (h1 : j ≠ 0) (h2 : Wd j) : fdivW (.int i) (.int j) = some (.int (i.fdiv j)) := if_pos ⟨h1, h2⟩
theorem modW_of {i j : Int} (h1 : j ≠ 0) : modW (.int i) (.int j) = some (.int (i.fmod j)) := if_pos h1
theorem powW_of {i j : Int} (h : CPow i j) : powW (.int i) (.int j) = some (.int (i ^ j.toNat)) := if_pos h
theorem fmod_le {a b : Int} (h : 0 < b) : 0 ≤ a.fmod b ∧ a.fmod b < b := by
  rw [Int.fmod_eq_emod_of_nonneg a (by omega)]
  exact ⟨Int.emod_nonneg a (by omega), Int.emod_lt_of_pos a h⟩
theorem fmod_abs {a b : Int} (h : b ≠ 0) : (a.fmod b).natAbs < b.natAbs := by
  rw [Int.fmod_eq_emod]
  have h1 := Int.emod_nonneg a h
  have h2 := Int.emod_lt_of_pos a (b := (b.natAbs : Int)) (by omega)
  rw [show a % (b.natAbs : Int) = a % b from by rcases Int.natAbs_eq b with e | e <;> rw [e] <;> simp] at h2
  split
  · omega
  · rename_i hn
    have h3 : a % b ≠ 0 := fun z => hn (.inr (Int.dvd_of_emod_eq_zero z))
    have h4 : ¬ 0 ≤ b := fun z => hn (.inl z)
    omega
theorem gcd_fmod (a b : Int) : Int.gcd b (a.fmod b) = Int.gcd a b := by
  have e : a.fmod b = a - b * a.fdiv b := Int.fmod_def a b
  apply Nat.dvd_antisymm
  · apply Int.dvd_gcd
    · have h1 : ((Int.gcd b (a.fmod b) : Nat) : Int) ∣ b := Int.gcd_dvd_left ..
      have h2 : ((Int.gcd b (a.fmod b) : Nat) : Int) ∣ a.fmod b := Int.gcd_dvd_right ..
      have : a = a.fmod b + b * a.fdiv b := by omega
      have h3 := Int.dvd_add h2 (Int.dvd_mul_of_dvd_left (c := a.fdiv b) h1)
      rw [← this] at h3
      exact h3
    · exact Int.gcd_dvd_left ..
  · apply Int.dvd_gcd
    · exact Int.gcd_dvd_right ..
    · rw [e]
      exact Int.dvd_sub (Int.gcd_dvd_left ..) (Int.dvd_mul_of_dvd_left (Int.gcd_dvd_right ..))
end DL

namespace DL
open PySem PySem.Spec L2
theorem iotaR1 {α : Env → Option (List D)} {δ : Env} {j : Int} (h : α δ = some [.int j]) (h1 : -1000000 ≤ j) (h2 : j ≤ 1000000) : iotaR α δ = some (rngI 0 1 j.toNat) := by
  unfold iotaR
  rw [h]
  dsimp only
  rw [if_pos ⟨by omega, by omega⟩]
theorem iotaR2 {α : Env → Option (List D)} {δ : Env} {i j : Int} (h : α δ = some [.int i, .int j]) (h1 : -1000000 ≤ j) (h2 : j ≤ 1000000) (h3 : -1000000 ≤ i) (h4 : i ≤ 1000000) : iotaR α δ = some (rngI i 1 (j - i).toNat) := by
  unfold iotaR
  rw [h]
  dsimp only
  rw [if_pos ⟨by omega, by omega, by omega, by omega⟩]
theorem iotaR3 {α : Env → Option (List D)} {δ : Env} {j c : Int} (h : α δ = some [.int 0, .int j, .int c]) (h1 : 0 ≤ j) (h2 : j ≤ 1000000) (hc : c = 2 ∨ c = 3) : iotaR α δ = some (rngI 0 c (Builtin.Range.rangeSize 0 j c).toNat) := by
  unfold iotaR
  rw [h]
  dsimp only
  rw [if_pos ⟨by omega, by omega, small_c h1 (by omega) hc⟩]
theorem app_of {i : Nat} {ε : Env → Option D} {δ : Env} {xs : List D} {d : D} (h1 : eVar i δ = some (.lst xs)) (h2 : ε δ = some d) (hl : xs.length ≤ 1000000) : sApp i ε δ = some (.nx (δ.set i (some (.lst (xs ++ [d]))))) := by
  unfold sApp
  rw [h1]
  dsimp only
  rw [h2]
  dsimp only
  rw [if_pos (by rw [PySem.sizeLine_eq]; omega)]
theorem rng_get {n j : Nat} {x : D} (h : (rngI 0 1 n)[j]? = some x) : j < n ∧ x = .int (j : Nat) := by
  have hj : j < n := by have := (List.getElem?_eq_some_iff.mp h).1; simpa [rngI] using this
  refine ⟨hj, ?_⟩
  unfold rngI at h
  rw [List.getElem?_map, List.getElem?_range hj] at h
  have := Option.some.inj h
  rw [← this]
  show D.int (0 + (j : Int) * 1) = _
  rw [show (0 + (j : Int) * 1) = j by omega]
theorem rng_len (lo c : Int) (n : Nat) : (rngI lo c n).length = n := by simp [rngI]
theorem for_of {ι : Env → Option (List D)} {γ : D → Env → Option Env} {φ : Env → Option Out} {δ : Env} {xs : List D} {o : Out} (h1 : ι δ = some xs) (h2 : forD γ φ xs δ = some o) : sFor ι γ φ δ = some o := by
  unfold sFor
  rw [h1]
  exact h2
theorem comp_of {ι : Env → Option (List D)} {γ : D → Env → Option Env} {τ : Env → Option Bool} {ε : Env → Option D} {n : Nat} {js : List Nat} {δ δ0 : Env} {xs ys : List D} (h1 : ι δ = some xs) (hb : blkD n δ js = δ0) (h2 : compD γ τ ε δ0 xs = some ys) (hl : ys.length ≤ 1000000) : eComp ι γ τ ε n js δ = some (.lst ys) := by
  unfold eComp
  rw [h1]
  dsimp only
  rw [hb, h2]
  dsimp only
  rw [if_pos (by rw [PySem.sizeLine_eq]; omega)]
theorem bm_of {f : List Nat → List D → Option D} {a : Env → Option D} {α : Env → Option (List D)} {δ : Env} {s : List Nat} {ds : List D} (h1 : a δ = some (.str s)) (h2 : α δ = some ds) : eBM f a α δ = f s ds := by
  unfold eBM
  rw [h1, h2]
theorem cb_of {f : List D → Option D} {α : Env → Option (List D)} {δ : Env} {ds : List D} (h : α δ = some ds) : eCB f α δ = f ds := by
  unfold eCB
  rw [h]
theorem run_of {n : Nat} {f : Env → Option Out} {vs : List D} {δ : Env} {d : D} (h1 : (vs.map some ++ List.replicate (n - vs.length) none) = δ) (h2 : f δ = some (.rt d)) : DL.run n f vs = some d := by
  unfold DL.run
  rw [h1, h2]
theorem nil_of {δ : Env} : eNil δ = some [] := rfl
theorem isi_of {t : List (String × Bool)} {a : Env → Option D} {δ : Env} {d : D} {b : Bool} (h1 : a δ = some d) (h2 : isiD t d = some b) : eIsi t a δ = some (.bl b) := by
  unfold eIsi
  rw [h1]
  dsimp only
  rw [h2]
end DL

namespace DL
open PySem PySem.Spec L2
/-! ### == over lists and tuples -/
theorem eqD_self {x : D} (hs : scalar x = false) (h : SeqAt.shaped (toP x) = true) : eqD x x = some (.bl true) := by
  unfold eqD
  rw [if_neg (by simp [hs]), h, if_pos (by rfl)]
  rw [SeqAt.eqv_refl _ (SeqAt.canLay_of_shaped h)]
theorem neD_self {x : D} (hs : scalar x = false) (h : SeqAt.shaped (toP x) = true) : neD x x = some (.bl false) := by
  unfold neD
  rw [eqD_self hs h]
  rfl
def Codes (w : List Nat) : Prop := ∀ c ∈ w, c < 1114112
theorem strOk_of {w : List Nat} (h : Codes w) : PyData.strOk (tx w) = true := by
  unfold PyData.strOk tx
  simpa [Codes] using h
theorem canLay_strs : ∀ {ws : List (List Nat)}, (∀ w ∈ ws, Codes w) → PyData.canLayAll0 (toPs (ws.map D.str)) = true
  | [], _ => rfl
  | w :: ws, h => by
    rw [List.map_cons, toPs, PyData.canLayAll0, canLay_strs fun x hx => h x (List.mem_cons_of_mem _ hx)]
    simp [toP, PyData.canLay0, strOk_of (h w List.mem_cons_self)]
theorem depth_strs : ∀ ws : List (List Nat), PyData.depthAll (toPs (ws.map D.str)) = 0
  | [] => rfl
  | w :: ws => by rw [List.map_cons, toPs, PyData.depthAll, depth_strs ws]; rfl
theorem canLay_ints : ∀ ws : List Int, PyData.canLayAll0 (toPs (ws.map D.int)) = true
  | [] => rfl
  | w :: ws => by rw [List.map_cons, toPs, PyData.canLayAll0, canLay_ints ws]; rfl
theorem depth_ints : ∀ ws : List Int, PyData.depthAll (toPs (ws.map D.int)) = 0
  | [] => rfl
  | w :: ws => by rw [List.map_cons, toPs, PyData.depthAll, depth_ints ws]; rfl
theorem shaped_strs {ws : List (List Nat)} (h : ∀ w ∈ ws, Codes w) : SeqAt.shaped (toP (.lst (ws.map D.str))) = true := by
  simp [SeqAt.shaped, toP, PyData.canLay0, PyData.depth, canLay_strs h, depth_strs]
theorem shaped_ints (ws : List Int) : SeqAt.shaped (toP (.lst (ws.map D.int))) = true := by
  simp [SeqAt.shaped, toP, PyData.canLay0, PyData.depth, canLay_ints, depth_ints]
theorem neD_nil {ws : List (List Nat)} (h : ∀ w ∈ ws, Codes w) : neD (.lst (ws.map D.str)) (.lst []) = some (.bl (!decide (ws = []))) := by
  unfold neD eqD
  have e2 : SeqAt.shaped (toP (.lst [])) = true := shaped_strs (ws := []) fun _ z => nomatch z
  rw [if_neg (by simp [scalar]), shaped_strs h, e2, if_pos (by rfl)]
  cases ws with
  | nil => rfl
  | cons w ws => rfl
end DL

namespace DL
open PySem PySem.Spec L2
/-! ### small things -/
theorem add_int (i j : Int) : addX (.int i) (.int j) = some (.int (i + j)) := rfl
theorem add_str {a b : List Nat} (h : a.length + b.length ≤ 100000) : addX (.str a) (.str b) = some (.str (a ++ b)) := by
  show (if a.length + b.length ≤ PySem.sizeLine then some (D.str (a ++ b)) else none) = _
  rw [if_pos (by rw [PySem.sizeLine_eq]; omega)]
theorem add_lst {a b : List D} (h : a.length + b.length ≤ 100000) : addX (.lst a) (.lst b) = some (.lst (a ++ b)) := by
  show (if a.length + b.length ≤ PySem.sizeLine then some (D.lst (a ++ b)) else none) = _
  rw [if_pos (by rw [PySem.sizeLine_eq]; omega)]
theorem mul_small {i j : Int} (h1 : -1000 ≤ j) (h2 : j ≤ 1000) : mulX (.int i) (.int j) = some (.int (i * j)) := if_pos (.inr (.inr ⟨by omega, by omega⟩))
theorem mul_lst {a : List D} {n : Nat} (h : a.length * n ≤ 100000) (hn : n ≤ 100000) : mulX (.lst a) (.int (n : Int)) = some (.lst (List.replicate n a).flatten) := by
  unfold mulX
  dsimp only
  rw [Int.toNat_natCast, if_pos ⟨by omega, by omega, by rw [PySem.sizeLine_eq]; omega⟩]
theorem ixN_nat {n a : Nat} (h : a < n) : ixN n (a : Int) = some a := by
  unfold ixN
  rw [if_pos (by omega), if_pos (by omega), Int.toNat_natCast]
theorem ix_at {xs : List D} {a : Nat} {x : D} (h : xs[a]? = some x) : ixD (.lst xs) (.int (a : Int)) = some x := atI_nat h
theorem ix_tup {xs : List D} {a : Nat} {x : D} (h : xs[a]? = some x) : ixD (.tup xs) (.int (a : Int)) = some x := atI_nat h
theorem ix_str {cs : List Nat} {a : Nat} {c : Nat} (h : cs[a]? = some c) (hl : cs.length ≤ 100000) : ixD (.str cs) (.int (a : Int)) = some (.str [c]) := ixD_str (by rw [PySem.sizeLine_eq]; omega) (atI_nat h)
theorem ix_ints {cs : List Int} {a : Nat} (h : a < cs.length) : ixD (.lst (cs.map D.int)) (.int (a : Int)) = some (.int (cs.getD a 0)) := by
  refine ix_at ?_
  rw [List.getElem?_map, List.getElem?_eq_getElem h, List.getD_eq_getElem?_getD, List.getElem?_eq_getElem h]
  rfl
theorem nat_of {i : Int} (h : 0 ≤ i) : ∃ a : Nat, i = (a : Int) := ⟨i.toNat, (Int.toNat_of_nonneg h).symm⟩
theorem mod_nat (i : Int) {m : Nat} (h : 0 < m) : ∃ a : Nat, i % (m : Int) = (a : Int) ∧ a < m := by
  obtain ⟨a, ha⟩ := nat_of (Int.emod_nonneg i (show (m : Int) ≠ 0 by omega))
  exact ⟨a, ha, by have := Int.emod_lt_of_pos i (b := (m : Int)) (by omega); omega⟩
theorem modD_nat (i : Int) {m : Nat} (h : 0 < m) : ∃ a : Nat, modD (.int i) (.int (m : Int)) = some (.int (a : Int)) ∧ a < m := by
  obtain ⟨a, ha, hm⟩ := mod_nat i h
  exact ⟨a, by rw [modD_int (by omega), ha], hm⟩
theorem len_str {cs : List Nat} (h : cs.length ≤ 100000) : lenD [.str cs] = some (.int (cs.length : Int)) := if_pos (by rw [PySem.sizeLine_eq]; omega)
theorem len_lst {xs : List D} : lenD [.lst xs] = some (.int (xs.length : Int)) := rfl
theorem len_tup {xs : List D} : lenD [.tup xs] = some (.int (xs.length : Int)) := rfl
theorem findL_mem {c : Nat} {ms : List Nat} (h : c ∈ ms) : ∃ i : Nat, findL c ms = (i : Int) ∧ ms[i]? = some c ∧ i < ms.length := by
  unfold findL
  cases e : ms.findIdx? (· == c) with
  | none =>
    have := List.findIdx?_eq_none_iff.mp e c h
    simp at this
  | some i =>
    obtain ⟨h1, h2, _⟩ := List.findIdx?_eq_some_iff_getElem.mp e
    refine ⟨i, rfl, ?_, h1⟩
    rw [List.getElem?_eq_getElem h1]
    congr 1
    simpa using h2
theorem index_of {c : Nat} {ms : List Nat} (h : c ∈ ms) : ∃ i : Nat, indexD ms [.str [c]] = some (.int (i : Int)) ∧ i < ms.length := by
  obtain ⟨i, a, _, hi⟩ := findL_mem h
  refine ⟨i, ?_, hi⟩
  show (if 0 ≤ findL c ms then some (D.int (findL c ms)) else none) = _
  rw [a, if_pos (by omega)]
theorem make_of {c : String} {n : Nat} {m : List D → Option D} {α : Env → Option (List D)} {δ : Env} {ds : List D} (h : α δ = some ds) (hn : ds.length + 1 = n) : eMake c n m [] α δ = m (.obj c [] [] :: ds) := by
  unfold eMake
  rw [h]
  dsimp only
  rw [List.append_nil, if_pos (by rw [List.length_cons]; exact hn)]
end DL

namespace K12
open PySem PySem.Spec L2 DL
def fc_marks : List String := ["Rooms"]
def fc_ways : List String := ["Rooms"]
def it_bool : List (String × Bool) := [("NoneType", false), ("bool", true), ("int", false), ("str", false), ("list", false), ("tuple", false), ("Rooms", false)]
def it_tuple : List (String × Bool) := [("NoneType", false), ("bool", false), ("int", false), ("str", false), ("list", false), ("tuple", true), ("Rooms", false)]
def ie_BadMark : List (String × Bool) := [("BadMark", true)]
def ie_ValueError : List (String × Bool) := [("BadMark", true)]
def ie_NoRow : List (String × Bool) := [("BadMark", false)]
def ie_Nothing : List (String × Bool) := [("BadMark", false)]
noncomputable def f_is_mark : DL.Env → Option Out :=
  (sRet (eAnd (eOp eqD (eCB lenD (eCons (eVar 1) eNil)) (eC (.int 1))) (eOp (inD false) (eVar 1) (eVar 0))))
noncomputable def m_is_mark : List D → Option D := run 2 f_is_mark
noncomputable def f_Rooms_init : DL.Env → Option Out :=
  (sSeq (sFldD 0 fc_marks "marks" (eVar 1))
  (sFldD 0 fc_ways "ways" (eCB tupleD (eCons (eComp (iotaA (eVar 2)) (gSet 0) (fun _ => some true) (eCB tupleD (eCons (eVar 0) eNil)) 1 []) eNil))))
noncomputable def m_Rooms_init : List D → Option D := runI 3 f_Rooms_init
noncomputable def f_Rooms_many : DL.Env → Option Out :=
  (sRet (eCB lenD (eCons (eFld fc_ways "ways" (eVar 0)) eNil)))
noncomputable def m_Rooms_many : List D → Option D := run 1 f_Rooms_many
noncomputable def f_Rooms_led : DL.Env → Option Out :=
  (sSeq (sIf (xNot (xB (eCall 2 m_is_mark [] (eCons (eFld fc_marks "marks" (eVar 0)) (eCons (eVar 2) eNil))))) sNever sNext)
  (sRet (eOp ixD (eOp ixD (eFld fc_ways "ways" (eVar 0)) (eVar 1)) (eBM indexD (eFld fc_marks "marks" (eVar 0)) (eCons (eVar 2) eNil)))))
noncomputable def g_Rooms_led : DL.Env → Option String :=
  (xSeq (xIf (xNot (xB (eCall 2 m_is_mark [] (eCons (eFld fc_marks "marks" (eVar 0)) (eCons (eVar 2) eNil))))) (xRaise "BadMark" (eCons (eJoin [(eFmt fmtR (eVar 2)), (eC (.str [32, 105, 115, 32, 110, 111, 32, 109, 97, 114, 107]))]) eNil)) xNever) (sIf (xNot (xB (eCall 2 m_is_mark [] (eCons (eFld fc_marks "marks" (eVar 0)) (eCons (eVar 2) eNil))))) sNever sNext)
  xNever)
noncomputable def x_Rooms_led : List D → Option String := runX 3 g_Rooms_led
noncomputable def m_Rooms_led : List D → Option D := run 3 f_Rooms_led
noncomputable def tab_led : XTab := [("Rooms", 3, m_Rooms_led, x_Rooms_led)]
noncomputable def f_Rooms_walked : DL.Env → Option Out :=
  (sSeq (sFor (iotaA (eVar 2)) (gSet 3) (sSeq (sAsg 1 (eMethX "led" tab_led (eVar 0) (eCons (eVar 1) (eCons (eVar 3) eNil))))
  (sIf (xB (eIsN (eVar 1))) (sRet (eC .non)) sNext)))
  (sRet (eVar 1)))
noncomputable def g_Rooms_walked : DL.Env → Option String :=
  (xSeq (xFor (iotaA (eVar 2)) (gSet 3) (sSeq (sAsg 1 (eMethX "led" tab_led (eVar 0) (eCons (eVar 1) (eCons (eVar 3) eNil))))
  (sIf (xB (eIsN (eVar 1))) (sRet (eC .non)) sNext)) (xSeq (xMeth "led" tab_led (eVar 0) (eCons (eVar 1) (eCons (eVar 3) eNil))) (sAsg 1 (eMethX "led" tab_led (eVar 0) (eCons (eVar 1) (eCons (eVar 3) eNil))))
  xNever)) (sFor (iotaA (eVar 2)) (gSet 3) (sSeq (sAsg 1 (eMethX "led" tab_led (eVar 0) (eCons (eVar 1) (eCons (eVar 3) eNil))))
  (sIf (xB (eIsN (eVar 1))) (sRet (eC .non)) sNext)))
  xNever)
noncomputable def x_Rooms_walked : List D → Option String := runX 4 g_Rooms_walked
noncomputable def m_Rooms_walked : List D → Option D := run 4 f_Rooms_walked
noncomputable def f__law_cell_at : DL.Env → Option Out :=
  (sSeq (sIf (xB (eOp (cmpD fun i j => decide (i < j)) (eVar 1) (eCB lenD (eCons (eVar 0) eNil)))) (sRet (eOp ixD (eVar 0) (eVar 1))) sNext)
  (sRet (eC (.int 0))))
noncomputable def m__law_cell_at : List D → Option D := run 2 f__law_cell_at
noncomputable def f__law_marks : DL.Env → Option Out :=
  (sSeq (sAsg 1 (eLst (eCons (eC (.str [48, 49])) (eCons (eC (.str [97, 98])) (eCons (eC (.str [120, 121, 122])) (eCons (eC (.str [48, 97, 49, 98])) (eCons (eC (.str [98, 97])) (eCons (eC (.str [57, 122, 56])) eNil))))))))
  (sRet (eOp ixD (eVar 1) (eOp modD (eVar 0) (eCB lenD (eCons (eVar 1) eNil))))))
noncomputable def m__law_marks : List D → Option D := run 2 f__law_marks
noncomputable def f__law_table : DL.Env → Option Out :=
  (sSeq (sAsg 4 (eLst eNil))
  (sSeq (sFor (iotaR (eCons (eVar 2) eNil)) (gSet 5) (sSeq (sAsg 6 (eLst eNil))
  (sSeq (sFor (iotaR (eCons (eCB lenD (eCons (eVar 3) eNil)) eNil)) (gSet 7) (sSeq (sAsg 8 (eCall 2 m__law_cell_at [] (eCons (eVar 0) (eCons (eOp addX (eOp addX (eVar 1) (eOp mulX (eVar 5) (eCB lenD (eCons (eVar 3) eNil)))) (eVar 7)) eNil))))
  (sApp 6 (eOp ixD (eLst (eCons (eOp modD (eVar 8) (eVar 2)) (eCons (eC .non) eNil))) (eCB intD (eCons (eOp (cmpD fun i j => decide (j < i)) (eOp modD (eOp fdivD (eVar 8) (eVar 2)) (eC (.int 5))) (eC (.int 3))) eNil))))))
  (sApp 4 (eVar 6)))))
  (sRet (eVar 4))))
noncomputable def m__law_table : List D → Option D := run 9 f__law_table
noncomputable def f__law_odd : DL.Env → Option Out :=
  (sSeq (sAsg 1 (eC (.str [97, 98, 99, 100, 101, 102, 103, 104, 105, 106, 107, 108, 109, 110, 111, 112, 113, 114, 115, 116, 117, 118, 119, 120, 121, 122, 48, 49, 50, 51, 52, 53, 54, 55, 56, 57])))
  (sRet (eOp addX (eC (.str [45, 81, 33, 126, 32])) (eBM joinD (eC (.str [])) (eCons (eComp (iotaA (eVar 1)) (gSet 0) (xB (eOp (inD true) (eVar 0) (eVar 1))) (eVar 0) 1 [0]) eNil)))))
noncomputable def m__law_odd : List D → Option D := run 2 f__law_odd
noncomputable def f__law_row : DL.Env → Option Out :=
  (sSeq (sAsg 2 (eCall 1 m__law_odd [] (eCons (eVar 1) eNil)))
  (sSeq (sAsg 3 (eLst eNil))
  (sSeq (sFor (iotaA (eVar 0)) (gSet 4) (sIf (xB (eOp eqD (eOp modD (eOp fdivD (eVar 4) (eC (.int 5))) (eC (.int 7))) (eC (.int 3)))) (sApp 3 (eOp ixD (eVar 2) (eOp modD (eVar 4) (eCB lenD (eCons (eVar 2) eNil))))) (sApp 3 (eOp ixD (eVar 1) (eOp modD (eVar 4) (eCB lenD (eCons (eVar 1) eNil)))))))
  (sRet (eVar 3)))))
noncomputable def m__law_row : List D → Option D := run 5 f__law_row
noncomputable def tab_walked : XTab := [("Rooms", 3, m_Rooms_walked, x_Rooms_walked)]
noncomputable def f__law_asked : DL.Env → Option Out :=
  (sSeq (sAsg 4 (eC .non))
  (sSeq (sAsg 5 (eC .non))
  (sSeq (sTry (sIf (xB (eOp eqD (eVar 1) (eC (.int 0)))) (sAsg 4 (eMethX "led" tab_led (eVar 0) (eCons (eVar 2) (eCons (eVar 3) eNil)))) (sAsg 4 (eMethX "walked" tab_walked (eVar 0) (eCons (eVar 2) (eCons (eVar 3) eNil))))) (xIf (xB (eOp eqD (eVar 1) (eC (.int 0)))) (xMeth "led" tab_led (eVar 0) (eCons (eVar 2) (eCons (eVar 3) eNil))) (xMeth "walked" tab_walked (eVar 0) (eCons (eVar 2) (eCons (eVar 3) eNil)))) ["BadMark"] 6 5 [ie_BadMark, ie_ValueError, ie_NoRow, ie_Nothing])
  (sRet (eTup (eCons (eVar 4) (eCons (eVar 5) eNil)))))))
noncomputable def m__law_asked : List D → Option D := run 7 f__law_asked
noncomputable def f__law_due : DL.Env → Option Out :=
  (sSeq (sFor (iotaA (eVar 3)) (gSet 4) (sSeq (sIf (xOr (xB (eOp neD (eCB lenD (eCons (eVar 4) eNil)) (eC (.int 1)))) (xB (eOp (inD true) (eVar 4) (eVar 1)))) (sRet (eTup (eCons (eC .non) (eCons (eLst (eCons (eC (.bl true)) (eCons (eC (.bl true)) (eCons (eC (.bl false)) (eCons (eC (.bl false)) eNil))))) eNil)))) sNext)
  (sSeq (sAsg 2 (eOp ixD (eOp ixD (eVar 0) (eVar 2)) (eBM indexD (eVar 1) (eCons (eVar 4) eNil))))
  (sIf (xB (eIsN (eVar 2))) (sRet (eTup (eCons (eC .non) (eCons (eC .non) eNil)))) sNext))))
  (sRet (eTup (eCons (eVar 2) (eCons (eC .non) eNil)))))
noncomputable def m__law_due : List D → Option D := run 5 f__law_due
noncomputable def f__law_same : DL.Env → Option Out :=
  (sSeq (sIf (xB (eIsi it_bool (eOp ixD (eVar 0) (eC (.int 0))))) (sRet (eC (.bl false))) sNext)
  (sRet (eOp eqD (eVar 0) (eVar 1))))
noncomputable def m__law_same : List D → Option D := run 2 f__law_same
noncomputable def tab_many : MTab := [("Rooms", 1, m_Rooms_many)]
noncomputable def f_law : DL.Env → Option Out :=
  (sSeq (sAsg 1 (eCall 1 m__law_marks [] (eCons (eCall 2 m__law_cell_at [] (eCons (eVar 0) (eCons (eC (.int 0)) eNil))) eNil)))
  (sSeq (sAsg 2 (eOp addX (eC (.int 1)) (eOp modD (eCall 2 m__law_cell_at [] (eCons (eVar 0) (eCons (eC (.int 1)) eNil))) (eC (.int 7)))))
  (sSeq (sAsg 3 (eCall 4 m__law_table [] (eCons (eVar 0) (eCons (eC (.int 3)) (eCons (eVar 2) (eCons (eVar 1) eNil))))))
  (sSeq (sAsg 4 (eMake "Rooms" 3 m_Rooms_init [] (eCons (eVar 1) (eCons (eCB tupleD (eCons (eComp (iotaA (eVar 3)) (gSet 0) (fun _ => some true) (eCB tupleD (eCons (eVar 0) eNil)) 1 []) eNil)) eNil))))
  (sSeq (sIf (xOr (xB (eOp neD (eFld fc_marks "marks" (eVar 4)) (eVar 1))) (xB (eOp neD (eFld fc_ways "ways" (eVar 4)) (eCB tupleD (eCons (eComp (iotaA (eVar 3)) (gSet 0) (fun _ => some true) (eCB tupleD (eCons (eVar 0) eNil)) 1 []) eNil))))) (sRet (eC (.bl false))) sNext)
  (sSeq (sIf (xOr (xNot (xB (eIsi it_tuple (eFld fc_ways "ways" (eVar 4))))) (xOr (xB (eIsi it_bool (eMeth "many" tab_many (eVar 4) eNil))) (xB (eOp neD (eMeth "many" tab_many (eVar 4) eNil) (eVar 2))))) (sRet (eC (.bl false))) sNext)
  (sSeq (sFor (iotaR (eCons (eVar 2) eNil)) (gSet 5) (sFor (iotaA (eOp addX (eOp addX (eCB listX (eCons (eVar 1) eNil)) (eLst (eCons (eC (.str [])) (eCons (eSl (eVar 1) xNoP (xP (eC (.int 2)))) eNil)))) (eCB listX (eCons (eCall 1 m__law_odd [] (eCons (eVar 1) eNil)) eNil)))) (gSet 6) (sIf (xNot (xB (eCall 2 m__law_same [] (eCons (eCall 4 m__law_asked [] (eCons (eVar 4) (eCons (eC (.int 0)) (eCons (eVar 5) (eCons (eVar 6) eNil))))) (eCons (eCall 4 m__law_due [] (eCons (eVar 3) (eCons (eVar 1) (eCons (eVar 5) (eCons (eLst (eCons (eVar 6) eNil)) eNil))))) eNil))))) (sRet (eC (.bl false))) sNext)))
  (sSeq (sAsg 7 (eCall 2 m__law_row [] (eCons (eVar 0) (eCons (eVar 1) eNil))))
  (sSeq (sAsg 5 (eOp modD (eCall 2 m__law_cell_at [] (eCons (eVar 0) (eCons (eC (.int 2)) eNil))) (eVar 2)))
  (sSeq (sFor (iotaR (eCons (eOp addX (eCB minD (eCons (eCB lenD (eCons (eVar 7) eNil)) (eCons (eC (.int 40)) eNil))) (eC (.int 1))) eNil)) (gSet 8) (sIf (xNot (xB (eCall 2 m__law_same [] (eCons (eCall 4 m__law_asked [] (eCons (eVar 4) (eCons (eC (.int 1)) (eCons (eVar 5) (eCons (eBM joinD (eC (.str [])) (eCons (eSl (eVar 7) xNoP (xP (eVar 8))) eNil)) eNil))))) (eCons (eCall 4 m__law_due [] (eCons (eVar 3) (eCons (eVar 1) (eCons (eVar 5) (eCons (eSl (eVar 7) xNoP (xP (eVar 8))) eNil))))) eNil))))) (sRet (eC (.bl false))) sNext))
  (sRet (eCall 2 m__law_same [] (eCons (eCall 4 m__law_asked [] (eCons (eVar 4) (eCons (eC (.int 1)) (eCons (eVar 5) (eCons (eBM joinD (eC (.str [])) (eCons (eVar 7) eNil)) eNil))))) (eCons (eCall 4 m__law_due [] (eCons (eVar 3) (eCons (eVar 1) (eCons (eVar 5) (eCons (eVar 7) eNil))))) eNil))))))))))))))
noncomputable def m_law : List D → Option D := run 9 f_law
end K12

namespace K12
open PySem PySem.Spec L2 DL
def top (i : Nat) : Stmt := PySem.Challenge.pw_grooveway_k12_rooms_walked.main.body.getD i (.Pass ⟨0, 0, 0, 0⟩)
abbrev s_is_mark : Stmt := top 6
abbrev s_Rooms_init : Stmt := inClass (top 8) 0
abbrev s_Rooms_many : Stmt := inClass (top 8) 1
abbrev s_Rooms_led : Stmt := inClass (top 8) 2
abbrev s_Rooms_walked : Stmt := inClass (top 8) 3
abbrev s__law_cell_at : Stmt := top 10
abbrev s__law_marks : Stmt := top 11
abbrev s__law_table : Stmt := top 12
abbrev s__law_odd : Stmt := top 13
abbrev s__law_row : Stmt := top 14
abbrev s__law_asked : Stmt := top 15
abbrev s__law_due : Stmt := top 16
abbrev s__law_same : Stmt := top 17
abbrev s_law : Stmt := top 18
theorem sc_is_mark : FnScope ["marks", "text"] ["marks", "text"] (defScope s_is_mark) := ⟨rfl, rfl, rfl, by decide +kernel, rfl, by decide +kernel, by decide +kernel⟩
theorem sc_Rooms_init : FnScope ["self", "marks", "ways"] ["self", "marks", "ways"] (defScope s_Rooms_init) := ⟨rfl, rfl, rfl, by decide +kernel, rfl, by decide +kernel, by decide +kernel⟩
theorem sc_Rooms_many : FnScope ["self"] ["self"] (defScope s_Rooms_many) := ⟨rfl, rfl, rfl, by decide +kernel, rfl, by decide +kernel, by decide +kernel⟩
theorem sc_Rooms_led : FnScope ["self", "room", "mark"] ["self", "room", "mark"] (defScope s_Rooms_led) := ⟨rfl, rfl, rfl, by decide +kernel, rfl, by decide +kernel, by decide +kernel⟩
theorem sc_Rooms_walked : FnScope ["self", "room", "row", "mark"] ["self", "room", "row"] (defScope s_Rooms_walked) := ⟨rfl, rfl, rfl, by decide +kernel, rfl, by decide +kernel, by decide +kernel⟩
theorem sc__law_cell_at : FnScope ["script", "k"] ["script", "k"] (defScope s__law_cell_at) := ⟨rfl, rfl, rfl, by decide +kernel, rfl, by decide +kernel, by decide +kernel⟩
theorem sc__law_marks : FnScope ["cell", "some"] ["cell"] (defScope s__law_marks) := ⟨rfl, rfl, rfl, by decide +kernel, rfl, by decide +kernel, by decide +kernel⟩
theorem sc__law_table : FnScope ["script", "at", "many", "marks", "table", "room", "row", "k", "cell"] ["script", "at", "many", "marks"] (defScope s__law_table) := ⟨rfl, rfl, rfl, by decide +kernel, rfl, by decide +kernel, by decide +kernel⟩
theorem sc__law_odd : FnScope ["marks", "some"] ["marks"] (defScope s__law_odd) := ⟨rfl, rfl, rfl, by decide +kernel, rfl, by decide +kernel, by decide +kernel⟩
theorem sc__law_row : FnScope ["script", "marks", "odd", "row", "cell"] ["script", "marks"] (defScope s__law_row) := ⟨rfl, rfl, rfl, by decide +kernel, rfl, by decide +kernel, by decide +kernel⟩
theorem sc__law_asked : FnScope ["rooms", "way", "room", "row", "found", "refused", "e"] ["rooms", "way", "room", "row"] (defScope s__law_asked) := ⟨rfl, rfl, rfl, by decide +kernel, rfl, by decide +kernel, by decide +kernel⟩
theorem sc__law_due : FnScope ["table", "marks", "room", "row", "sign"] ["table", "marks", "room", "row"] (defScope s__law_due) := ⟨rfl, rfl, rfl, by decide +kernel, rfl, by decide +kernel, by decide +kernel⟩
theorem sc__law_same : FnScope ["told", "due"] ["told", "due"] (defScope s__law_same) := ⟨rfl, rfl, rfl, by decide +kernel, rfl, by decide +kernel, by decide +kernel⟩
theorem sc_law : FnScope ["script", "marks", "many", "table", "rooms", "room", "sign", "row", "k"] ["script"] (defScope s_law) := ⟨rfl, rfl, rfl, by decide +kernel, rfl, by decide +kernel, by decide +kernel⟩
structure Adr where
  a_is_mark : Addr
  d_is_mark : FuncData
  a_Rooms_init : Addr
  d_Rooms_init : FuncData
  a_Rooms_many : Addr
  d_Rooms_many : FuncData
  a_Rooms_led : Addr
  d_Rooms_led : FuncData
  a_Rooms_walked : Addr
  d_Rooms_walked : FuncData
  a__law_cell_at : Addr
  d__law_cell_at : FuncData
  a__law_marks : Addr
  d__law_marks : FuncData
  a__law_table : Addr
  d__law_table : FuncData
  a__law_odd : Addr
  d__law_odd : FuncData
  a__law_row : Addr
  d__law_row : FuncData
  a__law_asked : Addr
  d__law_asked : FuncData
  a__law_due : Addr
  d__law_due : FuncData
  a__law_same : Addr
  d__law_same : FuncData
  a_law : Addr
  d_law : FuncData
  c_GrooveError : Addr
  c_BadMark : Addr
  c_Nothing : Addr
  c_NoRow : Addr
  c_Rooms : Addr
def Adr.c (t : Adr) : String → Addr := fun c => if c = "Rooms" then t.c_Rooms else if c = "BadMark" then t.c_BadMark else if c = "GrooveError" then t.c_GrooveError else if c = "NoRow" then t.c_NoRow else if c = "Nothing" then t.c_Nothing else 0
structure Txt (K : PySem.W.Frag) (mg : Str → Option Value) (t : Adr) : Prop where
  f_is_mark : FunX K "is_mark" "is_mark" s_is_mark t.a_is_mark t.d_is_mark
  b_is_mark : Binds K t.d_is_mark ["marks", "text"] []
  g_is_mark : mg "is_mark" = some (.ref t.a_is_mark)
  k_is_mark : PySem.W.keepIn K (.ref t.a_is_mark) = true
  f_Rooms_init : FunX K "__init__" "Rooms.__init__" s_Rooms_init t.a_Rooms_init t.d_Rooms_init
  b_Rooms_init : Binds K t.d_Rooms_init ["self", "marks", "ways"] []
  k_Rooms_init : PySem.W.keepIn K (.ref t.a_Rooms_init) = true
  f_Rooms_many : FunX K "many" "Rooms.many" s_Rooms_many t.a_Rooms_many t.d_Rooms_many
  b_Rooms_many : Binds K t.d_Rooms_many ["self"] []
  k_Rooms_many : PySem.W.keepIn K (.ref t.a_Rooms_many) = true
  f_Rooms_led : FunX K "led" "Rooms.led" s_Rooms_led t.a_Rooms_led t.d_Rooms_led
  b_Rooms_led : Binds K t.d_Rooms_led ["self", "room", "mark"] []
  k_Rooms_led : PySem.W.keepIn K (.ref t.a_Rooms_led) = true
  f_Rooms_walked : FunX K "walked" "Rooms.walked" s_Rooms_walked t.a_Rooms_walked t.d_Rooms_walked
  b_Rooms_walked : Binds K t.d_Rooms_walked ["self", "room", "row"] []
  k_Rooms_walked : PySem.W.keepIn K (.ref t.a_Rooms_walked) = true
  f__law_cell_at : FunX K "_law_cell_at" "_law_cell_at" s__law_cell_at t.a__law_cell_at t.d__law_cell_at
  b__law_cell_at : Binds K t.d__law_cell_at ["script", "k"] []
  g__law_cell_at : mg "_law_cell_at" = some (.ref t.a__law_cell_at)
  k__law_cell_at : PySem.W.keepIn K (.ref t.a__law_cell_at) = true
  f__law_marks : FunX K "_law_marks" "_law_marks" s__law_marks t.a__law_marks t.d__law_marks
  b__law_marks : Binds K t.d__law_marks ["cell"] []
  g__law_marks : mg "_law_marks" = some (.ref t.a__law_marks)
  k__law_marks : PySem.W.keepIn K (.ref t.a__law_marks) = true
  f__law_table : FunX K "_law_table" "_law_table" s__law_table t.a__law_table t.d__law_table
  b__law_table : Binds K t.d__law_table ["script", "at", "many", "marks"] []
  g__law_table : mg "_law_table" = some (.ref t.a__law_table)
  k__law_table : PySem.W.keepIn K (.ref t.a__law_table) = true
  f__law_odd : FunX K "_law_odd" "_law_odd" s__law_odd t.a__law_odd t.d__law_odd
  b__law_odd : Binds K t.d__law_odd ["marks"] []
  g__law_odd : mg "_law_odd" = some (.ref t.a__law_odd)
  k__law_odd : PySem.W.keepIn K (.ref t.a__law_odd) = true
  f__law_row : FunX K "_law_row" "_law_row" s__law_row t.a__law_row t.d__law_row
  b__law_row : Binds K t.d__law_row ["script", "marks"] []
  g__law_row : mg "_law_row" = some (.ref t.a__law_row)
  k__law_row : PySem.W.keepIn K (.ref t.a__law_row) = true
  f__law_asked : FunX K "_law_asked" "_law_asked" s__law_asked t.a__law_asked t.d__law_asked
  b__law_asked : Binds K t.d__law_asked ["rooms", "way", "room", "row"] []
  g__law_asked : mg "_law_asked" = some (.ref t.a__law_asked)
  k__law_asked : PySem.W.keepIn K (.ref t.a__law_asked) = true
  f__law_due : FunX K "_law_due" "_law_due" s__law_due t.a__law_due t.d__law_due
  b__law_due : Binds K t.d__law_due ["table", "marks", "room", "row"] []
  g__law_due : mg "_law_due" = some (.ref t.a__law_due)
  k__law_due : PySem.W.keepIn K (.ref t.a__law_due) = true
  f__law_same : FunX K "_law_same" "_law_same" s__law_same t.a__law_same t.d__law_same
  b__law_same : Binds K t.d__law_same ["told", "due"] []
  g__law_same : mg "_law_same" = some (.ref t.a__law_same)
  k__law_same : PySem.W.keepIn K (.ref t.a__law_same) = true
  f_law : FunX K "law" "law" s_law t.a_law t.d_law
  b_law : Binds K t.d_law ["script"] []
  g_law : mg "law" = some (.ref t.a_law)
  k_law : PySem.W.keepIn K (.ref t.a_law) = true
  n_ValueError : mg "ValueError" = none
  n_bool : mg "bool" = none
  n_int : mg "int" = none
  n_isinstance : mg "isinstance" = none
  n_len : mg "len" = none
  n_list : mg "list" = none
  n_min : mg "min" = none
  n_range : mg "range" = none
  n_tuple : mg "tuple" = none
  g_Rooms : mg "Rooms" = some (.ref t.c_Rooms)
  cl_Rooms : Cls K t.c_Rooms
  ci_Rooms : ClsI K t.c_Rooms
  mk_Rooms : Mk K t.c_Rooms t.a_Rooms_init
  fl_marks : FldOk K ⟨t.c, K⟩ fc_marks "marks"
  fl_ways : FldOk K ⟨t.c, K⟩ fc_ways "ways"
  g_BadMark : mg "BadMark" = some (.ref t.c_BadMark)
  ex_BadMark : ExCls K t.c_BadMark
  g_GrooveError : mg "GrooveError" = some (.ref t.c_GrooveError)
  g_NoRow : mg "NoRow" = some (.ref t.c_NoRow)
  g_Nothing : mg "Nothing" = some (.ref t.c_Nothing)
  xm_GrooveError : ∀ c ∈ (["BadMark"] : List String), ExCls K (t.c c) ∧ PySem.W.exmOne K (.ref (t.c c)) (.ref t.c_GrooveError) = some true
  ie_BadMark : IsiE K ⟨t.c, K⟩ (.ref (t.c "BadMark")) ie_BadMark
  ie_ValueError : IsiE K ⟨t.c, K⟩ (.ty "ValueError") ie_ValueError
  ie_NoRow : IsiE K ⟨t.c, K⟩ (.ref (t.c "NoRow")) ie_NoRow
  ie_Nothing : IsiE K ⟨t.c, K⟩ (.ref (t.c "Nothing")) ie_Nothing
  me_Rooms_led : Meth K t.c_Rooms (Str.ofString "led") t.a_Rooms_led
  me_Rooms_many : Meth K t.c_Rooms (Str.ofString "many") t.a_Rooms_many
  me_Rooms_walked : Meth K t.c_Rooms (Str.ofString "walked") t.a_Rooms_walked
  isi_bool : IsiOk K ⟨t.c, K⟩ (.type "bool") it_bool
  isi_tuple : IsiOk K ⟨t.c, K⟩ (.type "tuple") it_tuple
end K12

namespace K12
open PySem PySem.Spec PyProof.Rows L2 DL
section
variable {P : Program} {w : World} {K : PySem.W.Frag} {mg : Str → Option Value} {base : Heap} {t : Adr}
theorem ok_is_mark (T : Txt K mg t) : FnOk P w K mg base CX0 1 t.a_is_mark t.d_is_mark ["marks", "text"] (spD ⟨t.c, K⟩ 2 m_is_mark) := by
  refine fn_DB (φ := f_is_mark) T.f_is_mark sc_is_mark (by conv => lhs; whnf) (by conv => lhs; whnf) (fun cdv A outer s H E hr => ?_) rfl rfl
  refine ⟨_, (pss_one (ps_ret (pe_and (pe_cmpR (op_eqD (cA := ⟨t.c, K⟩) (hr.units)) (pe_callB (k_len (K := K)) (by rfl) T.n_len boot_len (pa_cons (pv 1) pa_nil)) pe_int (nomark _)) (pe_one (pe_cmpR (k_inX (K := K)) (pv 1) (pv 0) (by rfl)))))), [], ?_⟩
  unfold f_is_mark
  exact (vs_ret (ve_and (ve_op ok_eq (ve_cb cb_len (va_cons (ve_var 1 (by rfl)) va_nil)) (ve_c (d := (.int 1)) (by rfl) (by rfl))) (ve_op ok_in (ve_var 1 (by rfl)) (ve_var 0 (by rfl)))))
theorem ok_Rooms_init (T : Txt K mg t) : FnOk P w K mg base CX0 1 t.a_Rooms_init t.d_Rooms_init ["self", "marks", "ways"] (spI ⟨t.c, K⟩ 3 m_Rooms_init) := by
  refine fn_IB (φ := f_Rooms_init) T.f_Rooms_init sc_Rooms_init (by conv => lhs; whnf) (by conv => lhs; whnf) (fun cdv A outer s H E self hr => ?_) rfl rfl
  refine ⟨_, (pss_cons (ps_fld (pv 0) (pv 1) (by rfl))
  (pss_one (ps_fld (pv 0) (pe_callTy (k_tuple (K := K)) (by rfl) T.n_tuple boot_tuple (pa_cons (pe_comp (by rfl) (CompSc.mk' (tn := ["own"]) (cn := []) (js := []) (osc := defScope s_Rooms_init) (oN := ["self", "marks", "ways"]) (by rfl) (by rfl) (by rfl) (by decide +kernel)) (k_pi (K := K) (pv 2)) (fun C s₂ H₂ fp => pg_name (i := 0) (show List.Nodup (["own"] : List Str) by decide +kernel) (by rfl) (by first | exact Or.inl rfl | exact Or.inr rfl)) (fun C s₂ H₂ fp => pts_nil) (fun C s₂ H₂ fp => (pe_callTy (k_tuple (K := K)) (by rfl) T.n_tuple boot_tuple (pa_cons (pv 0) pa_nil)))) pa_nil)) (by rfl)))), ?_⟩
  unfold f_Rooms_init
  exact (vs_seq (vs_fld 0 (by rfl) T.fl_marks (ve_var 1 (by rfl)))
  (vs_fld 0 (by rfl) T.fl_ways (ve_tuple (va_cons (VF.cl (vf_comp (by rfl) (vi_any (ve_var 2 (by rfl))) (vg_name 0 (by rfl) (by rfl)) vt_yes (ve_tuple (va_cons (ve_var 0 (by rfl)) va_nil)))) va_nil))))
theorem ok_Rooms_many (T : Txt K mg t) : FnOk P w K mg base CX0 1 t.a_Rooms_many t.d_Rooms_many ["self"] (spD ⟨t.c, K⟩ 1 m_Rooms_many) := by
  refine fn_DB (φ := f_Rooms_many) T.f_Rooms_many sc_Rooms_many (by conv => lhs; whnf) (by conv => lhs; whnf) (fun cdv A outer s H E hr => ?_) rfl rfl
  refine ⟨_, (pss_one (ps_ret (pe_callB (k_len (K := K)) (by rfl) T.n_len boot_len (pa_cons (k_fld (K := K) (pv 0)) pa_nil)))), [], ?_⟩
  unfold f_Rooms_many
  exact (vs_ret (ve_cb cb_len (va_cons (ve_fld T.fl_ways (ve_var 0 (by rfl))) va_nil)))
theorem ok_Rooms_led (T : Txt K mg t) : FnOk P w K mg base (CX1 P w) 2 t.a_Rooms_led t.d_Rooms_led ["self", "room", "mark"] (spX ⟨t.c, K⟩ 3 m_Rooms_led x_Rooms_led) := by
  have G_is_mark : FnOk P w K mg base CX0 1 t.a_is_mark t.d_is_mark ["marks", "text"] (spD ⟨t.c, K⟩ 2 m_is_mark) := (ok_is_mark T).mono (by decide)
  refine fn_XB (φ := f_Rooms_led) (χ := g_Rooms_led) T.f_Rooms_led sc_Rooms_led (by conv => lhs; whnf) (by conv => lhs; whnf) (fun cdv A outer s H E hr => ?_) rfl rfl rfl
  refine ⟨_, (pss_cons (ps_if (pt_not (pt_val (pe_call (G_is_mark) hr (by rfl) T.g_is_mark T.k_is_mark T.b_is_mark .nil pass0 (pa_cons (k_fld (K := K) (pv 0)) (pa_cons (pv 2) pa_nil))))) (pss_one (ps_raise (by rfl) T.g_BadMark (T.ex_BadMark).ex raise_leaves (pa_cons (pe_join (.cons (pe_fmtR (pv 2)) (.cons (pe_lit [32, 105, 115, 32, 110, 111, 32, 109, 97, 114, 107] (by decide +kernel)) .nil))) pa_nil))) pss_nil)
  (pss_one (ps_ret (pe_ix (k_ix (K := K)) (pe_ix (k_ix (K := K)) (k_fld (K := K) (pv 0)) (pv 1) (fun _ _ => rfl)) (k_bm (K := K) PySem.F.plainAttrs_str PySem.F.slot_str_index PySem.F.type_str_index mt_index (k_fld (K := K) (pv 0)) (pa_cons (pv 2) pa_nil)) (fun _ _ => rfl))))), [], ?_, ?_⟩
  · unfold f_Rooms_led
    exact (vs_seq (vs_if (vt_not (vt_b (ve_call [] (by rfl) (va_cons (ve_fld T.fl_marks (ve_var 0 (by rfl))) (va_cons (ve_var 2 (by rfl)) va_nil))))) vs_never vs_next)
  (vs_ret (ve_op ok_ix (ve_op ok_ix (ve_fld T.fl_ways (ve_var 0 (by rfl))) (ve_var 1 (by rfl))) (ve_bm bm_index (ve_fld T.fl_marks (ve_var 0 (by rfl))) (va_cons (ve_var 2 (by rfl)) va_nil)))))
  · unfold g_Rooms_led
    exact (vx_seq (owB := []) (owC := []) (vx_if (vt_not (vt_b (ve_call [] (by rfl) (va_cons (ve_fld T.fl_marks (ve_var 0 (by rfl))) (va_cons (ve_var 2 (by rfl)) va_nil))))) (vx_raise "BadMark" (by rfl) (va_cons (ve_join (.cons (ve_fmtR (ve_var 2 (by rfl))) (.cons (ve_c (d := (.str [32, 105, 115, 32, 110, 111, 32, 109, 97, 114, 107])) (by rfl) (by rfl)) .nil))) va_nil)) vx_none) (vs_if (vt_not (vt_b (ve_call [] (by rfl) (va_cons (ve_fld T.fl_marks (ve_var 0 (by rfl))) (va_cons (ve_var 2 (by rfl)) va_nil))))) vs_never vs_next)
  vx_none)
theorem ok_Rooms_walked (T : Txt K mg t) : FnOk P w K mg base (CX1 P w) 3 t.a_Rooms_walked t.d_Rooms_walked ["self", "room", "row"] (spX ⟨t.c, K⟩ 3 m_Rooms_walked x_Rooms_walked) := by
  have G_Rooms_led : FnOk P w K mg base (CX1 P w) 2 t.a_Rooms_led t.d_Rooms_led ["self", "room", "mark"] (spX ⟨t.c, K⟩ 3 m_Rooms_led x_Rooms_led) := (ok_Rooms_led T).mono (by decide)
  refine fn_XB (φ := f_Rooms_walked) (χ := g_Rooms_walked) T.f_Rooms_walked sc_Rooms_walked (by conv => lhs; whnf) (by conv => lhs; whnf) (fun cdv A outer s H E hr => ?_) rfl rfl rfl
  refine ⟨_, (pss_cons (ps_for PassesOwn.leaving (by rfl) (k_pi (K := K) (pv 2)) (pg_name (i := 3) (show List.Nodup (["self", "room", "row", "mark"] : List Str) by decide +kernel) (by rfl) (by first | exact Or.inl rfl | exact Or.inr rfl)) (pss_cons (ps_set (i := 1) (show List.Nodup (["self", "room", "row", "mark"] : List Str) by decide +kernel) (by rfl) (by first | exact Or.inl rfl | exact Or.inr rfl) (pe_methX (cA := ⟨t.c, K⟩) (tab := tab_led) (m := "led") ⟨⟨t.a_Rooms_led, t.d_Rooms_led, ["self", "room", "mark"], T.cl_Rooms, T.me_Rooms_led, G_Rooms_led, T.b_Rooms_led⟩, trivial⟩ hr pass_leaves (pv 0) (pa_cons (pv 1) (pa_cons (pv 3) pa_nil))))
  (pss_one (ps_if (pt_cmp (pc_isN (pv 1))) (pss_one (ps_ret pe_non)) pss_nil))))
  (pss_one (ps_ret (pv 1)))), [], ?_, ?_⟩
  · unfold f_Rooms_walked
    exact (vs_seq (vs_for (vi_any (ve_var 2 (by rfl))) (vg_name 3 (by rfl) (by rfl)) (vs_seq (show VS _ _ [] _ _ _ _ from (vs_asg 1 (ve_methX (ve_var 0 (by rfl)) (va_cons (ve_var 1 (by rfl)) (va_cons (ve_var 3 (by rfl)) va_nil))) (by rfl) (by rfl) (by rfl) (by rfl)))
  (vs_if (vt_b (ve_isN (ve_var 1 (by rfl)))) (vs_ret (ve_c (d := .non) (by rfl) (by rfl))) vs_next)))
  (vs_ret (ve_var 1 (by rfl))))
  · unfold g_Rooms_walked
    exact (vx_seq (owB := []) (owC := []) (vx_for (vi_any (ve_var 2 (by rfl))) (vg_name 3 (by rfl) (by rfl)) (vs_seq (show VS _ _ [] _ _ _ _ from (vs_asg 1 (ve_methX (ve_var 0 (by rfl)) (va_cons (ve_var 1 (by rfl)) (va_cons (ve_var 3 (by rfl)) va_nil))) (by rfl) (by rfl) (by rfl) (by rfl)))
  (vs_if (vt_b (ve_isN (ve_var 1 (by rfl)))) (vs_ret (ve_c (d := .non) (by rfl) (by rfl))) vs_next)) (vx_seq (owB := []) (owC := []) (VXs.vx (vxs_asg (vxe_meth (ve_var 0 (by rfl)) (va_cons (ve_var 1 (by rfl)) (va_cons (ve_var 3 (by rfl)) va_nil))))) (show VS _ _ [] _ _ _ _ from (vs_asg 1 (ve_methX (ve_var 0 (by rfl)) (va_cons (ve_var 1 (by rfl)) (va_cons (ve_var 3 (by rfl)) va_nil))) (by rfl) (by rfl) (by rfl) (by rfl)))
  vx_none)) (vs_for (vi_any (ve_var 2 (by rfl))) (vg_name 3 (by rfl) (by rfl)) (vs_seq (show VS _ _ [] _ _ _ _ from (vs_asg 1 (ve_methX (ve_var 0 (by rfl)) (va_cons (ve_var 1 (by rfl)) (va_cons (ve_var 3 (by rfl)) va_nil))) (by rfl) (by rfl) (by rfl) (by rfl)))
  (vs_if (vt_b (ve_isN (ve_var 1 (by rfl)))) (vs_ret (ve_c (d := .non) (by rfl) (by rfl))) vs_next)))
  vx_none)
theorem ok__law_cell_at (T : Txt K mg t) : FnOk P w K mg base CX0 1 t.a__law_cell_at t.d__law_cell_at ["script", "k"] (spD ⟨t.c, K⟩ 2 m__law_cell_at) := by
  refine fn_DB (φ := f__law_cell_at) T.f__law_cell_at sc__law_cell_at (by conv => lhs; whnf) (by conv => lhs; whnf) (fun cdv A outer s H E hr => ?_) rfl rfl
  refine ⟨_, (pss_cons (ps_if (pt_cmpR op_lt (pv 1) (pe_callB (k_len (K := K)) (by rfl) T.n_len boot_len (pa_cons (pv 0) pa_nil)) (nomark _)) (pss_one (ps_ret (pe_ix (k_ix (K := K)) (pv 0) (pv 1) (fun _ _ => rfl)))) pss_nil)
  (pss_one (ps_ret pe_int))), [], ?_⟩
  unfold f__law_cell_at
  exact (vs_seq (vs_if (vt_t (ve_op ok_cmp (ve_var 1 (by rfl)) (ve_cb cb_len (va_cons (ve_var 0 (by rfl)) va_nil)))) (vs_ret (ve_op ok_ix (ve_var 0 (by rfl)) (ve_var 1 (by rfl)))) vs_next)
  (vs_ret (ve_c (d := (.int 0)) (by rfl) (by rfl))))
theorem ok__law_marks (T : Txt K mg t) : FnOk P w K mg base CX0 1 t.a__law_marks t.d__law_marks ["cell"] (spD ⟨t.c, K⟩ 1 m__law_marks) := by
  refine fn_DB (φ := f__law_marks) T.f__law_marks sc__law_marks (by conv => lhs; whnf) (by conv => lhs; whnf) (fun cdv A outer s H E hr => ?_) rfl rfl
  refine ⟨_, (pss_cons (ps_set (i := 1) (show List.Nodup (["cell", "some"] : List Str) by decide +kernel) (by rfl) (by first | exact Or.inl rfl | exact Or.inr rfl) (pe_lst (pa_cons (pe_lit [48, 49] (by decide +kernel)) (pa_cons (pe_lit [97, 98] (by decide +kernel)) (pa_cons (pe_lit [120, 121, 122] (by decide +kernel)) (pa_cons (pe_lit [48, 97, 49, 98] (by decide +kernel)) (pa_cons (pe_lit [98, 97] (by decide +kernel)) (pa_cons (pe_lit [57, 122, 56] (by decide +kernel)) pa_nil))))))))
  (pss_one (ps_ret (pe_ix (k_ix (K := K)) (pv 1) (pe_op op_mod (pv 0) (pe_callB (k_len (K := K)) (by rfl) T.n_len boot_len (pa_cons (pv 1) pa_nil))) (fun _ _ => rfl))))), [], ?_⟩
  unfold f__law_marks
  exact (vs_seq (show VS _ _ [] _ _ _ _ from (vs_asg 1 (VF.cl (vf_lst (va_cons (ve_c (d := (.str [48, 49])) (by rfl) (by rfl)) (va_cons (ve_c (d := (.str [97, 98])) (by rfl) (by rfl)) (va_cons (ve_c (d := (.str [120, 121, 122])) (by rfl) (by rfl)) (va_cons (ve_c (d := (.str [48, 97, 49, 98])) (by rfl) (by rfl)) (va_cons (ve_c (d := (.str [98, 97])) (by rfl) (by rfl)) (va_cons (ve_c (d := (.str [57, 122, 56])) (by rfl) (by rfl)) va_nil)))))))) (by rfl) (by rfl) (by rfl) (by rfl)))
  (vs_ret (ve_op ok_ix (ve_var 1 (by rfl)) (ve_op ok_mod (ve_var 0 (by rfl)) (ve_cb cb_len (va_cons (ve_var 1 (by rfl)) va_nil))))))
theorem ok__law_table (T : Txt K mg t) : FnOk P w K mg base CX0 2 t.a__law_table t.d__law_table ["script", "at", "many", "marks"] (spD ⟨t.c, K⟩ 4 m__law_table) := by
  have G__law_cell_at : FnOk P w K mg base CX0 1 t.a__law_cell_at t.d__law_cell_at ["script", "k"] (spD ⟨t.c, K⟩ 2 m__law_cell_at) := (ok__law_cell_at T).mono (by decide)
  refine fn_DB (φ := f__law_table) T.f__law_table sc__law_table (by conv => lhs; whnf) (by conv => lhs; whnf) (fun cdv A outer s H E hr => ?_) rfl rfl
  refine ⟨_, (pss_cons (ps_set (i := 4) (show List.Nodup (["script", "at", "many", "marks", "table", "room", "row", "k", "cell"] : List Str) by decide +kernel) (by rfl) (by first | exact Or.inl rfl | exact Or.inr rfl) (pe_lst pa_nil))
  (pss_cons ((ps_for PassesOwn.never (by rfl) (pi_range1 (by rfl) T.n_range (pa_cons (pv 2) pa_nil)) (pg_name (i := 5) (show List.Nodup (["script", "at", "many", "marks", "table", "room", "row", "k", "cell"] : List Str) by decide +kernel) (by rfl) (by first | exact Or.inl rfl | exact Or.inr rfl)) (pss_cons (ps_set (i := 6) (show List.Nodup (["script", "at", "many", "marks", "table", "room", "row", "k", "cell"] : List Str) by decide +kernel) (by rfl) (by first | exact Or.inl rfl | exact Or.inr rfl) (pe_lst pa_nil))
  (pss_cons ((ps_for PassesOwn.never (by rfl) (pi_range1 (by rfl) T.n_range (pa_cons (pe_callB (k_len (K := K)) (by rfl) T.n_len boot_len (pa_cons (pv 3) pa_nil)) pa_nil)) (pg_name (i := 7) (show List.Nodup (["script", "at", "many", "marks", "table", "room", "row", "k", "cell"] : List Str) by decide +kernel) (by rfl) (by first | exact Or.inl rfl | exact Or.inr rfl)) (pss_cons (ps_set (i := 8) (show List.Nodup (["script", "at", "many", "marks", "table", "room", "row", "k", "cell"] : List Str) by decide +kernel) (by rfl) (by first | exact Or.inl rfl | exact Or.inr rfl) (pe_call (G__law_cell_at) hr (by rfl) T.g__law_cell_at T.k__law_cell_at T.b__law_cell_at .nil pass0 (pa_cons (pv 0) (pa_cons (pe_op (k_addZ (K := K)) (pe_op (k_addZ (K := K)) (pv 1) (pe_op (k_mulZ (K := K)) (pv 5) (pe_callB (k_len (K := K)) (by rfl) T.n_len boot_len (pa_cons (pv 3) pa_nil)))) (pv 7)) pa_nil))))
  (pss_one (ps_expr (k_bm (K := K) PySem.F.plainAttrs_list PySem.F.slot_list_append PySem.F.type_list_append mt_append (pv 6) (pa_cons (pe_ix (k_ix (K := K)) (pe_lst (pa_cons (pe_op op_mod (pv 8) (pv 2)) (pa_cons pe_non pa_nil))) (pe_callTy call_intX (by rfl) T.n_int boot_int (pa_cons (pe_cmpR op_gt (pe_op op_mod (pe_op op_fdiv (pv 8) (pv 2)) pe_int) pe_int (nomark _)) pa_nil)) (fun _ _ => rfl)) pa_nil)))))))
  (pss_one (ps_expr (k_bm (K := K) PySem.F.plainAttrs_list PySem.F.slot_list_append PySem.F.type_list_append mt_append (pv 4) (pa_cons (pv 6) pa_nil))))))))
  (pss_one (ps_ret (pv 4))))), [], ?_⟩
  unfold f__law_table
  exact (vs_seq (show VS _ _ [4] _ _ _ _ from (vs_asgO 4 (vf_lst va_nil) (by rfl) (by rfl) (by rfl) (by rfl)))
  (vs_seq (vs_for (vi_rng1 (va_cons (ve_var 2 (by rfl)) va_nil) len1) (vg_name 5 (by rfl) (by rfl)) (vs_seq (show VS _ _ [4, 6] _ _ _ _ from (vs_asgO 6 (vf_lst va_nil) (by rfl) (by rfl) (by rfl) (by rfl)))
  (vs_seq (vs_for (vi_rng1 (va_cons (ve_cb cb_len (va_cons (ve_var 3 (by rfl)) va_nil)) va_nil) len1) (vg_name 7 (by rfl) (by rfl)) (vs_seq (show VS _ _ [4, 6] _ _ _ _ from (vs_asg 8 (ve_call [] (by rfl) (va_cons (ve_var 0 (by rfl)) (va_cons (ve_op ok_addX (ve_op ok_addX (ve_var 1 (by rfl)) (ve_op ok_mulX (ve_var 5 (by rfl)) (ve_cb cb_len (va_cons (ve_var 3 (by rfl)) va_nil)))) (ve_var 7 (by rfl))) va_nil))) (by rfl) (by rfl) (by rfl) (by rfl)))
  (vs_app 6 (by rfl) (ve_op ok_ix (VF.cl (vf_lst (va_cons (ve_op ok_mod (ve_var 8 (by rfl)) (ve_var 2 (by rfl))) (va_cons (ve_c (d := .non) (by rfl) (by rfl)) va_nil)))) (ve_cb cb_int (va_cons (ve_op ok_cmp (ve_op ok_mod (ve_op ok_fdiv (ve_var 8 (by rfl)) (ve_var 2 (by rfl))) (ve_c (d := (.int 5)) (by rfl) (by rfl))) (ve_c (d := (.int 3)) (by rfl) (by rfl))) va_nil))))))
  (VS.frz (ow1 := [4]) 6 (vs_app 4 (by rfl) (ve_var 6 (by rfl))) (by rfl) (by rfl) (by rfl) (by rfl)))))
  (VS.frz (ow1 := []) 4 (vs_ret (ve_var 4 (by rfl))) (by rfl) (by rfl) (by rfl) (by rfl))))
theorem ok__law_odd (T : Txt K mg t) : FnOk P w K mg base CX0 1 t.a__law_odd t.d__law_odd ["marks"] (spD ⟨t.c, K⟩ 1 m__law_odd) := by
  refine fn_DB (φ := f__law_odd) T.f__law_odd sc__law_odd (by conv => lhs; whnf) (by conv => lhs; whnf) (fun cdv A outer s H E hr => ?_) rfl rfl
  refine ⟨_, (pss_cons (ps_set (i := 1) (show List.Nodup (["marks", "some"] : List Str) by decide +kernel) (by rfl) (by first | exact Or.inl rfl | exact Or.inr rfl) (pe_lit [97, 98, 99, 100, 101, 102, 103, 104, 105, 106, 107, 108, 109, 110, 111, 112, 113, 114, 115, 116, 117, 118, 119, 120, 121, 122, 48, 49, 50, 51, 52, 53, 54, 55, 56, 57] (by decide +kernel)))
  (pss_one (ps_ret (pe_op (k_addZ (K := K)) (pe_lit [45, 81, 33, 126, 32] (by decide +kernel)) (k_bm (K := K) PySem.F.plainAttrs_str PySem.F.slot_str_join PySem.F.type_str_join (mt_join (K := K)) (pe_lit [] (by decide +kernel)) (pa_cons (pe_comp (by rfl) (CompSc.mk' (tn := ["sign"]) (cn := ["marks"]) (js := [0]) (osc := defScope s__law_odd) (oN := ["marks", "some"]) (by rfl) (by rfl) (by rfl) (by decide +kernel)) (k_pi (K := K) (pv 1)) (fun C s₂ H₂ fp => pg_name (i := 0) (show List.Nodup (["sign", "marks"] : List Str) by decide +kernel) (by rfl) (by first | exact Or.inl rfl | exact Or.inr rfl)) (fun C s₂ H₂ fp => (pts_one (pt_cmpR (k_notInX (K := K)) (pv 0) (pv 1) (by rfl)))) (fun C s₂ H₂ fp => (pv 0))) pa_nil)))))), [], ?_⟩
  unfold f__law_odd
  exact (vs_seq (show VS _ _ [] _ _ _ _ from (vs_asg 1 (ve_c (d := (.str [97, 98, 99, 100, 101, 102, 103, 104, 105, 106, 107, 108, 109, 110, 111, 112, 113, 114, 115, 116, 117, 118, 119, 120, 121, 122, 48, 49, 50, 51, 52, 53, 54, 55, 56, 57])) (by rfl) (by rfl)) (by rfl) (by rfl) (by rfl) (by rfl)))
  (vs_ret (ve_op ok_addX (ve_c (d := (.str [45, 81, 33, 126, 32])) (by rfl) (by rfl)) (ve_bm bm_join (ve_c (d := (.str [])) (by rfl) (by rfl)) (va_cons (VF.cl (vf_comp (by rfl) (vi_any (ve_var 1 (by rfl))) (vg_name 0 (by rfl) (by rfl)) (vt_t (ve_op ok_in (ve_var 0 (by rfl)) (ve_var 1 (by rfl)))) (ve_var 0 (by rfl)))) va_nil)))))
theorem ok__law_row (T : Txt K mg t) : FnOk P w K mg base CX0 2 t.a__law_row t.d__law_row ["script", "marks"] (spD ⟨t.c, K⟩ 2 m__law_row) := by
  have G__law_odd : FnOk P w K mg base CX0 1 t.a__law_odd t.d__law_odd ["marks"] (spD ⟨t.c, K⟩ 1 m__law_odd) := (ok__law_odd T).mono (by decide)
  refine fn_DB (φ := f__law_row) T.f__law_row sc__law_row (by conv => lhs; whnf) (by conv => lhs; whnf) (fun cdv A outer s H E hr => ?_) rfl rfl
  refine ⟨_, (pss_cons (ps_set (i := 2) (show List.Nodup (["script", "marks", "odd", "row", "cell"] : List Str) by decide +kernel) (by rfl) (by first | exact Or.inl rfl | exact Or.inr rfl) (pe_call (G__law_odd) hr (by rfl) T.g__law_odd T.k__law_odd T.b__law_odd .nil pass0 (pa_cons (pv 1) pa_nil)))
  (pss_cons (ps_set (i := 3) (show List.Nodup (["script", "marks", "odd", "row", "cell"] : List Str) by decide +kernel) (by rfl) (by first | exact Or.inl rfl | exact Or.inr rfl) (pe_lst pa_nil))
  (pss_cons ((ps_for PassesOwn.never (by rfl) (k_pi (K := K) (pv 0)) (pg_name (i := 4) (show List.Nodup (["script", "marks", "odd", "row", "cell"] : List Str) by decide +kernel) (by rfl) (by first | exact Or.inl rfl | exact Or.inr rfl)) (pss_one (ps_if (pt_cmpR (op_eqD (cA := ⟨t.c, K⟩) (hr.units)) (pe_op op_mod (pe_op op_fdiv (pv 4) pe_int) pe_int) pe_int (nomark _)) (pss_one (ps_expr (k_bm (K := K) PySem.F.plainAttrs_list PySem.F.slot_list_append PySem.F.type_list_append mt_append (pv 3) (pa_cons (pe_ix (k_ix (K := K)) (pv 2) (pe_op op_mod (pv 4) (pe_callB (k_len (K := K)) (by rfl) T.n_len boot_len (pa_cons (pv 2) pa_nil))) (fun _ _ => rfl)) pa_nil)))) (pss_one (ps_expr (k_bm (K := K) PySem.F.plainAttrs_list PySem.F.slot_list_append PySem.F.type_list_append mt_append (pv 3) (pa_cons (pe_ix (k_ix (K := K)) (pv 1) (pe_op op_mod (pv 4) (pe_callB (k_len (K := K)) (by rfl) T.n_len boot_len (pa_cons (pv 1) pa_nil))) (fun _ _ => rfl)) pa_nil))))))))
  (pss_one (ps_ret (pv 3)))))), [], ?_⟩
  unfold f__law_row
  exact (vs_seq (show VS _ _ [] _ _ _ _ from (vs_asg 2 (ve_call [] (by rfl) (va_cons (ve_var 1 (by rfl)) va_nil)) (by rfl) (by rfl) (by rfl) (by rfl)))
  (vs_seq (show VS _ _ [3] _ _ _ _ from (vs_asgO 3 (vf_lst va_nil) (by rfl) (by rfl) (by rfl) (by rfl)))
  (vs_seq (vs_for (vi_any (ve_var 0 (by rfl))) (vg_name 4 (by rfl) (by rfl)) (vs_if (vt_t (ve_op ok_eq (ve_op ok_mod (ve_op ok_fdiv (ve_var 4 (by rfl)) (ve_c (d := (.int 5)) (by rfl) (by rfl))) (ve_c (d := (.int 7)) (by rfl) (by rfl))) (ve_c (d := (.int 3)) (by rfl) (by rfl)))) (vs_app 3 (by rfl) (ve_op ok_ix (ve_var 2 (by rfl)) (ve_op ok_mod (ve_var 4 (by rfl)) (ve_cb cb_len (va_cons (ve_var 2 (by rfl)) va_nil))))) (vs_app 3 (by rfl) (ve_op ok_ix (ve_var 1 (by rfl)) (ve_op ok_mod (ve_var 4 (by rfl)) (ve_cb cb_len (va_cons (ve_var 1 (by rfl)) va_nil)))))))
  (VS.frz (ow1 := []) 3 (vs_ret (ve_var 3 (by rfl))) (by rfl) (by rfl) (by rfl) (by rfl)))))
theorem ok__law_asked (T : Txt K mg t) : FnOk P w K mg base CX0 4 t.a__law_asked t.d__law_asked ["rooms", "way", "room", "row"] (spD ⟨t.c, K⟩ 4 m__law_asked) := by
  have G_Rooms_led : FnOk P w K mg base (CX1 P w) 3 t.a_Rooms_led t.d_Rooms_led ["self", "room", "mark"] (spX ⟨t.c, K⟩ 3 m_Rooms_led x_Rooms_led) := (ok_Rooms_led T).mono (by decide)
  have G_Rooms_walked : FnOk P w K mg base (CX1 P w) 3 t.a_Rooms_walked t.d_Rooms_walked ["self", "room", "row"] (spX ⟨t.c, K⟩ 3 m_Rooms_walked x_Rooms_walked) := (ok_Rooms_walked T).mono (by decide)
  refine fn_DB (φ := f__law_asked) T.f__law_asked sc__law_asked (by conv => lhs; whnf) (by conv => lhs; whnf) (fun cdv A outer s H E hr => ?_) rfl rfl
  refine ⟨_, (pss_cons (ps_set (i := 4) (show List.Nodup (["rooms", "way", "room", "row", "found", "refused", "e"] : List Str) by decide +kernel) (by rfl) (by first | exact Or.inl rfl | exact Or.inr rfl) pe_non)
  (pss_cons (ps_set (i := 5) (show List.Nodup (["rooms", "way", "room", "row", "found", "refused", "e"] : List Str) by decide +kernel) (by rfl) (by first | exact Or.inl rfl | exact Or.inr rfl) pe_non)
  (pss_cons (ps_try (i := 6) (n := "e") (ts := fun C ea => tAsg (tLst (tIsis K 6 C ea [(.ref (t.c "BadMark")), (.ty "ValueError"), (.ref (t.c "NoRow")), (.ref (t.c "Nothing"))])) (gName 5)) (show List.Nodup (["rooms", "way", "room", "row", "found", "refused", "e"] : List Str) by decide +kernel) (by rfl) (by rfl) ⟨rfl, rfl⟩ (by rfl) T.g_GrooveError (fun E => (psx_if (fun _ _ z => z) (pt_cmpR (op_eqD (cA := ⟨t.c, K⟩) (hr.units)) (pv 1) pe_int (nomark _)) (psx_set (i := 4) (show List.Nodup (["rooms", "way", "room", "row", "found", "refused", "e"] : List Str) by decide +kernel) (by rfl) (by first | exact Or.inl rfl | exact Or.inr rfl) (pex_meth (cA := ⟨t.c, K⟩) (tab := tab_led) (m := "led") ⟨⟨t.a_Rooms_led, t.d_Rooms_led, ["self", "room", "mark"], T.cl_Rooms, T.me_Rooms_led, G_Rooms_led, T.b_Rooms_led⟩, trivial⟩ hr (fun _ _ z => z) (pv 0) (pa_cons (pv 2) (pa_cons (pv 3) pa_nil)))) (psx_set (i := 4) (show List.Nodup (["rooms", "way", "room", "row", "found", "refused", "e"] : List Str) by decide +kernel) (by rfl) (by first | exact Or.inl rfl | exact Or.inr rfl) (pex_meth (cA := ⟨t.c, K⟩) (tab := tab_walked) (m := "walked") ⟨⟨t.a_Rooms_walked, t.d_Rooms_walked, ["self", "room", "row"], T.cl_Rooms, T.me_Rooms_walked, G_Rooms_walked, T.b_Rooms_walked⟩, trivial⟩ hr (fun _ _ z => z) (pv 0) (pa_cons (pv 2) (pa_cons (pv 3) pa_nil)))))) (fun C ea TC => pss_one (ps_set (i := 5) (show List.Nodup (["rooms", "way", "room", "row", "found", "refused", "e"] : List Str) by decide +kernel) (by rfl) (by first | exact Or.inl rfl | exact Or.inr rfl) (pe_lst (pa_cons (pe_callB (k_isiE (K := K) TC) (by rfl) T.n_isinstance boot_isinstance (pa_cons (pv 6) (pa_cons (pe_glob (v := .ref (t.c "BadMark")) (by rfl) T.g_BadMark (by rfl)) pa_nil))) (pa_cons (pe_callB (k_isiE (K := K) TC) (by rfl) T.n_isinstance boot_isinstance (pa_cons (pv 6) (pa_cons (pe_bltn (v := .ty "ValueError") (by rfl) T.n_ValueError PyProof.Rows.Boot.«ValueError» rfl) pa_nil))) (pa_cons (pe_callB (k_isiE (K := K) TC) (by rfl) T.n_isinstance boot_isinstance (pa_cons (pv 6) (pa_cons (pe_glob (v := .ref (t.c "NoRow")) (by rfl) T.g_NoRow (by rfl)) pa_nil))) (pa_cons (pe_callB (k_isiE (K := K) TC) (by rfl) T.n_isinstance boot_isinstance (pa_cons (pv 6) (pa_cons (pe_glob (v := .ref (t.c "Nothing")) (by rfl) T.g_Nothing (by rfl)) pa_nil))) pa_nil))))))))
  (pss_one (ps_ret (pe_tup (pa_cons (pv 4) (pa_cons (pv 5) pa_nil)))))))), [], ?_⟩
  unfold f__law_asked
  exact (vs_seq (show VS _ _ [] _ _ _ _ from (vs_asg 4 (ve_c (d := .non) (by rfl) (by rfl)) (by rfl) (by rfl) (by rfl) (by rfl)))
  (vs_seq (show VS _ _ [] _ _ _ _ from (vs_asg 5 (ve_c (d := .non) (by rfl) (by rfl)) (by rfl) (by rfl) (by rfl) (by rfl)))
  (vs_seq (vs_try (vs := [(.ref (t.c "BadMark")), (.ty "ValueError"), (.ref (t.c "NoRow")), (.ref (t.c "Nothing"))]) ["BadMark"] 6 5 (by rfl) (by rfl) (by rfl) (by rfl) T.xm_GrooveError (.cons T.ie_BadMark (.cons T.ie_ValueError (.cons T.ie_NoRow (.cons T.ie_Nothing .nil)))) (fun E => (vs_if (vt_t (ve_op ok_eq (ve_var 1 (by rfl)) (ve_c (d := (.int 0)) (by rfl) (by rfl)))) (show VS _ _ [] _ _ _ _ from (vs_asg 4 (ve_methX (ve_var 0 (by rfl)) (va_cons (ve_var 2 (by rfl)) (va_cons (ve_var 3 (by rfl)) va_nil))) (by rfl) (by rfl) (by rfl) (by rfl))) (show VS _ _ [] _ _ _ _ from (vs_asg 4 (ve_methX (ve_var 0 (by rfl)) (va_cons (ve_var 2 (by rfl)) (va_cons (ve_var 3 (by rfl)) va_nil))) (by rfl) (by rfl) (by rfl) (by rfl))))) (fun E => (vxs_if (vt_t (ve_op ok_eq (ve_var 1 (by rfl)) (ve_c (d := (.int 0)) (by rfl) (by rfl)))) (vxs_asg (vxe_meth (ve_var 0 (by rfl)) (va_cons (ve_var 2 (by rfl)) (va_cons (ve_var 3 (by rfl)) va_nil)))) (vxs_asg (vxe_meth (ve_var 0 (by rfl)) (va_cons (ve_var 2 (by rfl)) (va_cons (ve_var 3 (by rfl)) va_nil)))))))
  (vs_ret (ve_tup (va_cons (ve_var 4 (by rfl)) (va_cons (ve_var 5 (by rfl)) va_nil)))))))
theorem ok__law_due (T : Txt K mg t) : FnOk P w K mg base CX0 1 t.a__law_due t.d__law_due ["table", "marks", "room", "row"] (spD ⟨t.c, K⟩ 4 m__law_due) := by
  refine fn_DB (φ := f__law_due) T.f__law_due sc__law_due (by conv => lhs; whnf) (by conv => lhs; whnf) (fun cdv A outer s H E hr => ?_) rfl rfl
  refine ⟨_, (pss_cons ((ps_for PassesOwn.never (by rfl) (k_pi (K := K) (pv 3)) (pg_name (i := 4) (show List.Nodup (["table", "marks", "room", "row", "sign"] : List Str) by decide +kernel) (by rfl) (by first | exact Or.inl rfl | exact Or.inr rfl)) (pss_cons (ps_if (PW.pt (pw_or (pt_cmpR (op_neD (cA := ⟨t.c, K⟩) (hr.units)) (pe_callB (k_len (K := K)) (by rfl) T.n_len boot_len (pa_cons (pv 4) pa_nil)) pe_int (nomark _)) (pw_or1 (pt_cmpR (k_notInX (K := K)) (pv 4) (pv 1) (by rfl))))) (pss_one (ps_ret (pe_tup (pa_cons pe_non (pa_cons (pe_lst (pa_cons pe_bl (pa_cons pe_bl (pa_cons pe_bl (pa_cons pe_bl pa_nil))))) pa_nil))))) pss_nil)
  (pss_cons (ps_set (i := 2) (show List.Nodup (["table", "marks", "room", "row", "sign"] : List Str) by decide +kernel) (by rfl) (by first | exact Or.inl rfl | exact Or.inr rfl) (pe_ix (k_ix (K := K)) (pe_ix (k_ix (K := K)) (pv 0) (pv 2) (fun _ _ => rfl)) (k_bm (K := K) PySem.F.plainAttrs_str PySem.F.slot_str_index PySem.F.type_str_index mt_index (pv 1) (pa_cons (pv 4) pa_nil)) (fun _ _ => rfl)))
  (pss_one (ps_if (pt_cmp (pc_isN (pv 2))) (pss_one (ps_ret (pe_tup (pa_cons pe_non (pa_cons pe_non pa_nil))))) pss_nil))))))
  (pss_one (ps_ret (pe_tup (pa_cons (pv 2) (pa_cons pe_non pa_nil)))))), [], ?_⟩
  unfold f__law_due
  exact (vs_seq (vs_for (vi_any (ve_var 3 (by rfl))) (vg_name 4 (by rfl) (by rfl)) (vs_seq (vs_if (vt_or (vt_t (ve_op ok_ne (ve_cb cb_len (va_cons (ve_var 4 (by rfl)) va_nil)) (ve_c (d := (.int 1)) (by rfl) (by rfl)))) (vt_t (ve_op ok_in (ve_var 4 (by rfl)) (ve_var 1 (by rfl))))) (vs_ret (ve_tup (va_cons (ve_c (d := .non) (by rfl) (by rfl)) (va_cons (VF.cl (vf_lst (va_cons (ve_c (d := (.bl true)) (by rfl) (by rfl)) (va_cons (ve_c (d := (.bl true)) (by rfl) (by rfl)) (va_cons (ve_c (d := (.bl false)) (by rfl) (by rfl)) (va_cons (ve_c (d := (.bl false)) (by rfl) (by rfl)) va_nil)))))) va_nil)))) vs_next)
  (vs_seq (show VS _ _ [] _ _ _ _ from (vs_asg 2 (ve_op ok_ix (ve_op ok_ix (ve_var 0 (by rfl)) (ve_var 2 (by rfl))) (ve_bm bm_index (ve_var 1 (by rfl)) (va_cons (ve_var 4 (by rfl)) va_nil))) (by rfl) (by rfl) (by rfl) (by rfl)))
  (vs_if (vt_b (ve_isN (ve_var 2 (by rfl)))) (vs_ret (ve_tup (va_cons (ve_c (d := .non) (by rfl) (by rfl)) (va_cons (ve_c (d := .non) (by rfl) (by rfl)) va_nil)))) vs_next))))
  (vs_ret (ve_tup (va_cons (ve_var 2 (by rfl)) (va_cons (ve_c (d := .non) (by rfl) (by rfl)) va_nil)))))
theorem ok__law_same (T : Txt K mg t) : FnOk P w K mg base CX0 1 t.a__law_same t.d__law_same ["told", "due"] (spD ⟨t.c, K⟩ 2 m__law_same) := by
  refine fn_DB (φ := f__law_same) T.f__law_same sc__law_same (by conv => lhs; whnf) (by conv => lhs; whnf) (fun cdv A outer s H E hr => ?_) rfl rfl
  refine ⟨_, (pss_cons (ps_if (pt_val (pe_callB (k_isiX (K := K)) (by rfl) T.n_isinstance boot_isinstance (pa_cons (pe_ix (k_ix (K := K)) (pv 0) pe_int (fun _ _ => rfl)) (pa_cons (pe_bltn (v := .ty "bool") (by rfl) T.n_bool boot_bool rfl) pa_nil)))) (pss_one (ps_ret pe_bl)) pss_nil)
  (pss_one (ps_ret (pe_cmpR (op_eqD (cA := ⟨t.c, K⟩) (hr.units)) (pv 0) (pv 1) (nomark _))))), [], ?_⟩
  unfold f__law_same
  exact (vs_seq (vs_if (vt_b (ve_isi (fun _ h => h) T.isi_bool (ve_op ok_ix (ve_var 0 (by rfl)) (ve_c (d := (.int 0)) (by rfl) (by rfl))))) (vs_ret (ve_c (d := (.bl false)) (by rfl) (by rfl))) vs_next)
  (vs_ret (ve_op ok_eq (ve_var 0 (by rfl)) (ve_var 1 (by rfl)))))
theorem ok_law (T : Txt K mg t) : FnOk P w K mg base CX0 5 t.a_law t.d_law ["script"] (spD ⟨t.c, K⟩ 1 m_law) := by
  have GM_Rooms_init : FnOk P w K mg base CX0 3 t.a_Rooms_init t.d_Rooms_init ["self", "marks", "ways"] (spI ⟨t.c, K⟩ 3 m_Rooms_init) := (ok_Rooms_init T).mono (by decide)
  have G_Rooms_many : FnOk P w K mg base CX0 4 t.a_Rooms_many t.d_Rooms_many ["self"] (spD ⟨t.c, K⟩ 1 m_Rooms_many) := (ok_Rooms_many T).mono (by decide)
  have G__law_asked : FnOk P w K mg base CX0 4 t.a__law_asked t.d__law_asked ["rooms", "way", "room", "row"] (spD ⟨t.c, K⟩ 4 m__law_asked) := (ok__law_asked T).mono (by decide)
  have G__law_cell_at : FnOk P w K mg base CX0 4 t.a__law_cell_at t.d__law_cell_at ["script", "k"] (spD ⟨t.c, K⟩ 2 m__law_cell_at) := (ok__law_cell_at T).mono (by decide)
  have G__law_due : FnOk P w K mg base CX0 4 t.a__law_due t.d__law_due ["table", "marks", "room", "row"] (spD ⟨t.c, K⟩ 4 m__law_due) := (ok__law_due T).mono (by decide)
  have G__law_marks : FnOk P w K mg base CX0 4 t.a__law_marks t.d__law_marks ["cell"] (spD ⟨t.c, K⟩ 1 m__law_marks) := (ok__law_marks T).mono (by decide)
  have G__law_odd : FnOk P w K mg base CX0 4 t.a__law_odd t.d__law_odd ["marks"] (spD ⟨t.c, K⟩ 1 m__law_odd) := (ok__law_odd T).mono (by decide)
  have G__law_row : FnOk P w K mg base CX0 4 t.a__law_row t.d__law_row ["script", "marks"] (spD ⟨t.c, K⟩ 2 m__law_row) := (ok__law_row T).mono (by decide)
  have G__law_same : FnOk P w K mg base CX0 4 t.a__law_same t.d__law_same ["told", "due"] (spD ⟨t.c, K⟩ 2 m__law_same) := (ok__law_same T).mono (by decide)
  have G__law_table : FnOk P w K mg base CX0 4 t.a__law_table t.d__law_table ["script", "at", "many", "marks"] (spD ⟨t.c, K⟩ 4 m__law_table) := (ok__law_table T).mono (by decide)
  refine fn_DB (φ := f_law) T.f_law sc_law (by conv => lhs; whnf) (by conv => lhs; whnf) (fun cdv A outer s H E hr => ?_) rfl rfl
  refine ⟨_, (pss_cons (ps_set (i := 1) (show List.Nodup (["script", "marks", "many", "table", "rooms", "room", "sign", "row", "k"] : List Str) by decide +kernel) (by rfl) (by first | exact Or.inl rfl | exact Or.inr rfl) (pe_call (G__law_marks) hr (by rfl) T.g__law_marks T.k__law_marks T.b__law_marks .nil pass0 (pa_cons (pe_call (G__law_cell_at) hr (by rfl) T.g__law_cell_at T.k__law_cell_at T.b__law_cell_at .nil pass0 (pa_cons (pv 0) (pa_cons pe_int pa_nil))) pa_nil)))
  (pss_cons (ps_set (i := 2) (show List.Nodup (["script", "marks", "many", "table", "rooms", "room", "sign", "row", "k"] : List Str) by decide +kernel) (by rfl) (by first | exact Or.inl rfl | exact Or.inr rfl) (pe_op (k_addZ (K := K)) pe_int (pe_op op_mod (pe_call (G__law_cell_at) hr (by rfl) T.g__law_cell_at T.k__law_cell_at T.b__law_cell_at .nil pass0 (pa_cons (pv 0) (pa_cons pe_int pa_nil))) pe_int)))
  (pss_cons (ps_set (i := 3) (show List.Nodup (["script", "marks", "many", "table", "rooms", "room", "sign", "row", "k"] : List Str) by decide +kernel) (by rfl) (by first | exact Or.inl rfl | exact Or.inr rfl) (pe_call (G__law_table) hr (by rfl) T.g__law_table T.k__law_table T.b__law_table .nil pass0 (pa_cons (pv 0) (pa_cons pe_int (pa_cons (pv 2) (pa_cons (pv 1) pa_nil))))))
  (pss_cons (ps_set (i := 4) (show List.Nodup (["script", "marks", "many", "table", "rooms", "room", "sign", "row", "k"] : List Str) by decide +kernel) (by rfl) (by first | exact Or.inl rfl | exact Or.inr rfl) (pe_make T.mk_Rooms (GM_Rooms_init) hr (by rfl) T.g_Rooms T.b_Rooms_init .nil pass0 (pa_cons (pv 1) (pa_cons (pe_callTy (k_tuple (K := K)) (by rfl) T.n_tuple boot_tuple (pa_cons (pe_comp (by rfl) (CompSc.mk' (tn := ["row"]) (cn := []) (js := []) (osc := defScope s_law) (oN := ["script", "marks", "many", "table", "rooms", "room", "sign", "row", "k"]) (by rfl) (by rfl) (by rfl) (by decide +kernel)) (k_pi (K := K) (pv 3)) (fun C s₂ H₂ fp => pg_name (i := 0) (show List.Nodup (["row"] : List Str) by decide +kernel) (by rfl) (by first | exact Or.inl rfl | exact Or.inr rfl)) (fun C s₂ H₂ fp => pts_nil) (fun C s₂ H₂ fp => (pe_callTy (k_tuple (K := K)) (by rfl) T.n_tuple boot_tuple (pa_cons (pv 0) pa_nil)))) pa_nil)) pa_nil))))
  (pss_cons (ps_if (PW.pt (pw_or (pt_cmpR (op_neD (cA := ⟨t.c, K⟩) (hr.units)) (k_fld (K := K) (pv 4)) (pv 1) (nomark _)) (pw_or1 (pt_cmpR (op_neD (cA := ⟨t.c, K⟩) (hr.units)) (k_fld (K := K) (pv 4)) (pe_callTy (k_tuple (K := K)) (by rfl) T.n_tuple boot_tuple (pa_cons (pe_comp (by rfl) (CompSc.mk' (tn := ["row"]) (cn := []) (js := []) (osc := defScope s_law) (oN := ["script", "marks", "many", "table", "rooms", "room", "sign", "row", "k"]) (by rfl) (by rfl) (by rfl) (by decide +kernel)) (k_pi (K := K) (pv 3)) (fun C s₂ H₂ fp => pg_name (i := 0) (show List.Nodup (["row"] : List Str) by decide +kernel) (by rfl) (by first | exact Or.inl rfl | exact Or.inr rfl)) (fun C s₂ H₂ fp => pts_nil) (fun C s₂ H₂ fp => (pe_callTy (k_tuple (K := K)) (by rfl) T.n_tuple boot_tuple (pa_cons (pv 0) pa_nil)))) pa_nil)) (nomark _))))) (pss_one (ps_ret pe_bl)) pss_nil)
  (pss_cons (ps_if (PW.pt (pw_or (pt_not (pt_val (pe_callB (k_isiX (K := K)) (by rfl) T.n_isinstance boot_isinstance (pa_cons (k_fld (K := K) (pv 4)) (pa_cons (pe_bltn (v := .ty "tuple") (by rfl) T.n_tuple boot_tuple rfl) pa_nil))))) (pw_or (pt_val (pe_callB (k_isiX (K := K)) (by rfl) T.n_isinstance boot_isinstance (pa_cons (pe_methP0 (cA := ⟨t.c, K⟩) (tab := tab_many) (m := "many") ⟨⟨t.a_Rooms_many, t.d_Rooms_many, ["self"], T.cl_Rooms, T.me_Rooms_many, G_Rooms_many, T.b_Rooms_many⟩, trivial⟩ hr (pv 4)) (pa_cons (pe_bltn (v := .ty "bool") (by rfl) T.n_bool boot_bool rfl) pa_nil)))) (pw_or1 (pt_cmpR (op_neD (cA := ⟨t.c, K⟩) (hr.units)) (pe_methP0 (cA := ⟨t.c, K⟩) (tab := tab_many) (m := "many") ⟨⟨t.a_Rooms_many, t.d_Rooms_many, ["self"], T.cl_Rooms, T.me_Rooms_many, G_Rooms_many, T.b_Rooms_many⟩, trivial⟩ hr (pv 4)) (pv 2) (nomark _)))))) (pss_one (ps_ret pe_bl)) pss_nil)
  (pss_cons ((ps_for PassesOwn.never (by rfl) (pi_range1 (by rfl) T.n_range (pa_cons (pv 2) pa_nil)) (pg_name (i := 5) (show List.Nodup (["script", "marks", "many", "table", "rooms", "room", "sign", "row", "k"] : List Str) by decide +kernel) (by rfl) (by first | exact Or.inl rfl | exact Or.inr rfl)) (pss_one ((ps_for PassesOwn.never (by rfl) (k_pi (K := K) (pe_op (k_addZ (K := K)) (pe_op (k_addZ (K := K)) (pe_callTy (call_listX (K := K)) (by rfl) T.n_list boot_list (pa_cons (pv 1) pa_nil)) (pe_lst (pa_cons (pe_lit [] (by decide +kernel)) (pa_cons (pe_slice (k_sl (K := K)) (pv 1) po_none (po_some pe_int)) pa_nil)))) (pe_callTy (call_listX (K := K)) (by rfl) T.n_list boot_list (pa_cons (pe_call (G__law_odd) hr (by rfl) T.g__law_odd T.k__law_odd T.b__law_odd .nil pass0 (pa_cons (pv 1) pa_nil)) pa_nil)))) (pg_name (i := 6) (show List.Nodup (["script", "marks", "many", "table", "rooms", "room", "sign", "row", "k"] : List Str) by decide +kernel) (by rfl) (by first | exact Or.inl rfl | exact Or.inr rfl)) (pss_one (ps_if (pt_not (pt_val (pe_call (G__law_same) hr (by rfl) T.g__law_same T.k__law_same T.b__law_same .nil pass0 (pa_cons (pe_call (G__law_asked) hr (by rfl) T.g__law_asked T.k__law_asked T.b__law_asked .nil pass0 (pa_cons (pv 4) (pa_cons pe_int (pa_cons (pv 5) (pa_cons (pv 6) pa_nil))))) (pa_cons (pe_call (G__law_due) hr (by rfl) T.g__law_due T.k__law_due T.b__law_due .nil pass0 (pa_cons (pv 3) (pa_cons (pv 1) (pa_cons (pv 5) (pa_cons (pe_lst (pa_cons (pv 6) pa_nil)) pa_nil))))) pa_nil))))) (pss_one (ps_ret pe_bl)) pss_nil)))))))
  (pss_cons (ps_set (i := 7) (show List.Nodup (["script", "marks", "many", "table", "rooms", "room", "sign", "row", "k"] : List Str) by decide +kernel) (by rfl) (by first | exact Or.inl rfl | exact Or.inr rfl) (pe_call (G__law_row) hr (by rfl) T.g__law_row T.k__law_row T.b__law_row .nil pass0 (pa_cons (pv 0) (pa_cons (pv 1) pa_nil))))
  (pss_cons (ps_set (i := 5) (show List.Nodup (["script", "marks", "many", "table", "rooms", "room", "sign", "row", "k"] : List Str) by decide +kernel) (by rfl) (by first | exact Or.inl rfl | exact Or.inr rfl) (pe_op op_mod (pe_call (G__law_cell_at) hr (by rfl) T.g__law_cell_at T.k__law_cell_at T.b__law_cell_at .nil pass0 (pa_cons (pv 0) (pa_cons pe_int pa_nil))) (pv 2)))
  (pss_cons ((ps_for PassesOwn.never (by rfl) (pi_range1 (by rfl) T.n_range (pa_cons (pe_op (k_addZ (K := K)) (pe_callB (call_min2 (by rfl)) (by rfl) T.n_min boot_min (pa_cons (pe_callB (k_len (K := K)) (by rfl) T.n_len boot_len (pa_cons (pv 7) pa_nil)) (pa_cons pe_int pa_nil))) pe_int) pa_nil)) (pg_name (i := 8) (show List.Nodup (["script", "marks", "many", "table", "rooms", "room", "sign", "row", "k"] : List Str) by decide +kernel) (by rfl) (by first | exact Or.inl rfl | exact Or.inr rfl)) (pss_one (ps_if (pt_not (pt_val (pe_call (G__law_same) hr (by rfl) T.g__law_same T.k__law_same T.b__law_same .nil pass0 (pa_cons (pe_call (G__law_asked) hr (by rfl) T.g__law_asked T.k__law_asked T.b__law_asked .nil pass0 (pa_cons (pv 4) (pa_cons pe_int (pa_cons (pv 5) (pa_cons (k_bm (K := K) PySem.F.plainAttrs_str PySem.F.slot_str_join PySem.F.type_str_join (mt_join (K := K)) (pe_lit [] (by decide +kernel)) (pa_cons (pe_slice (k_sl (K := K)) (pv 7) po_none (po_some (pv 8))) pa_nil)) pa_nil))))) (pa_cons (pe_call (G__law_due) hr (by rfl) T.g__law_due T.k__law_due T.b__law_due .nil pass0 (pa_cons (pv 3) (pa_cons (pv 1) (pa_cons (pv 5) (pa_cons (pe_slice (k_sl (K := K)) (pv 7) po_none (po_some (pv 8))) pa_nil))))) pa_nil))))) (pss_one (ps_ret pe_bl)) pss_nil))))
  (pss_one (ps_ret (pe_call (G__law_same) hr (by rfl) T.g__law_same T.k__law_same T.b__law_same .nil pass0 (pa_cons (pe_call (G__law_asked) hr (by rfl) T.g__law_asked T.k__law_asked T.b__law_asked .nil pass0 (pa_cons (pv 4) (pa_cons pe_int (pa_cons (pv 5) (pa_cons (k_bm (K := K) PySem.F.plainAttrs_str PySem.F.slot_str_join PySem.F.type_str_join (mt_join (K := K)) (pe_lit [] (by decide +kernel)) (pa_cons (pv 7) pa_nil)) pa_nil))))) (pa_cons (pe_call (G__law_due) hr (by rfl) T.g__law_due T.k__law_due T.b__law_due .nil pass0 (pa_cons (pv 3) (pa_cons (pv 1) (pa_cons (pv 5) (pa_cons (pv 7) pa_nil))))) pa_nil))))))))))))))), [], ?_⟩
  unfold f_law
  exact (vs_seq (show VS _ _ [] _ _ _ _ from (vs_asg 1 (ve_call [] (by rfl) (va_cons (ve_call [] (by rfl) (va_cons (ve_var 0 (by rfl)) (va_cons (ve_c (d := (.int 0)) (by rfl) (by rfl)) va_nil))) va_nil)) (by rfl) (by rfl) (by rfl) (by rfl)))
  (vs_seq (show VS _ _ [] _ _ _ _ from (vs_asg 2 (ve_op ok_addX (ve_c (d := (.int 1)) (by rfl) (by rfl)) (ve_op ok_mod (ve_call [] (by rfl) (va_cons (ve_var 0 (by rfl)) (va_cons (ve_c (d := (.int 1)) (by rfl) (by rfl)) va_nil))) (ve_c (d := (.int 7)) (by rfl) (by rfl)))) (by rfl) (by rfl) (by rfl) (by rfl)))
  (vs_seq (show VS _ _ [] _ _ _ _ from (vs_asg 3 (ve_call [] (by rfl) (va_cons (ve_var 0 (by rfl)) (va_cons (ve_c (d := (.int 3)) (by rfl) (by rfl)) (va_cons (ve_var 2 (by rfl)) (va_cons (ve_var 1 (by rfl)) va_nil))))) (by rfl) (by rfl) (by rfl) (by rfl)))
  (vs_seq (show VS _ _ [] _ _ _ _ from (vs_asg 4 (ve_make (c := "Rooms") [] (by rfl) (va_cons (ve_var 1 (by rfl)) (va_cons (ve_tuple (va_cons (VF.cl (vf_comp (by rfl) (vi_any (ve_var 3 (by rfl))) (vg_name 0 (by rfl) (by rfl)) vt_yes (ve_tuple (va_cons (ve_var 0 (by rfl)) va_nil)))) va_nil)) va_nil))) (by rfl) (by rfl) (by rfl) (by rfl)))
  (vs_seq (vs_if (vt_or (vt_t (ve_op ok_ne (ve_fld T.fl_marks (ve_var 4 (by rfl))) (ve_var 1 (by rfl)))) (vt_t (ve_op ok_ne (ve_fld T.fl_ways (ve_var 4 (by rfl))) (ve_tuple (va_cons (VF.cl (vf_comp (by rfl) (vi_any (ve_var 3 (by rfl))) (vg_name 0 (by rfl) (by rfl)) vt_yes (ve_tuple (va_cons (ve_var 0 (by rfl)) va_nil)))) va_nil))))) (vs_ret (ve_c (d := (.bl false)) (by rfl) (by rfl))) vs_next)
  (vs_seq (vs_if (vt_or (vt_not (vt_b (ve_isi (fun _ h => h) T.isi_tuple (ve_fld T.fl_ways (ve_var 4 (by rfl)))))) (vt_or (vt_b (ve_isi (fun _ h => h) T.isi_bool (ve_meth (ve_var 4 (by rfl)) va_nil))) (vt_t (ve_op ok_ne (ve_meth (ve_var 4 (by rfl)) va_nil) (ve_var 2 (by rfl)))))) (vs_ret (ve_c (d := (.bl false)) (by rfl) (by rfl))) vs_next)
  (vs_seq (vs_for (vi_rng1 (va_cons (ve_var 2 (by rfl)) va_nil) len1) (vg_name 5 (by rfl) (by rfl)) (vs_for (vi_any (ve_op ok_addX (ve_op ok_addX (VF.cl (vf_listX (Or.inl rfl) (va_cons (ve_var 1 (by rfl)) va_nil))) (VF.cl (vf_lst (va_cons (ve_c (d := (.str [])) (by rfl) (by rfl)) (va_cons (ve_sl (Or.inl rfl) (ve_var 1 (by rfl)) vo_none (vo_some (ve_c (d := (.int 2)) (by rfl) (by rfl)))) va_nil))))) (VF.cl (vf_listX (Or.inl rfl) (va_cons (ve_call [] (by rfl) (va_cons (ve_var 1 (by rfl)) va_nil)) va_nil))))) (vg_name 6 (by rfl) (by rfl)) (vs_if (vt_not (vt_b (ve_call [] (by rfl) (va_cons (ve_call [] (by rfl) (va_cons (ve_var 4 (by rfl)) (va_cons (ve_c (d := (.int 0)) (by rfl) (by rfl)) (va_cons (ve_var 5 (by rfl)) (va_cons (ve_var 6 (by rfl)) va_nil))))) (va_cons (ve_call [] (by rfl) (va_cons (ve_var 3 (by rfl)) (va_cons (ve_var 1 (by rfl)) (va_cons (ve_var 5 (by rfl)) (va_cons (VF.cl (vf_lst (va_cons (ve_var 6 (by rfl)) va_nil))) va_nil))))) va_nil))))) (vs_ret (ve_c (d := (.bl false)) (by rfl) (by rfl))) vs_next)))
  (vs_seq (show VS _ _ [] _ _ _ _ from (vs_asg 7 (ve_call [] (by rfl) (va_cons (ve_var 0 (by rfl)) (va_cons (ve_var 1 (by rfl)) va_nil))) (by rfl) (by rfl) (by rfl) (by rfl)))
  (vs_seq (show VS _ _ [] _ _ _ _ from (vs_asg 5 (ve_op ok_mod (ve_call [] (by rfl) (va_cons (ve_var 0 (by rfl)) (va_cons (ve_c (d := (.int 2)) (by rfl) (by rfl)) va_nil))) (ve_var 2 (by rfl))) (by rfl) (by rfl) (by rfl) (by rfl)))
  (vs_seq (vs_for (vi_rng1 (va_cons (ve_op ok_addX (ve_cb cb_min (va_cons (ve_cb cb_len (va_cons (ve_var 7 (by rfl)) va_nil)) (va_cons (ve_c (d := (.int 40)) (by rfl) (by rfl)) va_nil))) (ve_c (d := (.int 1)) (by rfl) (by rfl))) va_nil) len1) (vg_name 8 (by rfl) (by rfl)) (vs_if (vt_not (vt_b (ve_call [] (by rfl) (va_cons (ve_call [] (by rfl) (va_cons (ve_var 4 (by rfl)) (va_cons (ve_c (d := (.int 1)) (by rfl) (by rfl)) (va_cons (ve_var 5 (by rfl)) (va_cons (ve_bm bm_join (ve_c (d := (.str [])) (by rfl) (by rfl)) (va_cons (ve_sl (Or.inl rfl) (ve_var 7 (by rfl)) vo_none (vo_some (ve_var 8 (by rfl)))) va_nil)) va_nil))))) (va_cons (ve_call [] (by rfl) (va_cons (ve_var 3 (by rfl)) (va_cons (ve_var 1 (by rfl)) (va_cons (ve_var 5 (by rfl)) (va_cons (ve_sl (Or.inl rfl) (ve_var 7 (by rfl)) vo_none (vo_some (ve_var 8 (by rfl)))) va_nil))))) va_nil))))) (vs_ret (ve_c (d := (.bl false)) (by rfl) (by rfl))) vs_next))
  (vs_ret (ve_call [] (by rfl) (va_cons (ve_call [] (by rfl) (va_cons (ve_var 4 (by rfl)) (va_cons (ve_c (d := (.int 1)) (by rfl) (by rfl)) (va_cons (ve_var 5 (by rfl)) (va_cons (ve_bm bm_join (ve_c (d := (.str [])) (by rfl) (by rfl)) (va_cons (ve_var 7 (by rfl)) va_nil)) va_nil))))) (va_cons (ve_call [] (by rfl) (va_cons (ve_var 3 (by rfl)) (va_cons (ve_var 1 (by rfl)) (va_cons (ve_var 5 (by rfl)) (va_cons (ve_var 7 (by rfl)) va_nil))))) va_nil))))))))))))))
end
end K12

namespace K12
open DL L2
theorem cell_at (ns : List Int) (k : Nat) : m__law_cell_at [.lst (ns.map D.int), .int k] = some (.int (ns.getD k 0)) := by
  by_cases h : k < ns.length
  · have hz : atI (ns.map D.int) (k : Int) = some (.int (ns.getD k 0)) := by
      refine atI_nat ?_
      rw [List.getElem?_map, List.getElem?_eq_getElem h, List.getD_eq_getElem?_getD, List.getElem?_eq_getElem h]
      rfl
    simp [m__law_cell_at, f__law_cell_at, h, hz, DL.run, DL.runI, sSeq, sIf, sRet, sRetN, sNext, sAsg, sExpr, sFldD, sBase, sNever, xB, bD, xNot, xAnd, xOr, eVar, eC, eOp, eAnd, eOr, eNot, eIf, eIsN, eNotN, isNon, eChain, eUn, negD, eNil, eCons, eLst, eTup, eCB, lenD, minD, maxD, eCall, eMake, eMeth, eFld, eSl, xP, xNoP, addD, subD, mulD, fdivD, modD, cmpD, ixD, isD, eBM, eIsi, isiD, kind, plainKinds, eqD_int, eqD_str, eqD_bl', eqD_nn, eqD_ni, eqD_in, neD_int, neD_str, neD_nn, neD_ni, neD_in, List.lookup, CDiv, CMul, PySem.sizeLine_eq, List.replicate]
  · have hz : ns.getD k 0 = 0 := by rw [List.getD_eq_getElem?_getD, List.getElem?_eq_none (by omega)]; rfl
    simp [m__law_cell_at, f__law_cell_at, h, hz, DL.run, DL.runI, sSeq, sIf, sRet, sRetN, sNext, sAsg, sExpr, sFldD, sBase, sNever, xB, bD, xNot, xAnd, xOr, eVar, eC, eOp, eAnd, eOr, eNot, eIf, eIsN, eNotN, isNon, eChain, eUn, negD, eNil, eCons, eLst, eTup, eCB, lenD, minD, maxD, eCall, eMake, eMeth, eFld, eSl, xP, xNoP, addD, subD, mulD, fdivD, modD, cmpD, ixD, isD, eBM, eIsi, isiD, kind, plainKinds, eqD_int, eqD_str, eqD_bl', eqD_nn, eqD_ni, eqD_in, neD_int, neD_str, neD_nn, neD_ni, neD_in, List.lookup, CDiv, CMul, PySem.sizeLine_eq, List.replicate]
/-! ### the marks -/
structure Mk (M : List Nat) : Prop where
  lo : 2 ≤ M.length
  hi : M.length ≤ 4
  cd : ∀ c ∈ M, c < 128
def six : List (List Nat) := [[48, 49], [97, 98], [120, 121, 122], [48, 97, 49, 98], [98, 97], [57, 122, 56]]
theorem marks_ok (c : Int) : ∃ M, Mk M ∧ m__law_marks [.int c] = some (.str M) := by
  obtain ⟨a, ha, h6⟩ := modD_nat c (m := 6) (by decide)
  have hs : ∀ a < 6, ∃ M, six[a]? = some M ∧ Mk M := by
    intro a h
    rcases (show a = 0 ∨ a = 1 ∨ a = 2 ∨ a = 3 ∨ a = 4 ∨ a = 5 by omega) with rfl | rfl | rfl | rfl | rfl | rfl <;> exact ⟨_, rfl, ⟨by decide, by decide, by decide⟩⟩
  obtain ⟨M, h1, h2⟩ := hs a h6
  refine ⟨M, h2, ?_⟩
  have t1 : sAsg 1 (eLst (eCons (eC (.str [48, 49])) (eCons (eC (.str [97, 98])) (eCons (eC (.str [120, 121, 122])) (eCons (eC (.str [48, 97, 49, 98])) (eCons (eC (.str [98, 97])) (eCons (eC (.str [57, 122, 56])) eNil))))))) [some (.int c), none] = some (.nx [some (.int c), some (.lst (six.map D.str))]) :=
    asg_of (lst_of (cons_of rfl (cons_of rfl (cons_of rfl (cons_of rfl (cons_of rfl (cons_of rfl nil_of)))))) (by decide))
  have h : f__law_marks [some (.int c), none] = some (.rt (.str M)) := by
    refine (seq_nx t1).trans (ret_of ((op_of (x := .lst (six.map D.str)) (y := .int (a : Int)) rfl ((op_of (x := .int c) (y := .int 6) rfl rfl).trans ha)).trans (ix_at ?_)))
    rw [List.getElem?_map, h1]
    rfl
  exact run_of rfl h
/-! ### the table -/
def oD : Option Nat → D
  | none => .non
  | some a => .int (a : Int)
def rowL (r : List (Option Nat)) : D := .lst (r.map oD)
def rowT (r : List (Option Nat)) : D := .tup (r.map oD)
structure Ok1 (m n : Nat) (r : List (Option Nat)) : Prop where
  ln : r.length = n
  pl : ∀ a, some a ∈ r → a < m
abbrev TE (L : D) (M : List Nat) (m : Nat) (w : List D) (v5 v6 v7 v8 : Option D) : DL.Env := [some L, some (.int 3), some (.int (m : Int)), some (.str M), some (.lst w), v5, v6, v7, v8]
noncomputable def ta1 : DL.Env → Option Out := (sAsg 8 (eCall 2 m__law_cell_at [] (eCons (eVar 0) (eCons (eOp addX (eOp addX (eVar 1) (eOp mulX (eVar 5) (eCB lenD (eCons (eVar 3) eNil)))) (eVar 7)) eNil))))
noncomputable def ta2 : DL.Env → Option Out := (sApp 6 (eOp ixD (eLst (eCons (eOp modD (eVar 8) (eVar 2)) (eCons (eC .non) eNil))) (eCB intD (eCons (eOp (cmpD fun i j => decide (j < i)) (eOp modD (eOp fdivD (eVar 8) (eVar 2)) (eC (.int 5))) (eC (.int 3))) eNil))))
theorem ta_turn (ns : List Int) (M : List Nat) (hM : Mk M) (m : Nat) (hm : 0 < m) (hm7 : m ≤ 7) (w : List D) (i j : Nat) (hi : i < 7) (hj : j < 4) (r : List (Option Nat)) (hr : ∀ a, some a ∈ r → a < m) (hl : r.length ≤ 10) (v8 : Option D) :
    ∃ (x : Option Nat) (w8 : Option D), (∀ a, x = some a → a < m) ∧ sSeq ta1 ta2 (TE (.lst (ns.map D.int)) M m w (some (.int (i : Int))) (some (rowL r)) (some (.int (j : Int))) v8) = some (.nx (TE (.lst (ns.map D.int)) M m w (some (.int (i : Int))) (some (rowL (r ++ [x]))) (some (.int (j : Int))) w8)) := by
  have hc := cell_at ns (3 + i * M.length + j)
  generalize D.lst (ns.map D.int) = L at *
  generalize ns.getD (3 + i * M.length + j) 0 = c at *
  have hlo := hM.lo
  have hhi := hM.hi
  have t1 : ta1 (TE L M m w (some (.int (i : Int))) (some (rowL r)) (some (.int (j : Int))) v8) = some (.nx (TE L M m w (some (.int (i : Int))) (some (rowL r)) (some (.int (j : Int))) (some (.int c)))) := by
    refine asg_of ((call_of (ds := [L, .int ((3 + i * M.length + j : Nat) : Int)]) (cons_of rfl (cons_of ?_ nil_of)) rfl).trans hc)
    have e1 : eCB lenD (eCons (eVar 3) eNil) (TE L M m w (some (.int (i : Int))) (some (rowL r)) (some (.int (j : Int))) v8) = some (.int (M.length : Int)) := (cb_of (cons_of (x := .str M) rfl nil_of)).trans (len_str (by omega))
    refine (op_of (x := .int (3 + (i : Int) * (M.length : Int))) (y := .int (j : Int)) ((op_of (x := .int 3) (y := .int ((i : Int) * (M.length : Int))) rfl ((op_of (x := .int (i : Int)) (y := .int (M.length : Int)) rfl e1).trans (mul_small (by omega) (by omega)))).trans (add_int _ _)) rfl).trans ?_
    rw [add_int]
    refine congrArg (fun z => some (D.int z)) ?_
    rw [← Int.natCast_mul]
    omega
  obtain ⟨a, ha, ham⟩ := modD_nat c hm
  have e1 : eLst (eCons (eOp modD (eVar 8) (eVar 2)) (eCons (eC .non) eNil)) (TE L M m w (some (.int (i : Int))) (some (rowL r)) (some (.int (j : Int))) (some (.int c))) = some (.lst [.int (a : Int), .non]) := lst_of (cons_of ((op_of rfl rfl).trans ha) (cons_of rfl nil_of)) (by simp)
  have e2 : eOp (cmpD fun i j => decide (j < i)) (eOp modD (eOp fdivD (eVar 8) (eVar 2)) (eC (.int 5))) (eC (.int 3)) (TE L M m w (some (.int (i : Int))) (some (rowL r)) (some (.int (j : Int))) (some (.int c))) = some (.bl (decide (3 < c / (m : Int) % 5))) :=
    (op_of (x := .int (c / (m : Int) % 5)) (y := .int 3) ((op_of (x := .int (c / (m : Int))) (y := .int 5) ((op_of (x := .int c) (y := .int (m : Int)) rfl rfl).trans (fdivD_int ⟨by omega, by omega⟩)) rfl).trans (modD_int (by decide))) rfl).trans rfl
  have e3 := cb_of (f := intD) (cons_of e2 nil_of)
  rw [show sSeq ta1 ta2 _ = ta2 _ from seq_nx t1]
  by_cases hb : 3 < c / (m : Int) % 5
  · refine ⟨none, some (.int c), (fun a z => by cases z), (app_of (xs := r.map oD) (d := .non) rfl ((op_of e1 (e3.trans ?_)).trans (ix_at (a := 1) rfl)) (by rw [List.length_map]; omega)).trans ?_⟩
    · rw [decide_eq_true hb]; rfl
    · unfold rowL
      rw [List.map_append]
      rfl
  · refine ⟨some a, some (.int c), (fun b z => by cases z; exact ham), (app_of (xs := r.map oD) (d := .int (a : Int)) rfl ((op_of e1 (e3.trans ?_)).trans (ix_at (a := 0) rfl)) (by rw [List.length_map]; omega)).trans ?_⟩
    · rw [decide_eq_false hb]; rfl
    · unfold rowL
      rw [List.map_append]
      rfl
noncomputable def to2 : DL.Env → Option Out := (sFor (iotaR (eCons (eCB lenD (eCons (eVar 3) eNil)) eNil)) (gSet 7) (sSeq ta1 ta2))
noncomputable def toB : DL.Env → Option Out := sSeq (sAsg 6 (eLst eNil)) (sSeq to2 (sApp 4 (eVar 6)))
theorem to_turn (ns : List Int) (M : List Nat) (hM : Mk M) (m : Nat) (hm : 0 < m) (hm7 : m ≤ 7) (W : List (List (Option Nat))) (hW : W.length ≤ 10) (i : Nat) (hi : i < 7) (v6 v7 v8 : Option D) :
    ∃ (r : List (Option Nat)) (w6 w7 w8 : Option D), Ok1 m M.length r ∧ toB (TE (.lst (ns.map D.int)) M m (W.map rowL) (some (.int (i : Int))) v6 v7 v8) = some (.nx (TE (.lst (ns.map D.int)) M m ((W ++ [r]).map rowL) (some (.int (i : Int))) w6 w7 w8)) := by
  have hlo := hM.lo
  have hhi := hM.hi
  have t1 : sAsg 6 (eLst eNil) (TE (.lst (ns.map D.int)) M m (W.map rowL) (some (.int (i : Int))) v6 v7 v8) = some (.nx (TE (.lst (ns.map D.int)) M m (W.map rowL) (some (.int (i : Int))) (some (rowL [])) v7 v8)) := asg_of rfl
  obtain ⟨δ', h1, r, v7', v8', e, hl, hp⟩ := forD_inv (γ := gSet 7) (φ := sSeq ta1 ta2) (fun k δ => ∃ (r : List (Option Nat)) (v7 v8 : Option D), δ = TE (.lst (ns.map D.int)) M m (W.map rowL) (some (.int (i : Int))) (some (rowL r)) v7 v8 ∧ r.length = k ∧ ∀ a, some a ∈ r → a < m) (rngI 0 1 M.length) 0 (TE (.lst (ns.map D.int)) M m (W.map rowL) (some (.int (i : Int))) (some (rowL [])) v7 v8) ⟨[], _, _, rfl, rfl, fun _ z => nomatch z⟩ (by
    intro j x δ hx ⟨r, v7, v8, e, hl, hp⟩
    subst e
    obtain ⟨hj, rfl⟩ := rng_get hx
    obtain ⟨y, w8, a1, a2⟩ := ta_turn ns M hM m hm hm7 (W.map rowL) i j hi (by omega) r hp (by omega) v8
    refine ⟨_, rfl, _, a2, r ++ [y], _, _, rfl, by rw [List.length_append, List.length_singleton]; omega, fun a ha => ?_⟩
    rcases List.mem_append.mp ha with h | h
    · exact hp a h
    · exact a1 a (List.mem_singleton.mp h).symm)
  subst e
  rw [rng_len, Nat.zero_add] at hl
  have t2 : to2 (TE (.lst (ns.map D.int)) M m (W.map rowL) (some (.int (i : Int))) (some (rowL [])) v7 v8) = some (.nx (TE (.lst (ns.map D.int)) M m (W.map rowL) (some (.int (i : Int))) (some (rowL r)) v7' v8')) :=
    for_of ((iotaR1 (j := (M.length : Int)) (cons_of ((cb_of (cons_of (x := .str M) rfl nil_of)).trans (len_str (by omega))) nil_of) (by omega) (by omega)).trans (by rw [Int.toNat_natCast])) h1
  refine ⟨r, some (rowL r), v7', v8', ⟨hl, hp⟩, ?_⟩
  refine (seq_nx t1).trans ((seq_nx t2).trans ?_)
  refine (app_of (xs := W.map rowL) (d := rowL r) rfl rfl (by rw [List.length_map]; omega)).trans ?_
  rw [List.map_append]
  rfl
structure Ok (M : List Nat) (m : Nat) (W : List (List (Option Nat))) : Prop where
  hM : Mk M
  m0 : 0 < m
  m7 : m ≤ 7
  ln : W.length = m
  rw : ∀ r ∈ W, Ok1 m M.length r
theorem table_eq : f__law_table = sSeq (sAsg 4 (eLst eNil)) (sSeq (sFor (iotaR (eCons (eVar 2) eNil)) (gSet 5) toB) (sRet (eVar 4))) := rfl
theorem table_ok (ns : List Int) (M : List Nat) (hM : Mk M) (m : Nat) (hm : 0 < m) (hm7 : m ≤ 7) : ∃ W, Ok M m W ∧ m__law_table [.lst (ns.map D.int), .int 3, .int (m : Int), .str M] = some (.lst (W.map rowL)) := by
  obtain ⟨δ', h1, W, v5, v6, v7, v8, e, hl, hp⟩ := forD_inv (γ := gSet 5) (φ := toB) (fun k δ => ∃ (W : List (List (Option Nat))) (v5 v6 v7 v8 : Option D), δ = TE (.lst (ns.map D.int)) M m (W.map rowL) v5 v6 v7 v8 ∧ W.length = k ∧ ∀ r ∈ W, Ok1 m M.length r) (rngI 0 1 m) 0 (TE (.lst (ns.map D.int)) M m (([] : List (List (Option Nat))).map rowL) none none none none) ⟨[], _, _, _, _, rfl, rfl, fun _ z => nomatch z⟩ (by
    intro j x δ hx ⟨W, v5, v6, v7, v8, e, hl, hp⟩
    subst e
    obtain ⟨hj, rfl⟩ := rng_get hx
    obtain ⟨r, w6, w7, w8, a1, a2⟩ := to_turn ns M hM m hm hm7 W (by omega) j (by omega) v6 v7 v8
    refine ⟨_, rfl, _, a2, W ++ [r], _, _, _, _, rfl, by rw [List.length_append, List.length_singleton]; omega, fun y hy => ?_⟩
    rcases List.mem_append.mp hy with h | h
    · exact hp y h
    · rw [List.mem_singleton.mp h]; exact a1)
  subst e
  rw [rng_len, Nat.zero_add] at hl
  refine ⟨W, ⟨hM, hm, hm7, hl, hp⟩, ?_⟩
  have t1 : sAsg 4 (eLst eNil) [some (.lst (ns.map D.int)), some (.int 3), some (.int (m : Int)), some (.str M), none, none, none, none, none] = some (.nx (TE (.lst (ns.map D.int)) M m (([] : List (List (Option Nat))).map rowL) none none none none)) := asg_of rfl
  have h : f__law_table [some (.lst (ns.map D.int)), some (.int 3), some (.int (m : Int)), some (.str M), none, none, none, none, none] = some (.rt (.lst (W.map rowL))) := by
    rw [table_eq]
    refine (seq_nx t1).trans ((seq_nx (for_of ((iotaR1 (j := (m : Int)) rfl (by omega) (by omega)).trans (by rw [Int.toNat_natCast])) h1)).trans rfl)
  exact run_of rfl h
end K12

namespace K12
open DL L2
/-! ### odd signs -/
def SG : List Nat := [97, 98, 99, 100, 101, 102, 103, 104, 105, 106, 107, 108, 109, 110, 111, 112, 113, 114, 115, 116, 117, 118, 119, 120, 121, 122, 48, 49, 50, 51, 52, 53, 54, 55, 56, 57]
def sgl (cs : List Nat) : List D := cs.map fun c => D.str [c]
def oddOf (M : List Nat) : List Nat := [45, 81, 33, 126, 32] ++ SG.filter fun c => decide (c ∉ M)
theorem odd_len (M : List Nat) : 5 ≤ (oddOf M).length ∧ (oddOf M).length ≤ 41 := by
  unfold oddOf
  rw [List.length_append]
  have := List.length_filter_le (fun c => decide (c ∉ M)) SG
  have h : SG.length = 36 := rfl
  have h5 : ([45, 81, 33, 126, 32] : List Nat).length = 5 := rfl
  omega
theorem SG_cd : ∀ c ∈ SG, c < 128 := by decide
theorem five_cd : ∀ c ∈ ([45, 81, 33, 126, 32] : List Nat), c < 128 := by decide
theorem odd_cd (M : List Nat) : ∀ c ∈ oddOf M, c < 128 := by
  intro c hc
  unfold oddOf at hc
  rcases List.mem_append.mp hc with h | h
  · exact five_cd c h
  · exact SG_cd c (List.mem_filter.mp h).1
theorem odd_eq : f__law_odd = sSeq (sAsg 1 (eC (.str SG))) (sRet (eOp addX (eC (.str [45, 81, 33, 126, 32])) (eBM joinD (eC (.str [])) (eCons (eComp (iotaA (eVar 1)) (gSet 0) (xB (eOp (inD true) (eVar 0) (eVar 1))) (eVar 0) 1 [0]) eNil)))) := rfl
def oddP (M : List Nat) : D → Bool
  | .str [c] => decide (c ∉ M)
  | _ => false
theorem odd_filter (M : List Nat) : ∀ cs : List Nat, ((sgl cs).filter (oddP M)).map id = sgl (cs.filter fun c => decide (c ∉ M))
  | [] => rfl
  | c :: cs => by
    have ih := odd_filter M cs
    rw [List.map_id] at ih ⊢
    show (D.str [c] :: sgl cs).filter (oddP M) = _
    rw [List.filter_cons, List.filter_cons, ih]
    show (if decide (c ∉ M) = true then _ else _) = _
    split <;> rfl
theorem odd_ok (M : List Nat) : m__law_odd [.str M] = some (.str (oddOf M)) := by
  have hl := odd_len M
  have hc : compD (gSet 0) (xB (eOp (inD true) (eVar 0) (eVar 1))) (eVar 0) [none, some (.str M)] (sgl SG) = some (sgl (SG.filter fun c => decide (c ∉ M))) := by
    rw [← odd_filter]
    refine compD_filter (oddP M) id _ fun x hx => ?_
    obtain ⟨c, _, rfl⟩ := List.mem_map.mp hx
    refine ⟨_, rfl, ?_, fun _ => rfl⟩
    refine xB_of ((op_of (x := .str [c]) (y := .str M) rfl rfl).trans ?_)
    show some (D.bl (true != decide (c ∈ M))) = some (D.bl (decide (c ∉ M)))
    by_cases h : c ∈ M <;> simp [h]
  have hf : (SG.filter fun c => decide (c ∉ M)).length ≤ 41 := by
    have := List.length_filter_le (fun c => decide (c ∉ M)) SG
    have h : SG.length = 36 := rfl
    omega
  have e1 : eComp (iotaA (eVar 1)) (gSet 0) (xB (eOp (inD true) (eVar 0) (eVar 1))) (eVar 0) 1 [0] [some (.str M), some (.str SG)] = some (.lst (sgl (SG.filter fun c => decide (c ∉ M)))) := comp_of (xs := sgl SG) rfl rfl hc (by unfold sgl; rw [List.length_map]; omega)
  have hj := join_ones id (SG.filter fun c => decide (c ∉ M)) (by rw [PySem.sizeLine_eq]; omega)
  rw [List.map_id] at hj
  have h : f__law_odd [some (.str M), none] = some (.rt (.str (oddOf M))) := by
    rw [odd_eq, seq_nx (δ' := [some (.str M), some (.str SG)]) rfl]
    refine ret_of ((op_of (x := .str [45, 81, 33, 126, 32]) rfl ((bm_of rfl (cons_of e1 nil_of)).trans hj)).trans (add_str ?_))
    show 5 + _ ≤ _
    omega
  exact run_of rfl h
/-! ### the row -/
noncomputable def roB : DL.Env → Option Out := (sIf (xB (eOp eqD (eOp modD (eOp fdivD (eVar 4) (eC (.int 5))) (eC (.int 7))) (eC (.int 3)))) (sApp 3 (eOp ixD (eVar 2) (eOp modD (eVar 4) (eCB lenD (eCons (eVar 2) eNil))))) (sApp 3 (eOp ixD (eVar 1) (eOp modD (eVar 4) (eCB lenD (eCons (eVar 1) eNil))))))
theorem row_eq : f__law_row = sSeq (sAsg 2 (eCall 1 m__law_odd [] (eCons (eVar 1) eNil))) (sSeq (sAsg 3 (eLst eNil)) (sSeq (sFor (iotaA (eVar 0)) (gSet 4) roB) (sRet (eVar 3)))) := rfl
theorem pick (cs : List Nat) (h0 : 0 < cs.length) (hl : cs.length ≤ 100) (hc : ∀ c ∈ cs, c < 128) (i j : Nat) (δ : DL.Env) (c : Int) (h1 : eVar i δ = some (.int c)) (h2 : eVar j δ = some (.str cs)) : ∃ x < 128, eOp ixD (eVar j) (eOp modD (eVar i) (eCB lenD (eCons (eVar j) eNil))) δ = some (.str [x]) := by
  obtain ⟨a, ha, hm⟩ := modD_nat c h0
  have e : cs[a]? = some cs[a] := by simp [hm]
  refine ⟨cs[a], hc _ (List.getElem_mem hm), ?_⟩
  exact (op_of h2 ((op_of h1 ((cb_of (cons_of h2 nil_of)).trans (len_str (by omega)))).trans ha)).trans (ix_str e (by omega))
theorem row_ok (ns : List Int) (hl : ns.length ≤ 63) (M : List Nat) (hM : Mk M) : ∃ R : List Nat, R.length = ns.length ∧ (∀ c ∈ R, c < 128) ∧ m__law_row [.lst (ns.map D.int), .str M] = some (.lst (sgl R)) := by
  have hlo := hM.lo
  have hhi := hM.hi
  obtain ⟨o1, o2⟩ := odd_len M
  obtain ⟨δ', h1, R, v4, e, hR, hc⟩ := forD_inv (γ := gSet 4) (φ := roB) (fun k δ => ∃ (R : List Nat) (v4 : Option D), δ = [some (.lst (ns.map D.int)), some (.str M), some (.str (oddOf M)), some (.lst (sgl R)), v4] ∧ R.length = k ∧ ∀ c ∈ R, c < 128) (ns.map D.int) 0 [some (.lst (ns.map D.int)), some (.str M), some (.str (oddOf M)), some (.lst (sgl [])), none] ⟨[], _, rfl, rfl, fun _ z => nomatch z⟩ (by
    intro j x δ hx ⟨R, v4, e, hR, hc⟩
    subst e
    have hj : j < ns.length := by
      have := (List.getElem?_eq_some_iff.mp hx).1
      simpa using this
    rw [List.getElem?_map, List.getElem?_eq_getElem hj] at hx
    cases hx
    generalize ns[j] = c
    generalize D.lst (ns.map D.int) = L
    have fin : ∀ x < 128, ∀ (ε : DL.Env → Option D), ε [some L, some (.str M), some (.str (oddOf M)), some (.lst (sgl R)), some (.int c)] = some (.str [x]) → ∃ δ2, sApp 3 ε [some L, some (.str M), some (.str (oddOf M)), some (.lst (sgl R)), some (.int c)] = some (.nx δ2) ∧ ∃ (R : List Nat) (v4 : Option D), δ2 = [some L, some (.str M), some (.str (oddOf M)), some (.lst (sgl R)), v4] ∧ R.length = 0 + j + 1 ∧ ∀ c ∈ R, c < 128 := by
      intro x hx ε he
      refine ⟨_, app_of (xs := sgl R) rfl he (by unfold sgl; rw [List.length_map]; omega), R ++ [x], some (.int c), ?_, by rw [List.length_append, List.length_singleton]; omega, fun y hy => ?_⟩
      · unfold sgl
        rw [List.map_append]
        rfl
      · rcases List.mem_append.mp hy with h | h
        · exact hc y h
        · rw [List.mem_singleton.mp h]; exact hx
    have e0 : eOp eqD (eOp modD (eOp fdivD (eVar 4) (eC (.int 5))) (eC (.int 7))) (eC (.int 3)) [some L, some (.str M), some (.str (oddOf M)), some (.lst (sgl R)), some (.int c)] = some (.bl (decide (c / 5 % 7 = 3))) :=
      (op_of (x := .int (c / 5 % 7)) (y := .int 3) ((op_of (x := .int (c / 5)) (y := .int 7) ((op_of (x := .int c) (y := .int 5) rfl rfl).trans (fdivD_int ⟨by decide, by decide⟩)) rfl).trans (modD_int (by decide))) rfl).trans (eqD_int _ _)
    refine ⟨_, rfl, ?_⟩
    by_cases hb : c / 5 % 7 = 3
    · obtain ⟨x, hx, he⟩ := pick (oddOf M) (by omega) (by omega) (odd_cd M) 4 2 [some L, some (.str M), some (.str (oddOf M)), some (.lst (sgl R)), some (.int c)] c rfl rfl
      obtain ⟨δ2, a1, a2⟩ := fin x hx _ he
      exact ⟨δ2, (if_yes (xB_of (e0.trans (by rw [decide_eq_true hb])))).trans a1, a2⟩
    · obtain ⟨x, hx, he⟩ := pick M (by omega) (by omega) hM.cd 4 1 [some L, some (.str M), some (.str (oddOf M)), some (.lst (sgl R)), some (.int c)] c rfl rfl
      obtain ⟨δ2, a1, a2⟩ := fin x hx _ he
      exact ⟨δ2, (if_no (xB_of (e0.trans (by rw [decide_eq_false hb])))).trans a1, a2⟩)
  subst e
  rw [List.length_map, Nat.zero_add] at hR
  refine ⟨R, hR, hc, ?_⟩
  have h : f__law_row [some (.lst (ns.map D.int)), some (.str M), none, none, none] = some (.rt (.lst (sgl R))) := by
    rw [row_eq]
    refine (seq_nx (asg_of (d := .str (oddOf M)) ((call_of (n := 1) (cons_of (x := .str M) rfl nil_of) rfl).trans (odd_ok M)))).trans ?_
    refine (seq_nx (δ' := [some (.lst (ns.map D.int)), some (.str M), some (.str (oddOf M)), some (.lst (sgl [])), none]) rfl).trans ?_
    exact (seq_nx (for_of (xs := ns.map D.int) rfl h1)).trans rfl
  exact run_of rfl h
end K12

namespace K12
open DL L2
/-! ### the rooms -/
abbrev Wy := List (List (Option Nat))
def roomsD (M : List Nat) (W : Wy) : DL.D := .obj "Rooms" ["marks", "ways"] [.str M, .tup (W.map rowT)]
def tupC : DL.Env → Option D := (eCB tupleD (eCons (eVar 0) eNil))
theorem tup_rows (f : List (Option Nat) → D) (hf : ∀ r, tupleD [f r] = some (rowT r)) (W : Wy) : compD (gSet 0) (fun _ => some true) tupC [none] (W.map f) = some (W.map rowT) := by
  induction W with
  | nil => rfl
  | cons r W ih =>
    rw [List.map_cons, List.map_cons]
    unfold compD
    show (match tupC [some (f r)] with
      | none => none
      | some y => match compD (gSet 0) (fun _ => some true) tupC [none] (W.map f) with
        | none => none
        | some ys => some (y :: ys)) = _
    rw [show tupC [some (f r)] = some (rowT r) from (cb_of (cons_of (x := f r) rfl nil_of)).trans (hf r), ih]
theorem fld_marks {M : List Nat} {W : Wy} {i : Nat} {δ : DL.Env} (h : eVar i δ = some (roomsD M W)) : eFld fc_marks "marks" (eVar i) δ = some (.str M) := by unfold eFld; rw [h]; rfl
theorem fld_ways {M : List Nat} {W : Wy} {i : Nat} {δ : DL.Env} (h : eVar i δ = some (roomsD M W)) : eFld fc_ways "ways" (eVar i) δ = some (.tup (W.map rowT)) := by unfold eFld; rw [h]; rfl
theorem init_ok (M : List Nat) (W : Wy) (hl : W.length ≤ 100) : m_Rooms_init [.obj "Rooms" [] [], .str M, .tup (W.map rowT)] = some (roomsD M W) := by
  have hc := tup_rows rowT (fun r => rfl) W
  have he : ∀ x0, eCB tupleD (eCons (eComp (iotaA (eVar 2)) (gSet 0) (fun _ => some true) tupC 1 []) eNil) [x0, some (.str M), some (.tup (W.map rowT))] = some (.tup (W.map rowT)) := fun x0 => (cb_of (cons_of (comp_of (xs := W.map rowT) rfl rfl hc (by rw [List.length_map]; omega)) nil_of)).trans rfl
  have hf : f_Rooms_init [some (.obj "Rooms" [] []), some (.str M), some (.tup (W.map rowT))] = some (.nx [some (roomsD M W), some (.str M), some (.tup (W.map rowT))]) := by
    show sSeq (sFldD 0 fc_marks "marks" (eVar 1)) (sFldD 0 fc_ways "ways" (eCB tupleD (eCons (eComp (iotaA (eVar 2)) (gSet 0) (fun _ => some true) tupC 1 []) eNil))) _ = _
    rw [seq_nx (δ' := [some (.obj "Rooms" ["marks"] [.str M]), some (.str M), some (.tup (W.map rowT))]) rfl]
    unfold sFldD
    rw [he]
    rfl
  show (match f_Rooms_init ([DL.D.obj "Rooms" [] [], .str M, .tup (W.map rowT)].map some ++ List.replicate (3 - 3) none) with
    | some (.nx δ) => eVar 0 δ
    | _ => none) = _
  rw [show ([DL.D.obj "Rooms" [] [], .str M, .tup (W.map rowT)].map some ++ List.replicate (3 - 3) none) = [some (.obj "Rooms" [] []), some (.str M), some (.tup (W.map rowT))] from rfl, hf]
  rfl
theorem many_ok (M : List Nat) (W : Wy) : m_Rooms_many [roomsD M W] = some (.int (W.length : Int)) := by
  refine run_of (δ := [some (roomsD M W)]) rfl (ret_of ((cb_of (cons_of (fld_ways rfl) nil_of)).trans ?_))
  show some (D.int ((W.map rowT).length : Int)) = _
  rw [List.length_map]
theorem meth_many {M : List Nat} {W : Wy} {i : Nat} {δ : DL.Env} (h : eVar i δ = some (roomsD M W)) : eMeth "many" tab_many (eVar i) eNil δ = some (.int (W.length : Int)) := by
  unfold eMeth
  rw [h]
  exact many_ok M W
/-! ### walking -/
def isMk (M s : List Nat) : Bool := match s with
  | [c] => decide (c ∈ M)
  | _ => false
theorem len_ne {s : List Nat} (h : ∀ c, s ≠ [c]) : s.length ≠ 1 := fun z => by
  match s, z with
  | [c], _ => exact h c rfl
theorem is_mark (M s : List Nat) (hl : s.length ≤ 1000) : m_is_mark [.str M, .str s] = some (.bl (isMk M s)) := by
  have e1 : eOp eqD (eCB lenD (eCons (eVar 1) eNil)) (eC (.int 1)) [some (.str M), some (.str s)] = some (.bl (decide ((s.length : Int) = 1))) := (op_of (x := .int (s.length : Int)) (y := .int 1) ((cb_of (cons_of (x := .str s) rfl nil_of)).trans (len_str (by omega))) rfl).trans (eqD_int _ _)
  refine run_of (δ := [some (.str M), some (.str s)]) rfl (ret_of ?_)
  by_cases h : ∃ c, s = [c]
  · obtain ⟨c, rfl⟩ := h
    refine (and_yes (e1.trans rfl) ((op_of (x := .str [c]) (y := .str M) rfl rfl).trans ?_))
    show some (D.bl (false != decide (c ∈ M))) = some (D.bl (decide (c ∈ M)))
    cases decide (c ∈ M) <;> rfl
  · have hn : s.length ≠ 1 := len_ne fun c z => h ⟨c, z⟩
    have e2 : isMk M s = false := by
      unfold isMk
      split
      · exact (h ⟨_, rfl⟩).elim
      · rfl
    rw [e2]
    unfold eAnd
    rw [e1, decide_eq_false (by omega)]
def goTo (M : List Nat) (W : Wy) : Nat → List (List Nat) → Option (Option Nat)
  | a, [] => some (some a)
  | a, s :: r => if isMk M s = true then (match (W[a]?).bind fun w => w[(findL (s.headD 0) M).toNat]? with
      | some (some b) => goTo M W b r
      | _ => some none) else none
theorem step_ok {M : List Nat} {m : Nat} {W : Wy} (h : Ok M m W) (a c : Nat) (ha : a < m) (hc : c ∈ M) : ∃ (x : Option Nat) (r : List (Option Nat)) (i : Nat), ((W[a]?).bind fun w => w[(findL c M).toNat]?) = some x ∧ (∀ b, x = some b → b < m) ∧ ixD (.tup (W.map rowT)) (.int (a : Int)) = some (rowT r) ∧ ixD (.lst (W.map rowL)) (.int (a : Int)) = some (rowL r) ∧ indexD M [.str [c]] = some (.int (i : Int)) ∧ ixD (rowT r) (.int (i : Int)) = some (oD x) ∧ ixD (rowL r) (.int (i : Int)) = some (oD x) := by
  have hl : a < W.length := by rw [h.ln]; exact ha
  have e : W[a]? = some W[a] := by simp [hl]
  have h2 := h.rw W[a] (List.getElem_mem hl)
  obtain ⟨i, hi, _, hiM⟩ := findL_mem hc
  have hir : i < (W[a]).length := by rw [h2.ln]; exact hiM
  have e2 : (W[a])[i]? = some (W[a])[i] := by simp [hir]
  have e3 : ((W[a]).map oD)[i]? = some (oD (W[a])[i]) := by rw [List.getElem?_map, e2]; rfl
  refine ⟨(W[a])[i], W[a], i, ?_, fun b hb => h2.pl b (hb ▸ List.getElem_mem hir), ix_tup (by rw [List.getElem?_map, e]; rfl), ix_at (by rw [List.getElem?_map, e]; rfl), ?_, ix_tup e3, ix_at e3⟩
  · rw [e, hi]
    exact e2
  · show (if 0 ≤ findL c M then some (D.int (findL c M)) else none) = _
    rw [hi, if_pos (by omega)]
def dueD : Option (Option Nat) → D
  | none => .tup [.non, .lst [.bl true, .bl true, .bl false, .bl false]]
  | some none => .tup [.non, .non]
  | some (some b) => .tup [.int (b : Int), .non]
noncomputable def ldT : DL.Env → Option Bool := (xNot (xB (eCall 2 m_is_mark [] (eCons (eFld fc_marks "marks" (eVar 0)) (eCons (eVar 2) eNil)))))
theorem ld_test (M : List Nat) (W : Wy) (a : Nat) (s : List Nat) (hl : s.length ≤ 1000) : ldT [some (roomsD M W), some (.int (a : Int)), some (.str s)] = some (!isMk M s) :=
  xNot_of (xB_of ((call_of (n := 2) (cons_of (fld_marks rfl) (cons_of (x := .str s) rfl nil_of)) rfl).trans (is_mark M s hl)))
theorem led_yes {M : List Nat} {m : Nat} {W : Wy} (h : Ok M m W) (a c : Nat) (ha : a < m) (hc : c ∈ M) : ∃ x, ((W[a]?).bind fun w => w[(findL c M).toNat]?) = some x ∧ (∀ b, x = some b → b < m) ∧ m_Rooms_led [roomsD M W, .int (a : Int), .str [c]] = some (oD x) ∧ x_Rooms_led [roomsD M W, .int (a : Int), .str [c]] = none := by
  obtain ⟨x, r, i, h1, h2, h3, _, h5, h6, _⟩ := step_ok h a c ha hc
  have ht := ld_test M W a [c] (by simp)
  rw [show isMk M [c] = true from decide_eq_true hc] at ht
  have hn : sIf ldT sNever sNext [some (roomsD M W), some (.int (a : Int)), some (.str [c])] = some (.nx [some (roomsD M W), some (.int (a : Int)), some (.str [c])]) := (if_no ht).trans rfl
  refine ⟨x, h1, h2, run_of (δ := [some (roomsD M W), some (.int (a : Int)), some (.str [c])]) rfl ?_, ?_⟩
  · refine (seq_nx hn).trans (ret_of ((op_of (x := rowT r) (y := .int (i : Int)) ((op_of (fld_ways rfl) rfl).trans h3) ?_).trans h6))
    exact (bm_of (fld_marks rfl) (cons_of (x := .str [c]) rfl nil_of)).trans h5
  · show xSeq (xIf ldT _ xNever) (sIf ldT sNever sNext) xNever [some (roomsD M W), some (.int (a : Int)), some (.str [c])] = none
    unfold xSeq xIf
    rw [ht, hn]
    rfl
theorem led_no {M : List Nat} {W : Wy} (a : Nat) (s : List Nat) (hl : s.length ≤ 1000) (hc : ∀ c ∈ s, c < 128) (hb : isMk M s = false) : x_Rooms_led [roomsD M W, .int (a : Int), .str s] = some "BadMark" := by
  have ht := ld_test M W a s hl
  rw [hb] at ht
  have e1 : eFmt fmtR (eVar 2) [some (roomsD M W), some (.int (a : Int)), some (.str s)] = some (.str (repL s)) := by
    show fmtR (.str s) = _
    unfold fmtR
    dsimp only
    rw [if_pos ⟨hl, List.all_eq_true.mpr fun c h => decide_eq_true (by have := hc c h; omega)⟩]
  have hrl := repL_len s (List.all_eq_true.mpr fun c h => decide_eq_true (by have := hc c h; omega))
  have e2 : ∃ t, eJoin [(eFmt fmtR (eVar 2)), (eC (.str [32, 105, 115, 32, 110, 111, 32, 109, 97, 114, 107]))] [some (roomsD M W), some (.int (a : Int)), some (.str s)] = some t := by
    refine ⟨.str (([] ++ repL s) ++ [32, 105, 115, 32, 110, 111, 32, 109, 97, 114, 107]), ?_⟩
    unfold eJoin xJs
    rw [e1]
    dsimp only
    rw [if_pos (by rw [List.nil_append, PySem.sizeLine_eq]; omega)]
    unfold xJs
    show (match (if (([] ++ repL s) ++ [32, 105, 115, 32, 110, 111, 32, 109, 97, 114, 107]).length ≤ PySem.sizeLine then xJs [] (([] ++ repL s) ++ [32, 105, 115, 32, 110, 111, 32, 109, 97, 114, 107]) _ else none) with
      | some cs => some (D.str cs)
      | none => none) = _
    rw [if_pos (by rw [List.nil_append, List.length_append, PySem.sizeLine_eq]; show (repL s).length + 11 ≤ _; omega)]
    rfl
  obtain ⟨t, e2⟩ := e2
  show xSeq (xIf ldT (xRaise "BadMark" (eCons (eJoin [(eFmt fmtR (eVar 2)), (eC (.str [32, 105, 115, 32, 110, 111, 32, 109, 97, 114, 107]))]) eNil)) xNever) _ xNever [some (roomsD M W), some (.int (a : Int)), some (.str s)] = _
  unfold xSeq xIf
  rw [ht]
  show (match xRaise "BadMark" (eCons (eJoin [(eFmt fmtR (eVar 2)), (eC (.str [32, 105, 115, 32, 110, 111, 32, 109, 97, 114, 107]))]) eNil) [some (roomsD M W), some (.int (a : Int)), some (.str s)] with
    | some c => some c
    | none => _) = _
  unfold xRaise
  rw [cons_of e2 nil_of]
  rfl
end K12

namespace K12
open DL L2
theorem isN_of {i : Nat} {δ : DL.Env} {x : Option Nat} (h : eVar i δ = some (oD x)) : xB (eIsN (eVar i)) δ = some x.isNone := by
  refine xB_of ?_
  unfold eIsN
  rw [h]
  cases x <;> rfl
/-! ### walked -/
noncomputable def wkA : DL.Env → Option D := (eMethX "led" tab_led (eVar 0) (eCons (eVar 1) (eCons (eVar 3) eNil)))
noncomputable def wkB : DL.Env → Option Out := (sSeq (sAsg 1 wkA) (sIf (xB (eIsN (eVar 1))) (sRet (eC .non)) sNext))
noncomputable def wkX : DL.Env → Option String := (xSeq (xMeth "led" tab_led (eVar 0) (eCons (eVar 1) (eCons (eVar 3) eNil))) (sAsg 1 wkA) xNever)
theorem walked_eq : f_Rooms_walked = sSeq (sFor (iotaA (eVar 2)) (gSet 3) wkB) (sRet (eVar 1)) := rfl
theorem walkedx_eq : g_Rooms_walked = xSeq (xFor (iotaA (eVar 2)) (gSet 3) wkB wkX) (sFor (iotaA (eVar 2)) (gSet 3) wkB) xNever := rfl
abbrev WE (M : List Nat) (W : Wy) (a : Nat) (v2 v3 : Option D) : DL.Env := [some (roomsD M W), some (.int (a : Int)), v2, v3]
def Walks (M : List Nat) (W : Wy) (v2 : Option D) (R : List Nat) (E : DL.Env) : Option (Option Nat) → Prop
  | none => forX (gSet 3) wkB wkX (sgl R) E = some "BadMark"
  | some none => forX (gSet 3) wkB wkX (sgl R) E = none ∧ forD (gSet 3) wkB (sgl R) E = some (.rt .non)
  | some (some b) => forX (gSet 3) wkB wkX (sgl R) E = none ∧ ∃ w3, forD (gSet 3) wkB (sgl R) E = some (.nx (WE M W b v2 w3))
def sgs (R : List Nat) : List (List Nat) := R.map fun c => [c]
theorem forX_cons {γ : D → Env → Option Env} {φ : Env → Option Out} {χ : Env → Option String} {x : D} {r : List D} {δ δ1 : Env} (h : γ x δ = some δ1) : forX γ φ χ (x :: r) δ = (match χ δ1 with
      | some c => some c
      | none => match φ δ1 with
        | some (.nx δ2) => forX γ φ χ r δ2
        | some (.ct δ2) => forX γ φ χ r δ2
        | _ => none) := by
  rw [forX, h]
  try rfl
theorem forD_cons {γ : D → Env → Option Env} {φ : Env → Option Out} {x : D} {r : List D} {δ δ1 : Env} (h : γ x δ = some δ1) : forD γ φ (x :: r) δ = (match φ δ1 with
      | none => none
      | some (.nx δ2) => forD γ φ r δ2
      | some (.ct δ2) => forD γ φ r δ2
      | some (.bk δ2) => some (.nx δ2)
      | some (.rt d) => some (.rt d)) := by
  rw [forD, h]
  try rfl
theorem walk1 {M : List Nat} {m : Nat} {W : Wy} (h : Ok M m W) (v2 : Option D) : ∀ (R : List Nat) (a : Nat) (v3 : Option D), a < m → (∀ c ∈ R, c < 128) → Walks M W v2 R (WE M W a v2 v3) (goTo M W a (sgs R))
  | [], a, v3, _, _ => ⟨rfl, v3, rfl⟩
  | c :: R, a, v3, ha, hc => by
    have hg : gSet 3 (D.str [c]) (WE M W a v2 v3) = some (WE M W a v2 (some (.str [c]))) := rfl
    show Walks M W v2 (c :: R) _ (goTo M W a ([c] :: sgs R))
    unfold goTo
    by_cases hm : c ∈ M
    · rw [if_pos (show isMk M [c] = true from decide_eq_true hm)]
      obtain ⟨x, h1, h2, h3, h4⟩ := led_yes h a c ha hm
      rw [show ([c] : List Nat).headD 0 = c from rfl, h1]
      have e1 : wkA (WE M W a v2 (some (.str [c]))) = some (oD x) := h3
      have e2 : xMeth "led" tab_led (eVar 0) (eCons (eVar 1) (eCons (eVar 3) eNil)) (WE M W a v2 (some (.str [c]))) = none := h4
      have eX : wkX (WE M W a v2 (some (.str [c]))) = none := by
        unfold wkX xSeq
        rw [e2, asg_of e1]
        rfl
      cases x with
      | none =>
        have eB : wkB (WE M W a v2 (some (.str [c]))) = some (.rt .non) := by
          unfold wkB
          rw [seq_nx (asg_of e1)]
          exact (if_yes (isN_of (x := none) rfl)).trans rfl
        refine ⟨?_, ?_⟩
        · show forX (gSet 3) wkB wkX (D.str [c] :: sgl R) _ = none
          rw [forX_cons hg, eX, eB]
        · show forD (gSet 3) wkB (D.str [c] :: sgl R) _ = _
          rw [forD_cons hg, eB]
      | some b =>
        have eB : wkB (WE M W a v2 (some (.str [c]))) = some (.nx (WE M W b v2 (some (.str [c])))) := by
          unfold wkB
          rw [seq_nx (asg_of e1)]
          exact (if_no (isN_of (x := some b) rfl)).trans rfl
        have ih := walk1 h v2 R b (some (.str [c])) (h2 b rfl) fun y hy => hc y (List.mem_cons_of_mem _ hy)
        show Walks M W v2 (c :: R) _ (goTo M W b (sgs R))
        have f1 : forX (gSet 3) wkB wkX (sgl (c :: R)) (WE M W a v2 v3) = forX (gSet 3) wkB wkX (sgl R) (WE M W b v2 (some (.str [c]))) := by
          show forX (gSet 3) wkB wkX (D.str [c] :: sgl R) _ = _
          rw [forX_cons hg, eX, eB]
        have f2 : forD (gSet 3) wkB (sgl (c :: R)) (WE M W a v2 v3) = forD (gSet 3) wkB (sgl R) (WE M W b v2 (some (.str [c]))) := by
          show forD (gSet 3) wkB (D.str [c] :: sgl R) _ = _
          rw [forD_cons hg, eB]
        revert ih
        generalize goTo M W b (sgs R) = g
        intro ih
        match g, ih with
        | none, ih => exact f1.trans ih
        | some none, ih => exact ⟨f1.trans ih.1, f2.trans ih.2⟩
        | some (some d), ih => exact ⟨f1.trans ih.1, ih.2.imp fun w3 q => f2.trans q⟩
    · rw [if_neg (show ¬ isMk M [c] = true by rw [show isMk M [c] = decide (c ∈ M) from rfl, decide_eq_false hm]; exact Bool.false_ne_true)]
      have h4 := led_no (M := M) (W := W) a [c] (by simp) (fun y hy => hc y (by rw [List.mem_singleton.mp hy]; exact List.mem_cons_self)) (decide_eq_false hm)
      have e2 : xMeth "led" tab_led (eVar 0) (eCons (eVar 1) (eCons (eVar 3) eNil)) (WE M W a v2 (some (.str [c]))) = some "BadMark" := h4
      have eX : wkX (WE M W a v2 (some (.str [c]))) = some "BadMark" := by
        unfold wkX xSeq
        rw [e2]
      show forX (gSet 3) wkB wkX (D.str [c] :: sgl R) _ = _
      rw [forX_cons hg, eX]
/-- what led and walked tell -/
def Tells (m : List D → Option D) (x : List D → Option String) (ds : List D) : Option (Option Nat) → Prop
  | none => x ds = some "BadMark"
  | some r => x ds = none ∧ m ds = some (oD r)
theorem walked_ok {M : List Nat} {m : Nat} {W : Wy} (h : Ok M m W) (R : List Nat) (a : Nat) (ha : a < m) (hc : ∀ c ∈ R, c < 128) : Tells m_Rooms_walked x_Rooms_walked [roomsD M W, .int (a : Int), .str R] (goTo M W a (sgs R)) := by
  have hw := walk1 h (some (.str R)) R a none ha hc
  revert hw
  generalize goTo M W a (sgs R) = g
  intro hw
  have hi : iotaA (eVar 2) (WE M W a (some (.str R)) none) = some (sgl R) := rfl
  have xe : ∀ c, forX (gSet 3) wkB wkX (sgl R) (WE M W a (some (.str R)) none) = c → xFor (iotaA (eVar 2)) (gSet 3) wkB wkX (WE M W a (some (.str R)) none) = c := fun c q => by unfold xFor; rw [hi]; exact q
  match g, hw with
  | none, hw =>
    show g_Rooms_walked (WE M W a (some (.str R)) none) = _
    rw [walkedx_eq]
    unfold xSeq
    rw [xe _ hw]
  | some none, hw =>
    refine ⟨?_, run_of (δ := WE M W a (some (.str R)) none) rfl ?_⟩
    · show g_Rooms_walked (WE M W a (some (.str R)) none) = _
      rw [walkedx_eq]
      unfold xSeq
      rw [xe _ hw.1, for_of hi hw.2]
    · rw [walked_eq]
      exact seq_rt (for_of hi hw.2)
  | some (some b), ⟨h1, w3, h2⟩ =>
    refine ⟨?_, run_of (δ := WE M W a (some (.str R)) none) rfl ?_⟩
    · show g_Rooms_walked (WE M W a (some (.str R)) none) = _
      rw [walkedx_eq]
      unfold xSeq
      rw [xe _ h1, for_of hi h2]
      rfl
    · rw [walked_eq]
      exact (seq_nx (for_of hi h2)).trans rfl
theorem led_ok {M : List Nat} {m : Nat} {W : Wy} (h : Ok M m W) (s : List Nat) (a : Nat) (ha : a < m) (hl : s.length ≤ 1000) (hc : ∀ c ∈ s, c < 128) : Tells m_Rooms_led x_Rooms_led [roomsD M W, .int (a : Int), .str s] (goTo M W a [s]) := by
  unfold goTo
  by_cases hm : isMk M s = true
  · rw [if_pos hm]
    unfold isMk at hm
    split at hm
    · rename_i c
      have hm : c ∈ M := of_decide_eq_true hm
      obtain ⟨x, h1, h2, h3, h4⟩ := led_yes h a c ha hm
      rw [show ([c] : List Nat).headD 0 = c from rfl, h1]
      cases x with
      | none => exact ⟨h4, h3⟩
      | some b => exact ⟨h4, h3⟩
    · cases hm
  · rw [if_neg hm]
    exact led_no a s hl hc (Bool.eq_false_iff.mpr hm)
/-! ### asked -/
noncomputable def asT : DL.Env → Option Bool := (xB (eOp eqD (eVar 1) (eC (.int 0))))
noncomputable def asL : DL.Env → Option D := (eMethX "led" tab_led (eVar 0) (eCons (eVar 2) (eCons (eVar 3) eNil)))
noncomputable def asW : DL.Env → Option D := (eMethX "walked" tab_walked (eVar 0) (eCons (eVar 2) (eCons (eVar 3) eNil)))
noncomputable def asX : DL.Env → Option String := (xIf asT (xMeth "led" tab_led (eVar 0) (eCons (eVar 2) (eCons (eVar 3) eNil))) (xMeth "walked" tab_walked (eVar 0) (eCons (eVar 2) (eCons (eVar 3) eNil))))
theorem asked_eq : f__law_asked = sSeq (sAsg 4 (eC .non)) (sSeq (sAsg 5 (eC .non)) (sSeq (sTry (sIf asT (sAsg 4 asL) (sAsg 4 asW)) asX ["BadMark"] 6 5 [ie_BadMark, ie_ValueError, ie_NoRow, ie_Nothing]) (sRet (eTup (eCons (eVar 4) (eCons (eVar 5) eNil)))))) := rfl
theorem asked_ok {M : List Nat} {W : Wy} (a : Nat) (s : List Nat) (g : Option (Option Nat)) (way : Nat) (hw : way = 0 ∨ way = 1) (h : if way = 0 then Tells m_Rooms_led x_Rooms_led [roomsD M W, .int (a : Int), .str s] g else Tells m_Rooms_walked x_Rooms_walked [roomsD M W, .int (a : Int), .str s] g) :
    m__law_asked [roomsD M W, .int (way : Int), .int (a : Int), .str s] = some (dueD g) := by
  have key : ∀ (c : Option String), asX [some (roomsD M W), some (.int (way : Int)), some (.int (a : Int)), some (.str s), some .non, some .non, none] = c → sTry (sIf asT (sAsg 4 asL) (sAsg 4 asW)) asX ["BadMark"] 6 5 [ie_BadMark, ie_ValueError, ie_NoRow, ie_Nothing] [some (roomsD M W), some (.int (way : Int)), some (.int (a : Int)), some (.str s), some .non, some .non, none] = (match c with
      | some c => if ["BadMark"].contains c = true ∧ 6 < 7 then (match isis c [ie_BadMark, ie_ValueError, ie_NoRow, ie_Nothing] with
        | some bs => if bs.length ≤ 1000 then some (.nx (([some (roomsD M W), some (.int (way : Int)), some (.int (a : Int)), some (.str s), some .non, some .non, none].set 5 (some (.lst (bs.map D.bl)))).set 6 none)) else none
        | none => none) else none
      | none => sIf asT (sAsg 4 asL) (sAsg 4 asW) [some (roomsD M W), some (.int (way : Int)), some (.int (a : Int)), some (.str s), some .non, some .non, none]) := by
    intro c hc
    unfold sTry
    rw [hc]
    rfl
  have tr : ∃ x y, sTry (sIf asT (sAsg 4 asL) (sAsg 4 asW)) asX ["BadMark"] 6 5 [ie_BadMark, ie_ValueError, ie_NoRow, ie_Nothing] [some (roomsD M W), some (.int (way : Int)), some (.int (a : Int)), some (.str s), some .non, some .non, none] = some (.nx [some (roomsD M W), some (.int (way : Int)), some (.int (a : Int)), some (.str s), some x, some y, none]) ∧ dueD g = .tup [x, y] := by
    rcases hw with rfl | rfl
    · have ht : asT [some (roomsD M W), some (.int ((0 : Nat) : Int)), some (.int (a : Int)), some (.str s), some .non, some .non, none] = some true := rfl
      match g, h with
      | none, h =>
        have hx : asX [some (roomsD M W), some (.int ((0 : Nat) : Int)), some (.int (a : Int)), some (.str s), some .non, some .non, none] = some "BadMark" := by
          unfold asX xIf
          rw [ht]
          exact h
        exact ⟨_, _, (key _ hx).trans rfl, rfl⟩
      | some r, h =>
        have hx : asX [some (roomsD M W), some (.int ((0 : Nat) : Int)), some (.int (a : Int)), some (.str s), some .non, some .non, none] = none := by
          unfold asX xIf
          rw [ht]
          exact h.1
        have e : asL [some (roomsD M W), some (.int ((0 : Nat) : Int)), some (.int (a : Int)), some (.str s), some .non, some .non, none] = some (oD r) := h.2
        refine ⟨oD r, .non, (key _ hx).trans ((if_yes ht).trans (asg_of e)), ?_⟩
        cases r <;> rfl
    · have ht : asT [some (roomsD M W), some (.int ((1 : Nat) : Int)), some (.int (a : Int)), some (.str s), some .non, some .non, none] = some false := rfl
      match g, h with
      | none, h =>
        have hx : asX [some (roomsD M W), some (.int ((1 : Nat) : Int)), some (.int (a : Int)), some (.str s), some .non, some .non, none] = some "BadMark" := by
          unfold asX xIf
          rw [ht]
          exact h
        exact ⟨_, _, (key _ hx).trans rfl, rfl⟩
      | some r, h =>
        have hx : asX [some (roomsD M W), some (.int ((1 : Nat) : Int)), some (.int (a : Int)), some (.str s), some .non, some .non, none] = none := by
          unfold asX xIf
          rw [ht]
          exact h.1
        have e : asW [some (roomsD M W), some (.int ((1 : Nat) : Int)), some (.int (a : Int)), some (.str s), some .non, some .non, none] = some (oD r) := h.2
        refine ⟨oD r, .non, (key _ hx).trans ((if_no ht).trans (asg_of e)), ?_⟩
        cases r <;> rfl
  obtain ⟨x, y, t3, hd⟩ := tr
  rw [hd]
  have hf : f__law_asked [some (roomsD M W), some (.int (way : Int)), some (.int (a : Int)), some (.str s), none, none, none] = some (.rt (.tup [x, y])) := by
    rw [asked_eq]
    refine (seq_nx (δ' := [some (roomsD M W), some (.int (way : Int)), some (.int (a : Int)), some (.str s), some .non, none, none]) rfl).trans ?_
    refine (seq_nx (δ' := [some (roomsD M W), some (.int (way : Int)), some (.int (a : Int)), some (.str s), some .non, some .non, none]) rfl).trans ?_
    exact (seq_nx t3).trans (ret_of (tup_of (cons_of rfl (cons_of rfl nil_of)) (by simp)))
  exact run_of rfl hf
end K12

namespace K12
open DL L2
/-! ### due -/
noncomputable def duT : DL.Env → Option Bool := (xOr (xB (eOp neD (eCB lenD (eCons (eVar 4) eNil)) (eC (.int 1)))) (xB (eOp (inD true) (eVar 4) (eVar 1))))
noncomputable def duR : DL.Env → Option D := (eTup (eCons (eC .non) (eCons (eLst (eCons (eC (.bl true)) (eCons (eC (.bl true)) (eCons (eC (.bl false)) (eCons (eC (.bl false)) eNil))))) eNil)))
noncomputable def duA : DL.Env → Option D := (eOp ixD (eOp ixD (eVar 0) (eVar 2)) (eBM indexD (eVar 1) (eCons (eVar 4) eNil)))
noncomputable def duB : DL.Env → Option Out := (sSeq (sIf duT (sRet duR) sNext) (sSeq (sAsg 2 duA) (sIf (xB (eIsN (eVar 2))) (sRet (eTup (eCons (eC .non) (eCons (eC .non) eNil)))) sNext)))
theorem due_eq : f__law_due = sSeq (sFor (iotaA (eVar 3)) (gSet 4) duB) (sRet (eTup (eCons (eVar 2) (eCons (eC .non) eNil)))) := rfl
abbrev DE' (M : List Nat) (W : Wy) (a : Nat) (v3 v4 : Option D) : DL.Env := [some (.lst (W.map rowL)), some (.str M), some (.int (a : Int)), v3, v4]
theorem du_test (M : List Nat) (W : Wy) (a : Nat) (v3 : Option D) (s : List Nat) (hl : s.length ≤ 1000) : duT (DE' M W a v3 (some (.str s))) = some (!isMk M s) := by
  have e1 : eOp neD (eCB lenD (eCons (eVar 4) eNil)) (eC (.int 1)) (DE' M W a v3 (some (.str s))) = some (.bl (!decide ((s.length : Int) = 1))) := (op_of (x := .int (s.length : Int)) (y := .int 1) ((cb_of (cons_of (x := .str s) rfl nil_of)).trans (len_str (by omega))) rfl).trans (neD_int _ _)
  by_cases h : ∃ c, s = [c]
  · obtain ⟨c, rfl⟩ := h
    refine xOr_no (xB_of (e1.trans rfl)) (xB_of ((op_of (x := .str [c]) (y := .str M) rfl rfl).trans ?_))
    show some (D.bl (true != decide (c ∈ M))) = some (D.bl (!decide (c ∈ M)))
    cases decide (c ∈ M) <;> rfl
  · have hn : s.length ≠ 1 := len_ne fun c z => h ⟨c, z⟩
    have e2 : isMk M s = false := by
      unfold isMk
      split
      · exact (h ⟨_, rfl⟩).elim
      · rfl
    rw [e2]
    refine xOr_yes (xB_of (e1.trans ?_))
    rw [decide_eq_false (by omega)]
    rfl
def Dues (M : List Nat) (W : Wy) (v3 : Option D) (r : List D) (E : DL.Env) : Option (Option Nat) → Prop
  | some (some b) => ∃ w4, forD (gSet 4) duB r E = some (.nx (DE' M W b v3 w4))
  | g => forD (gSet 4) duB r E = some (.rt (dueD g))
theorem dues {M : List Nat} {m : Nat} {W : Wy} (h : Ok M m W) (v3 : Option D) : ∀ (R : List (List Nat)) (a : Nat) (v4 : Option D), a < m → (∀ s ∈ R, s.length ≤ 1000) → Dues M W v3 (R.map D.str) (DE' M W a v3 v4) (goTo M W a R)
  | [], a, v4, _, _ => ⟨v4, rfl⟩
  | s :: R, a, v4, ha, hl => by
    have hg : gSet 4 (D.str s) (DE' M W a v3 v4) = some (DE' M W a v3 (some (.str s))) := rfl
    have ht := du_test M W a v3 s (hl s List.mem_cons_self)
    unfold goTo
    by_cases hm : isMk M s = true
    · rw [if_pos hm]
      rw [hm] at ht
      have t1 : sIf duT (sRet duR) sNext (DE' M W a v3 (some (.str s))) = some (.nx (DE' M W a v3 (some (.str s)))) := (if_no ht).trans rfl
      unfold isMk at hm
      split at hm
      · rename_i c
        have hm : c ∈ M := of_decide_eq_true hm
        obtain ⟨x, r, i, h1, h2, _, h4, h5, _, h7⟩ := step_ok h a c ha hm
        rw [show ([c] : List Nat).headD 0 = c from rfl, h1]
        have e1 : duA (DE' M W a v3 (some (.str [c]))) = some (oD x) := (op_of (x := rowL r) (y := .int (i : Int)) ((op_of rfl rfl).trans h4) ((bm_of (s := M) rfl (cons_of (x := .str [c]) rfl nil_of)).trans h5)).trans h7
        cases x with
        | none =>
          have eB : duB (DE' M W a v3 (some (.str [c]))) = some (.rt (.tup [.non, .non])) := by
            unfold duB
            rw [seq_nx t1, seq_nx (asg_of e1)]
            exact (if_yes (isN_of (x := none) rfl)).trans (ret_of (tup_of (cons_of rfl (cons_of rfl nil_of)) (by simp)))
          show forD (gSet 4) duB (D.str [c] :: R.map D.str) _ = _
          rw [forD_cons hg, eB]
          rfl
        | some b =>
          have eB : duB (DE' M W a v3 (some (.str [c]))) = some (.nx (DE' M W b v3 (some (.str [c])))) := by
            unfold duB
            rw [seq_nx t1, seq_nx (asg_of e1)]
            exact (if_no (isN_of (x := some b) rfl)).trans rfl
          have ih := dues h v3 R b (some (.str [c])) (h2 b rfl) fun y hy => hl y (List.mem_cons_of_mem _ hy)
          have f2 : forD (gSet 4) duB (([c] :: R).map D.str) (DE' M W a v3 v4) = forD (gSet 4) duB (R.map D.str) (DE' M W b v3 (some (.str [c]))) := by
            show forD (gSet 4) duB (D.str [c] :: R.map D.str) _ = _
            rw [forD_cons hg, eB]
          show Dues M W v3 _ _ (goTo M W b R)
          revert ih
          generalize goTo M W b R = g
          intro ih
          match g, ih with
          | none, ih => exact f2.trans ih
          | some none, ih => exact f2.trans ih
          | some (some d), ih => exact ih.imp fun w4 q => f2.trans q
      · cases hm
    · rw [if_neg hm]
      rw [Bool.eq_false_iff.mpr hm] at ht
      have e0 : duR (DE' M W a v3 (some (.str s))) = some (dueD none) := tup_of (cons_of rfl (cons_of (lst_of (cons_of rfl (cons_of rfl (cons_of rfl (cons_of rfl nil_of)))) (by simp)) nil_of)) (by simp)
      have eB : duB (DE' M W a v3 (some (.str s))) = some (.rt (dueD none)) := by
        unfold duB
        exact seq_rt ((if_yes ht).trans (ret_of e0))
      show forD (gSet 4) duB (D.str s :: R.map D.str) _ = _
      rw [forD_cons hg, eB]
theorem due_ok {M : List Nat} {m : Nat} {W : Wy} (h : Ok M m W) (R : List (List Nat)) (a : Nat) (ha : a < m) (hl : ∀ s ∈ R, s.length ≤ 1000) : m__law_due [.lst (W.map rowL), .str M, .int (a : Int), .lst (R.map D.str)] = some (dueD (goTo M W a R)) := by
  have hd := dues h (some (.lst (R.map D.str))) R a none ha hl
  have hi : iotaA (eVar 3) (DE' M W a (some (.lst (R.map D.str))) none) = some (R.map D.str) := rfl
  refine run_of (δ := DE' M W a (some (.lst (R.map D.str))) none) rfl ?_
  rw [due_eq]
  revert hd
  generalize goTo M W a R = g
  intro hd
  match g, hd with
  | none, hd => exact seq_rt (for_of hi hd)
  | some none, hd => exact seq_rt (for_of hi hd)
  | some (some b), ⟨w4, hd⟩ => exact (seq_nx (for_of hi hd)).trans (ret_of (tup_of (cons_of rfl (cons_of rfl nil_of)) (by simp)))
/-! ### the same -/
theorem same_ok (g : Option (Option Nat)) : m__law_same [dueD g, dueD g] = some (.bl true) := by
  have e1 : eIsi it_bool (eOp ixD (eVar 0) (eC (.int 0))) [some (dueD g), some (dueD g)] = some (.bl false) := by
    match g with
    | none => exact isi_of (d := .non) rfl rfl
    | some none => exact isi_of (d := .non) rfl rfl
    | some (some b) => exact isi_of (d := .int (b : Int)) rfl rfl
  have e2 : eqD (dueD g) (dueD g) = some (.bl true) := by
    match g with
    | none => exact eqD_self rfl rfl
    | some none => exact eqD_self rfl rfl
    | some (some b) => exact eqD_self rfl rfl
  refine run_of (δ := [some (dueD g), some (dueD g)]) rfl ?_
  refine (seq_nx ((if_no (xB_of e1)).trans rfl)).trans (ret_of ((op_of rfl rfl).trans e2))
/-! ### the table's texts are alike -/
theorem canLay_os : ∀ r : List (Option Nat), PySem.PyData.canLayAll0 (toPs (r.map oD)) = true
  | [] => rfl
  | x :: r => by
    rw [List.map_cons, toPs, PySem.PyData.canLayAll0, canLay_os r]
    cases x <;> rfl
theorem depth_os : ∀ r : List (Option Nat), PySem.PyData.depthAll (toPs (r.map oD)) = 0
  | [] => rfl
  | x :: r => by
    rw [List.map_cons, toPs, PySem.PyData.depthAll, depth_os r]
    cases x <;> rfl
theorem canLay_rows : ∀ W : Wy, PySem.PyData.canLayAll0 (toPs (W.map rowT)) = true
  | [] => rfl
  | r :: W => by
    rw [List.map_cons, toPs, PySem.PyData.canLayAll0, canLay_rows W, Bool.and_true]
    exact canLay_os r
theorem depth_rows : ∀ W : Wy, PySem.PyData.depthAll (toPs (W.map rowT)) ≤ 1
  | [] => Nat.zero_le _
  | r :: W => by
    rw [List.map_cons, toPs, PySem.PyData.depthAll]
    have h1 : PySem.PyData.depth (toP (rowT r)) = 1 := by
      show PySem.PyData.depthAll (toPs (r.map oD)) + 1 = 1
      rw [depth_os]
    rw [h1]
    exact Nat.max_le.mpr ⟨Nat.le_refl _, depth_rows W⟩
theorem shaped_rows (W : Wy) : PySem.SeqAt.shaped (toP (.tup (W.map rowT))) = true := by
  have h1 := canLay_rows W
  have h2 := depth_rows W
  unfold PySem.SeqAt.shaped
  show (PySem.PyData.canLayAll0 (toPs (W.map rowT)) && decide (PySem.PyData.depthAll (toPs (W.map rowT)) + 1 ≤ 64)) = true
  rw [h1, decide_eq_true (by omega)]
  rfl
end K12

namespace K12
open DL L2
noncomputable def cmE : DL.Env → Option D := (eCB tupleD (eCons (eComp (iotaA (eVar 3)) (gSet 0) (fun _ => some true) tupC 1 []) eNil))
noncomputable def a1 : DL.Env → Option Out := (sAsg 1 (eCall 1 m__law_marks [] (eCons (eCall 2 m__law_cell_at [] (eCons (eVar 0) (eCons (eC (.int 0)) eNil))) eNil)))
noncomputable def a2 : DL.Env → Option Out := (sAsg 2 (eOp addX (eC (.int 1)) (eOp modD (eCall 2 m__law_cell_at [] (eCons (eVar 0) (eCons (eC (.int 1)) eNil))) (eC (.int 7)))))
noncomputable def a3 : DL.Env → Option Out := (sAsg 3 (eCall 4 m__law_table [] (eCons (eVar 0) (eCons (eC (.int 3)) (eCons (eVar 2) (eCons (eVar 1) eNil))))))
noncomputable def a4 : DL.Env → Option Out := (sAsg 4 (eMake "Rooms" 3 m_Rooms_init [] (eCons (eVar 1) (eCons cmE eNil))))
noncomputable def a5 : DL.Env → Option Out := (sIf (xOr (xB (eOp neD (eFld fc_marks "marks" (eVar 4)) (eVar 1))) (xB (eOp neD (eFld fc_ways "ways" (eVar 4)) cmE))) (sRet (eC (.bl false))) sNext)
noncomputable def a6 : DL.Env → Option Out := (sIf (xOr (xNot (xB (eIsi it_tuple (eFld fc_ways "ways" (eVar 4))))) (xOr (xB (eIsi it_bool (eMeth "many" tab_many (eVar 4) eNil))) (xB (eOp neD (eMeth "many" tab_many (eVar 4) eNil) (eVar 2))))) (sRet (eC (.bl false))) sNext)
noncomputable def sgE : DL.Env → Option D := (eOp addX (eOp addX (eCB listX (eCons (eVar 1) eNil)) (eLst (eCons (eC (.str [])) (eCons (eSl (eVar 1) xNoP (xP (eC (.int 2)))) eNil)))) (eCB listX (eCons (eCall 1 m__law_odd [] (eCons (eVar 1) eNil)) eNil)))
noncomputable def inB : DL.Env → Option Out := (sIf (xNot (xB (eCall 2 m__law_same [] (eCons (eCall 4 m__law_asked [] (eCons (eVar 4) (eCons (eC (.int 0)) (eCons (eVar 5) (eCons (eVar 6) eNil))))) (eCons (eCall 4 m__law_due [] (eCons (eVar 3) (eCons (eVar 1) (eCons (eVar 5) (eCons (eLst (eCons (eVar 6) eNil)) eNil))))) eNil))))) (sRet (eC (.bl false))) sNext)
noncomputable def a7 : DL.Env → Option Out := (sFor (iotaR (eCons (eVar 2) eNil)) (gSet 5) (sFor (iotaA sgE) (gSet 6) inB))
noncomputable def a8 : DL.Env → Option Out := (sAsg 7 (eCall 2 m__law_row [] (eCons (eVar 0) (eCons (eVar 1) eNil))))
noncomputable def a9 : DL.Env → Option Out := (sAsg 5 (eOp modD (eCall 2 m__law_cell_at [] (eCons (eVar 0) (eCons (eC (.int 2)) eNil))) (eVar 2)))
noncomputable def loB : DL.Env → Option Out := (sIf (xNot (xB (eCall 2 m__law_same [] (eCons (eCall 4 m__law_asked [] (eCons (eVar 4) (eCons (eC (.int 1)) (eCons (eVar 5) (eCons (eBM joinD (eC (.str [])) (eCons (eSl (eVar 7) xNoP (xP (eVar 8))) eNil)) eNil))))) (eCons (eCall 4 m__law_due [] (eCons (eVar 3) (eCons (eVar 1) (eCons (eVar 5) (eCons (eSl (eVar 7) xNoP (xP (eVar 8))) eNil))))) eNil))))) (sRet (eC (.bl false))) sNext)
noncomputable def a10 : DL.Env → Option Out := (sFor (iotaR (eCons (eOp addX (eCB minD (eCons (eCB lenD (eCons (eVar 7) eNil)) (eCons (eC (.int 40)) eNil))) (eC (.int 1))) eNil)) (gSet 8) loB)
noncomputable def a11 : DL.Env → Option Out := (sRet (eCall 2 m__law_same [] (eCons (eCall 4 m__law_asked [] (eCons (eVar 4) (eCons (eC (.int 1)) (eCons (eVar 5) (eCons (eBM joinD (eC (.str [])) (eCons (eVar 7) eNil)) eNil))))) (eCons (eCall 4 m__law_due [] (eCons (eVar 3) (eCons (eVar 1) (eCons (eVar 5) (eCons (eVar 7) eNil))))) eNil))))
theorem law_eq : f_law = sSeq a1 (sSeq a2 (sSeq a3 (sSeq a4 (sSeq a5 (sSeq a6 (sSeq a7 (sSeq a8 (sSeq a9 (sSeq a10 a11))))))))) := rfl
abbrev LE (L : D) (M : List Nat) (m : Nat) (W : Wy) (v5 v6 v7 v8 : Option D) : DL.Env := [some L, some (.str M), some (.int (m : Int)), some (.lst (W.map rowL)), some (roomsD M W), v5, v6, v7, v8]
theorem cm_ok {M : List Nat} {m : Nat} {W : Wy} (h : Ok M m W) (L : D) (x4 v5 v6 v7 v8 : Option D) : cmE [some L, some (.str M), some (.int (m : Int)), some (.lst (W.map rowL)), x4, v5, v6, v7, v8] = some (.tup (W.map rowT)) := by
  have hW := h.ln
  have hm := h.m7
  exact (cb_of (cons_of (comp_of (xs := W.map rowL) rfl rfl (tup_rows rowL (fun _ => rfl) W) (by rw [List.length_map]; omega)) nil_of)).trans rfl
theorem l4 {M : List Nat} {m : Nat} {W : Wy} (h : Ok M m W) (L : D) : a4 [some L, some (.str M), some (.int (m : Int)), some (.lst (W.map rowL)), none, none, none, none, none] = some (.nx (LE L M m W none none none none)) := by
  have hW := h.ln
  have hm := h.m7
  exact asg_of ((make_of (cons_of (x := .str M) rfl (cons_of (cm_ok h L none none none none none) nil_of)) rfl).trans (init_ok M W (by omega)))
theorem l5 {M : List Nat} {m : Nat} {W : Wy} (h : Ok M m W) (L : D) : a5 (LE L M m W none none none none) = some (.nx (LE L M m W none none none none)) := by
  have e1 : eOp neD (eFld fc_marks "marks" (eVar 4)) (eVar 1) (LE L M m W none none none none) = some (.bl false) := (op_of (x := .str M) (y := .str M) (fld_marks rfl) rfl).trans (by rw [neD_str, decide_eq_true rfl]; rfl)
  have e2 : eOp neD (eFld fc_ways "ways" (eVar 4)) cmE (LE L M m W none none none none) = some (.bl false) := (op_of (fld_ways rfl) (cm_ok h L _ none none none none)).trans (neD_self rfl (shaped_rows W))
  exact (if_no (xOr_no (xB_of e1) (xB_of e2))).trans rfl
theorem l6 {M : List Nat} {m : Nat} {W : Wy} (h : Ok M m W) (L : D) : a6 (LE L M m W none none none none) = some (.nx (LE L M m W none none none none)) := by
  have e0 : eIsi it_tuple (eFld fc_ways "ways" (eVar 4)) (LE L M m W none none none none) = some (.bl true) := isi_of (fld_ways rfl) rfl
  have e1 : eIsi it_bool (eMeth "many" tab_many (eVar 4) eNil) (LE L M m W none none none none) = some (.bl false) := isi_of (meth_many rfl) rfl
  have e2 : eOp neD (eMeth "many" tab_many (eVar 4) eNil) (eVar 2) (LE L M m W none none none none) = some (.bl false) := by
    refine (op_of (x := .int (W.length : Int)) (y := .int (m : Int)) (meth_many rfl) rfl).trans ?_
    rw [h.ln, neD_int, decide_eq_true rfl]
    rfl
  exact (if_no (xOr_no (xNot_of (b := true) (xB_of e0)) (xOr_no (xB_of e1) (xB_of e2)))).trans rfl
theorem sgl_sgs (cs : List Nat) : sgl cs = (sgs cs).map D.str := by unfold sgl sgs; rw [List.map_map]; rfl
theorem sgs_in {cs : List Nat} {s : List Nat} (h : s ∈ sgs cs) : ∃ c ∈ cs, s = [c] := by
  obtain ⟨c, h1, rfl⟩ := List.mem_map.mp h
  exact ⟨c, h1, rfl⟩
def allS (M : List Nat) : List (List Nat) := sgs M ++ [[], M.take 2] ++ sgs (oddOf M)
theorem allS_ok {M : List Nat} (hM : Mk M) : ∀ s ∈ allS M, s.length ≤ 1000 ∧ ∀ c ∈ s, c < 128 := by
  intro s hs
  unfold allS at hs
  have one : ∀ cs : List Nat, (∀ c ∈ cs, c < 128) → s ∈ sgs cs → s.length ≤ 1000 ∧ ∀ c ∈ s, c < 128 := fun cs hc h => by
    obtain ⟨c, h1, rfl⟩ := sgs_in h
    exact ⟨by simp, fun d hd => by rw [List.mem_singleton.mp hd]; exact hc c h1⟩
  rcases List.mem_append.mp hs with h | h
  · rcases List.mem_append.mp h with h | h
    · exact one M hM.cd h
    · rcases List.mem_cons.mp h with rfl | h
      · exact ⟨by simp, fun _ z => nomatch z⟩
      · rw [List.mem_singleton.mp h]
        exact ⟨by rw [List.length_take]; omega, fun c hc => hM.cd c (List.mem_of_mem_take hc)⟩
  · exact one _ (odd_cd M) h
theorem sg_ok {M : List Nat} {m : Nat} {W : Wy} (h : Ok M m W) (L : D) (v5 v6 v7 v8 : Option D) : iotaA sgE (LE L M m W v5 v6 v7 v8) = some ((allS M).map D.str) := by
  have hhi := h.hM.hi
  obtain ⟨o1, o2⟩ := odd_len M
  have l1 : ∀ cs : List Nat, cs.length ≤ 1000 → listX [.str cs] = some (.lst (sgl cs)) := fun cs hl => if_pos (by rw [PySem.sizeLine_eq]; omega)
  have e1 : eCB listX (eCons (eVar 1) eNil) (LE L M m W v5 v6 v7 v8) = some (.lst (sgl M)) := (cb_of (cons_of (x := .str M) rfl nil_of)).trans (l1 M (by omega))
  have e2 : eCB listX (eCons (eCall 1 m__law_odd [] (eCons (eVar 1) eNil)) eNil) (LE L M m W v5 v6 v7 v8) = some (.lst (sgl (oddOf M))) := (cb_of (cons_of ((call_of (n := 1) (cons_of (x := .str M) rfl nil_of) rfl).trans (odd_ok M)) nil_of)).trans (l1 _ (by omega))
  have e3 : eSl (eVar 1) xNoP (xP (eC (.int 2))) (LE L M m W v5 v6 v7 v8) = some (.str (M.take 2)) := by
    show (if M.length ≤ PySem.sizeLine then some (D.str (cutL M none (some ((2 : Nat) : Int)))) else none) = _
    rw [if_pos (by rw [PySem.sizeLine_eq]; omega), cut_to]
  have e4 : eLst (eCons (eC (.str [])) (eCons (eSl (eVar 1) xNoP (xP (eC (.int 2)))) eNil)) (LE L M m W v5 v6 v7 v8) = some (.lst [.str [], .str (M.take 2)]) := lst_of (cons_of rfl (cons_of e3 nil_of)) (by simp)
  have hs : ∀ cs : List Nat, (sgl cs).length = cs.length := fun cs => by unfold sgl; rw [List.length_map]
  have e5 : sgE (LE L M m W v5 v6 v7 v8) = some (.lst (sgl M ++ [.str [], .str (M.take 2)] ++ sgl (oddOf M))) := by
    refine (op_of ((op_of e1 e4).trans (add_lst ?_)) e2).trans (add_lst ?_)
    · rw [hs]; simp; omega
    · rw [List.length_append, hs, hs]; simp; omega
  unfold iotaA
  rw [e5]
  unfold allS
  rw [sgl_sgs, sgl_sgs, List.map_append, List.map_append]
  rfl
theorem in_turn {M : List Nat} {m : Nat} {W : Wy} (h : Ok M m W) (L : D) (a : Nat) (ha : a < m) (s : List Nat) (hs : s ∈ allS M) : inB (LE L M m W (some (.int (a : Int))) (some (.str s)) none none) = some (.nx (LE L M m W (some (.int (a : Int))) (some (.str s)) none none)) := by
  obtain ⟨s1, s2⟩ := allS_ok h.hM s hs
  have e1 := asked_ok (M := M) (W := W) a s (goTo M W a [s]) 0 (.inl rfl) (led_ok h s a ha s1 s2)
  have e2 := due_ok h [s] a ha (fun x hx => by rw [List.mem_singleton.mp hx]; exact s1)
  have u1 : eCall 4 m__law_asked [] (eCons (eVar 4) (eCons (eC (.int 0)) (eCons (eVar 5) (eCons (eVar 6) eNil)))) (LE L M m W (some (.int (a : Int))) (some (.str s)) none none) = some (dueD (goTo M W a [s])) := (call_of (n := 4) (cons_of (x := roomsD M W) rfl (cons_of (x := .int 0) rfl (cons_of (x := .int (a : Int)) rfl (cons_of (x := .str s) rfl nil_of)))) rfl).trans e1
  have u2 : eCall 4 m__law_due [] (eCons (eVar 3) (eCons (eVar 1) (eCons (eVar 5) (eCons (eLst (eCons (eVar 6) eNil)) eNil)))) (LE L M m W (some (.int (a : Int))) (some (.str s)) none none) = some (dueD (goTo M W a [s])) := (call_of (n := 4) (cons_of (x := .lst (W.map rowL)) rfl (cons_of (x := .str M) rfl (cons_of (x := .int (a : Int)) rfl (cons_of (x := .lst [.str s]) (lst_of (cons_of (x := .str s) rfl nil_of) (by simp)) nil_of)))) rfl).trans e2
  exact (if_no (xNot_of (b := true) (xB_of ((call_of (n := 2) (cons_of u1 (cons_of u2 nil_of)) rfl).trans (same_ok _))))).trans rfl
theorem l7 {M : List Nat} {m : Nat} {W : Wy} (h : Ok M m W) (L : D) : ∃ v5 v6, a7 (LE L M m W none none none none) = some (.nx (LE L M m W v5 v6 none none)) := by
  have hm := h.m7
  obtain ⟨δ', h1, v5, v6, e⟩ := forD_keep (γ := gSet 5) (φ := sFor (iotaA sgE) (gSet 6) inB) (fun δ => ∃ v5 v6, δ = LE L M m W v5 v6 none none) (rngI 0 1 m) (LE L M m W none none none none) ⟨_, _, rfl⟩ (by
    intro x hx δ ⟨v5, v6, e⟩
    subst e
    obtain ⟨a, ha, rfl⟩ := rng_mem hx
    rw [show (0 + (a : Int) * 1) = a by omega]
    obtain ⟨δ2, h2, w6, e2⟩ := forD_keep (γ := gSet 6) (φ := inB) (fun δ => ∃ v6, δ = LE L M m W (some (.int (a : Int))) v6 none none) ((allS M).map D.str) (LE L M m W (some (.int (a : Int))) v6 none none) ⟨_, rfl⟩ (by
      intro x hx δ ⟨v6, e⟩
      subst e
      obtain ⟨s, hs, rfl⟩ := List.mem_map.mp hx
      exact ⟨_, rfl, _, in_turn h L a ha s hs, _, rfl⟩)
    exact ⟨_, rfl, _, for_of (sg_ok h L _ _ _ _) h2, _, w6, e2⟩)
  subst e
  exact ⟨v5, v6, for_of ((iotaR1 (j := (m : Int)) rfl (by omega) (by omega)).trans (by rw [Int.toNat_natCast])) h1⟩
theorem join_sgl (R : List Nat) (hl : R.length ≤ 1000) : joinD [] [.lst (sgl R)] = some (.str R) := by
  have := join_ones id R (by rw [PySem.sizeLine_eq]; omega)
  rw [List.map_id] at this
  exact this
theorem both {M : List Nat} {m : Nat} {W : Wy} (h : Ok M m W) (R : List Nat) (hl : R.length ≤ 1000) (hc : ∀ c ∈ R, c < 128) (a : Nat) (ha : a < m) (δ : DL.Env) (ε : DL.Env → Option D) (h1 : eVar 1 δ = some (.str M)) (h3 : eVar 3 δ = some (.lst (W.map rowL))) (h4 : eVar 4 δ = some (roomsD M W)) (h5 : eVar 5 δ = some (.int (a : Int))) (hε : ε δ = some (.lst (sgl R))) :
    eCall 2 m__law_same [] (eCons (eCall 4 m__law_asked [] (eCons (eVar 4) (eCons (eC (.int 1)) (eCons (eVar 5) (eCons (eBM joinD (eC (.str [])) (eCons ε eNil)) eNil))))) (eCons (eCall 4 m__law_due [] (eCons (eVar 3) (eCons (eVar 1) (eCons (eVar 5) (eCons ε eNil))))) eNil)) δ = some (.bl true) := by
  have e1 := asked_ok (M := M) (W := W) a R (goTo M W a (sgs R)) 1 (.inr rfl) (walked_ok h R a ha hc)
  have e2 := due_ok h (sgs R) a ha (fun x hx => by obtain ⟨c, _, rfl⟩ := sgs_in hx; simp)
  rw [← sgl_sgs] at e2
  have u1 : eCall 4 m__law_asked [] (eCons (eVar 4) (eCons (eC (.int 1)) (eCons (eVar 5) (eCons (eBM joinD (eC (.str [])) (eCons ε eNil)) eNil)))) δ = some (dueD (goTo M W a (sgs R))) := (call_of (n := 4) (cons_of h4 (cons_of (x := .int 1) rfl (cons_of h5 (cons_of ((bm_of (s := []) rfl (cons_of hε nil_of)).trans (join_sgl R hl)) nil_of)))) rfl).trans e1
  have u2 : eCall 4 m__law_due [] (eCons (eVar 3) (eCons (eVar 1) (eCons (eVar 5) (eCons ε eNil)))) δ = some (dueD (goTo M W a (sgs R))) := (call_of (n := 4) (cons_of h3 (cons_of h1 (cons_of h5 (cons_of hε nil_of)))) rfl).trans e2
  exact (call_of (n := 2) (cons_of u1 (cons_of u2 nil_of)) rfl).trans (same_ok _)
theorem l10 {M : List Nat} {m : Nat} {W : Wy} (h : Ok M m W) (L : D) (R : List Nat) (hl : R.length ≤ 1000) (hc : ∀ c ∈ R, c < 128) (a : Nat) (ha : a < m) (v6 : Option D) : ∃ v8, a10 (LE L M m W (some (.int (a : Int))) v6 (some (.lst (sgl R))) none) = some (.nx (LE L M m W (some (.int (a : Int))) v6 (some (.lst (sgl R))) v8)) := by
  obtain ⟨n, hn, hi⟩ : ∃ n : Nat, n ≤ 41 ∧ iotaR (eCons (eOp addX (eCB minD (eCons (eCB lenD (eCons (eVar 7) eNil)) (eCons (eC (.int 40)) eNil))) (eC (.int 1))) eNil) (LE L M m W (some (.int (a : Int))) v6 (some (.lst (sgl R))) none) = some (rngI 0 1 n) := by
    have e0 : eCB lenD (eCons (eVar 7) eNil) (LE L M m W (some (.int (a : Int))) v6 (some (.lst (sgl R))) none) = some (.int (R.length : Int)) := by
      refine (cb_of (cons_of (x := .lst (sgl R)) rfl nil_of)).trans ?_
      show some (D.int ((sgl R).length : Int)) = _
      unfold sgl
      rw [List.length_map]
    have e1 : eCB minD (eCons (eCB lenD (eCons (eVar 7) eNil)) (eCons (eC (.int 40)) eNil)) (LE L M m W (some (.int (a : Int))) v6 (some (.lst (sgl R))) none) = some (.int (if (40 : Int) < (R.length : Int) then 40 else (R.length : Int))) := (cb_of (cons_of e0 (cons_of (x := .int 40) rfl nil_of))).trans rfl
    refine ⟨((if (40 : Int) < (R.length : Int) then 40 else (R.length : Int)) + 1).toNat, by split <;> omega, iotaR1 (cons_of ((op_of e1 (y := .int 1) rfl).trans (add_int _ _)) nil_of) (by split <;> omega) (by split <;> omega)⟩
  obtain ⟨δ', h1, v8, e⟩ := forD_keep (γ := gSet 8) (φ := loB) (fun δ => ∃ v8, δ = LE L M m W (some (.int (a : Int))) v6 (some (.lst (sgl R))) v8) (rngI 0 1 n) (LE L M m W (some (.int (a : Int))) v6 (some (.lst (sgl R))) none) ⟨_, rfl⟩ (by
    intro x hx δ ⟨v8, e⟩
    subst e
    obtain ⟨k, hk, rfl⟩ := rng_mem hx
    rw [show (0 + (k : Int) * 1) = k by omega]
    have hε : eSl (eVar 7) xNoP (xP (eVar 8)) (LE L M m W (some (.int (a : Int))) v6 (some (.lst (sgl R))) (some (.int (k : Int)))) = some (.lst (sgl (R.take k))) := by
      show some (D.lst (cutL (sgl R) none (some (k : Int)))) = _
      rw [cut_to]
      unfold sgl
      rw [List.map_take]
    have := both h (R.take k) (by rw [List.length_take]; omega) (fun c z => hc c (List.mem_of_mem_take z)) a ha _ _ rfl rfl rfl rfl hε
    exact ⟨_, rfl, _, (if_no (xNot_of (b := true) (xB_of this))).trans rfl, _, rfl⟩)
  subst e
  exact ⟨v8, for_of hi h1⟩
theorem body (ns : List Int) (hl : ns.length ≤ 63) : f_law [some (.lst (ns.map D.int)), none, none, none, none, none, none, none, none] = some (.rt (.bl true)) := by
  have c0 : m__law_cell_at [.lst (ns.map D.int), .int 0] = some (.int (ns.getD 0 0)) := cell_at ns 0
  have c1 : m__law_cell_at [.lst (ns.map D.int), .int 1] = some (.int (ns.getD 1 0)) := cell_at ns 1
  have c2 : m__law_cell_at [.lst (ns.map D.int), .int 2] = some (.int (ns.getD 2 0)) := cell_at ns 2
  obtain ⟨M, hM, hmk⟩ := marks_ok (ns.getD 0 0)
  obtain ⟨m, hm⟩ := nat_of (show 0 ≤ 1 + ns.getD 1 0 % 7 by omega)
  obtain ⟨W, hW, htb⟩ := table_ok ns M hM m (by omega) (by omega)
  obtain ⟨R, hR, hRc, hrow⟩ := row_ok ns hl M hM
  obtain ⟨a, ha, ham⟩ := modD_nat (ns.getD 2 0) hW.m0
  generalize ns.getD 0 0 = z0 at *
  generalize ns.getD 1 0 = z1 at *
  generalize ns.getD 2 0 = z2 at *
  generalize D.lst (ns.map D.int) = L at *
  obtain ⟨v5, v6, t7⟩ := l7 hW L
  obtain ⟨v8, t10⟩ := l10 hW L R (by omega) hRc a ham v6
  have t1 : a1 [some L, none, none, none, none, none, none, none, none] = some (.nx [some L, some (.str M), none, none, none, none, none, none, none]) :=
    asg_of ((call_of (n := 1) (cons_of ((call_of (n := 2) (cons_of (x := L) rfl (cons_of (x := .int 0) rfl nil_of)) rfl).trans c0) nil_of) rfl).trans hmk)
  have t2 : a2 [some L, some (.str M), none, none, none, none, none, none, none] = some (.nx [some L, some (.str M), some (.int (m : Int)), none, none, none, none, none, none]) := by
    refine asg_of ((op_of (x := .int 1) (y := .int (z1 % 7)) rfl ((op_of (x := .int z1) (y := .int 7) ((call_of (n := 2) (cons_of (x := L) rfl (cons_of (x := .int 1) rfl nil_of)) rfl).trans c1) rfl).trans (modD_int (by decide)))).trans ?_)
    rw [add_int, hm]
  have t3 : a3 [some L, some (.str M), some (.int (m : Int)), none, none, none, none, none, none] = some (.nx [some L, some (.str M), some (.int (m : Int)), some (.lst (W.map rowL)), none, none, none, none, none]) :=
    asg_of ((call_of (n := 4) (cons_of (x := L) rfl (cons_of (x := .int 3) rfl (cons_of (x := .int (m : Int)) rfl (cons_of (x := .str M) rfl nil_of)))) rfl).trans htb)
  have t8 : a8 (LE L M m W v5 v6 none none) = some (.nx (LE L M m W v5 v6 (some (.lst (sgl R))) none)) :=
    asg_of ((call_of (n := 2) (cons_of (x := L) rfl (cons_of (x := .str M) rfl nil_of)) rfl).trans hrow)
  have t9 : a9 (LE L M m W v5 v6 (some (.lst (sgl R))) none) = some (.nx (LE L M m W (some (.int (a : Int))) v6 (some (.lst (sgl R))) none)) :=
    asg_of ((op_of (x := .int z2) (y := .int (m : Int)) ((call_of (n := 2) (cons_of (x := L) rfl (cons_of (x := .int 2) rfl nil_of)) rfl).trans c2) rfl).trans ha)
  rw [law_eq, seq_nx t1, seq_nx t2, seq_nx t3, seq_nx (l4 hW L), seq_nx (l5 hW L), seq_nx (l6 hW L), seq_nx t7, seq_nx t8, seq_nx t9, seq_nx t10]
  exact ret_of (both hW R (by omega) hRc a ham _ _ rfl rfl rfl rfl rfl)
theorem all_true : ∀ ns : List Int, ns.length ≤ 63 → m_law [.lst (ns.map D.int)] = some (.bl true) := fun ns hl => run_of rfl (body ns hl)
end K12

namespace K12
open PySem PySem.Spec L2 DL
def spLaw (K : PySem.W.Frag) : Sp := fun vs H Q _ => ∃ (a : Addr) (ns : List Int), vs = [.ref a] ∧ SqL K H a (ns.map V.int) ∧ ns.length ≤ 63 ∧ ∀ H', Q (.bl true) H'
theorem ok_top (hall : ∀ ns : List Int, ns.length ≤ 63 → m_law [.lst (ns.map D.int)] = some (.bl true)) {P : Program} {w : World} {K : PySem.W.Frag} {mg : Str → Option Value} {base : Heap} {t : Adr} (T : Txt K mg t) : FnOk P w K mg base CX0 5 t.a_law t.d_law ["script"] (spLaw K) :=
  (ok_law T).imp fun vs H Q E ⟨a, ns, hv, hr, hl, q⟩ => by
    subst hv
    refine ⟨fun _ => False, [.lst (ns.map D.int)], .bl true, fun _ z => z.elim, .cons ?_ .nil, rfl, hall ns hl, fun v H' _ r => ?_⟩
    · unfold Rep
      refine ⟨a, _, rfl, fun z => z.elim, hr, ?_⟩
      have := RepL.of_vals (cA := ⟨t.c, K⟩) (av := fun _ => False) (H := H) (xs := ns.map D.int) (by rw [List.all_map]; exact List.all_eq_true.mpr fun _ _ => rfl)
      rw [List.map_map] at this
      exact this
    · cases (show v = _ from r)
      exact q H'
theorem all_mk (hall : ∀ ns : List Int, ns.length ≤ 63 → m_law [.lst (ns.map D.int)] = some (.bl true)) {l : PySem.W.OpenLaw} {w : World} {K : PySem.W.Frag} {h : Heap} {mg : Str → Option Value} {fa : Addr} (X : K.In h) (G : h.Ns mainGlobals mg) (hfa : mg "law" = some (.ref fa))
    {c_Rooms : Addr}
    {c_BadMark : Addr}
    {c_GrooveError : Addr}
    {c_NoRow : Addr}
    {c_Nothing : Addr}
    {f0 : Addr} {od0 an0 : Option Addr} {sl0 : Array (Option Value)} {oc0 kV0 dc0 pm0 cd0 ct0 : Value}
    {f1 : Addr} {od1 an1 : Option Addr} {sl1 : Array (Option Value)} {oc1 kV1 dc1 pm1 cd1 ct1 : Value}
    {f2 : Addr} {od2 an2 : Option Addr} {sl2 : Array (Option Value)} {oc2 kV2 dc2 pm2 cd2 ct2 : Value}
    {f3 : Addr} {od3 an3 : Option Addr} {sl3 : Array (Option Value)} {oc3 kV3 dc3 pm3 cd3 ct3 : Value}
    {f4 : Addr} {od4 an4 : Option Addr} {sl4 : Array (Option Value)} {oc4 kV4 dc4 pm4 cd4 ct4 : Value}
    {f5 : Addr} {od5 an5 : Option Addr} {sl5 : Array (Option Value)} {oc5 kV5 dc5 pm5 cd5 ct5 : Value}
    {f6 : Addr} {od6 an6 : Option Addr} {sl6 : Array (Option Value)} {oc6 kV6 dc6 pm6 cd6 ct6 : Value}
    {f7 : Addr} {od7 an7 : Option Addr} {sl7 : Array (Option Value)} {oc7 kV7 dc7 pm7 cd7 ct7 : Value}
    {f8 : Addr} {od8 an8 : Option Addr} {sl8 : Array (Option Value)} {oc8 kV8 dc8 pm8 cd8 ct8 : Value}
    {f9 : Addr} {od9 an9 : Option Addr} {sl9 : Array (Option Value)} {oc9 kV9 dc9 pm9 cd9 ct9 : Value}
    {f10 : Addr} {od10 an10 : Option Addr} {sl10 : Array (Option Value)} {oc10 kV10 dc10 pm10 cd10 ct10 : Value}
    {f11 : Addr} {od11 an11 : Option Addr} {sl11 : Array (Option Value)} {oc11 kV11 dc11 pm11 cd11 ct11 : Value}
    {f12 : Addr} {od12 an12 : Option Addr} {sl12 : Array (Option Value)} {oc12 kV12 dc12 pm12 cd12 ct12 : Value}
    {f13 : Addr} {od13 an13 : Option Addr} {sl13 : Array (Option Value)} {oc13 kV13 dc13 pm13 cd13 ct13 : Value}
    (x_Rooms : PySem.W.nsIn K mainGlobals "Rooms" = some (some (.ref c_Rooms)))
    (x_BadMark : PySem.W.nsIn K mainGlobals "BadMark" = some (some (.ref c_BadMark)))
    (x_GrooveError : PySem.W.nsIn K mainGlobals "GrooveError" = some (some (.ref c_GrooveError)))
    (x_NoRow : PySem.W.nsIn K mainGlobals "NoRow" = some (some (.ref c_NoRow)))
    (x_Nothing : PySem.W.nsIn K mainGlobals "Nothing" = some (some (.ref c_Nothing)))
    (a0 : PySem.W.nsIn K mainGlobals "is_mark" = some (some (.ref f0)))
    (l0 : K.lookup f0 = some ⟨oc0, od0, .func (PySem.W.fnOf "is_mark" "is_mark" (defArgs s_is_mark) (defBody s_is_mark) (defScope s_is_mark) .none kV0 dc0 pm0 an0 cd0 ct0), sl0⟩)
    (c0 : PySem.W.codeIn K cd0 "is_mark" = true)
    (k0 : PySem.W.keepIn K (.ref f0) = true)
    (a1 : PySem.W.findIn K (.ref c_Rooms) "__init__" = some (some (.ref f1)))
    (l1 : K.lookup f1 = some ⟨oc1, od1, .func (PySem.W.fnOf "__init__" "Rooms.__init__" (defArgs s_Rooms_init) (defBody s_Rooms_init) (defScope s_Rooms_init) .none kV1 dc1 pm1 an1 cd1 ct1), sl1⟩)
    (c1 : PySem.W.codeIn K cd1 "Rooms.__init__" = true)
    (k1 : PySem.W.keepIn K (.ref f1) = true)
    (a2 : PySem.W.findIn K (.ref c_Rooms) "many" = some (some (.ref f2)))
    (l2 : K.lookup f2 = some ⟨oc2, od2, .func (PySem.W.fnOf "many" "Rooms.many" (defArgs s_Rooms_many) (defBody s_Rooms_many) (defScope s_Rooms_many) .none kV2 dc2 pm2 an2 cd2 ct2), sl2⟩)
    (c2 : PySem.W.codeIn K cd2 "Rooms.many" = true)
    (k2 : PySem.W.keepIn K (.ref f2) = true)
    (a3 : PySem.W.findIn K (.ref c_Rooms) "led" = some (some (.ref f3)))
    (l3 : K.lookup f3 = some ⟨oc3, od3, .func (PySem.W.fnOf "led" "Rooms.led" (defArgs s_Rooms_led) (defBody s_Rooms_led) (defScope s_Rooms_led) .none kV3 dc3 pm3 an3 cd3 ct3), sl3⟩)
    (c3 : PySem.W.codeIn K cd3 "Rooms.led" = true)
    (k3 : PySem.W.keepIn K (.ref f3) = true)
    (a4 : PySem.W.findIn K (.ref c_Rooms) "walked" = some (some (.ref f4)))
    (l4 : K.lookup f4 = some ⟨oc4, od4, .func (PySem.W.fnOf "walked" "Rooms.walked" (defArgs s_Rooms_walked) (defBody s_Rooms_walked) (defScope s_Rooms_walked) .none kV4 dc4 pm4 an4 cd4 ct4), sl4⟩)
    (c4 : PySem.W.codeIn K cd4 "Rooms.walked" = true)
    (k4 : PySem.W.keepIn K (.ref f4) = true)
    (a5 : PySem.W.nsIn K mainGlobals "_law_cell_at" = some (some (.ref f5)))
    (l5 : K.lookup f5 = some ⟨oc5, od5, .func (PySem.W.fnOf "_law_cell_at" "_law_cell_at" (defArgs s__law_cell_at) (defBody s__law_cell_at) (defScope s__law_cell_at) .none kV5 dc5 pm5 an5 cd5 ct5), sl5⟩)
    (c5 : PySem.W.codeIn K cd5 "_law_cell_at" = true)
    (k5 : PySem.W.keepIn K (.ref f5) = true)
    (a6 : PySem.W.nsIn K mainGlobals "_law_marks" = some (some (.ref f6)))
    (l6 : K.lookup f6 = some ⟨oc6, od6, .func (PySem.W.fnOf "_law_marks" "_law_marks" (defArgs s__law_marks) (defBody s__law_marks) (defScope s__law_marks) .none kV6 dc6 pm6 an6 cd6 ct6), sl6⟩)
    (c6 : PySem.W.codeIn K cd6 "_law_marks" = true)
    (k6 : PySem.W.keepIn K (.ref f6) = true)
    (a7 : PySem.W.nsIn K mainGlobals "_law_table" = some (some (.ref f7)))
    (l7 : K.lookup f7 = some ⟨oc7, od7, .func (PySem.W.fnOf "_law_table" "_law_table" (defArgs s__law_table) (defBody s__law_table) (defScope s__law_table) .none kV7 dc7 pm7 an7 cd7 ct7), sl7⟩)
    (c7 : PySem.W.codeIn K cd7 "_law_table" = true)
    (k7 : PySem.W.keepIn K (.ref f7) = true)
    (a8 : PySem.W.nsIn K mainGlobals "_law_odd" = some (some (.ref f8)))
    (l8 : K.lookup f8 = some ⟨oc8, od8, .func (PySem.W.fnOf "_law_odd" "_law_odd" (defArgs s__law_odd) (defBody s__law_odd) (defScope s__law_odd) .none kV8 dc8 pm8 an8 cd8 ct8), sl8⟩)
    (c8 : PySem.W.codeIn K cd8 "_law_odd" = true)
    (k8 : PySem.W.keepIn K (.ref f8) = true)
    (a9 : PySem.W.nsIn K mainGlobals "_law_row" = some (some (.ref f9)))
    (l9 : K.lookup f9 = some ⟨oc9, od9, .func (PySem.W.fnOf "_law_row" "_law_row" (defArgs s__law_row) (defBody s__law_row) (defScope s__law_row) .none kV9 dc9 pm9 an9 cd9 ct9), sl9⟩)
    (c9 : PySem.W.codeIn K cd9 "_law_row" = true)
    (k9 : PySem.W.keepIn K (.ref f9) = true)
    (a10 : PySem.W.nsIn K mainGlobals "_law_asked" = some (some (.ref f10)))
    (l10 : K.lookup f10 = some ⟨oc10, od10, .func (PySem.W.fnOf "_law_asked" "_law_asked" (defArgs s__law_asked) (defBody s__law_asked) (defScope s__law_asked) .none kV10 dc10 pm10 an10 cd10 ct10), sl10⟩)
    (c10 : PySem.W.codeIn K cd10 "_law_asked" = true)
    (k10 : PySem.W.keepIn K (.ref f10) = true)
    (a11 : PySem.W.nsIn K mainGlobals "_law_due" = some (some (.ref f11)))
    (l11 : K.lookup f11 = some ⟨oc11, od11, .func (PySem.W.fnOf "_law_due" "_law_due" (defArgs s__law_due) (defBody s__law_due) (defScope s__law_due) .none kV11 dc11 pm11 an11 cd11 ct11), sl11⟩)
    (c11 : PySem.W.codeIn K cd11 "_law_due" = true)
    (k11 : PySem.W.keepIn K (.ref f11) = true)
    (a12 : PySem.W.nsIn K mainGlobals "_law_same" = some (some (.ref f12)))
    (l12 : K.lookup f12 = some ⟨oc12, od12, .func (PySem.W.fnOf "_law_same" "_law_same" (defArgs s__law_same) (defBody s__law_same) (defScope s__law_same) .none kV12 dc12 pm12 an12 cd12 ct12), sl12⟩)
    (c12 : PySem.W.codeIn K cd12 "_law_same" = true)
    (k12 : PySem.W.keepIn K (.ref f12) = true)
    (a13 : PySem.W.nsIn K mainGlobals "law" = some (some (.ref f13)))
    (l13 : K.lookup f13 = some ⟨oc13, od13, .func (PySem.W.fnOf "law" "law" (defArgs s_law) (defBody s_law) (defScope s_law) .none kV13 dc13 pm13 an13 cd13 ct13), sl13⟩)
    (c13 : PySem.W.codeIn K cd13 "law" = true)
    (k13 : PySem.W.keepIn K (.ref f13) = true)
    (z_ValueError : PySem.W.nsIn K mainGlobals "ValueError" = some none)
    (z_bool : PySem.W.nsIn K mainGlobals "bool" = some none)
    (z_int : PySem.W.nsIn K mainGlobals "int" = some none)
    (z_isinstance : PySem.W.nsIn K mainGlobals "isinstance" = some none)
    (z_len : PySem.W.nsIn K mainGlobals "len" = some none)
    (z_list : PySem.W.nsIn K mainGlobals "list" = some none)
    (z_min : PySem.W.nsIn K mainGlobals "min" = some none)
    (z_range : PySem.W.nsIn K mainGlobals "range" = some none)
    (z_tuple : PySem.W.nsIn K mainGlobals "tuple" = some none)
    (pg_Rooms : PySem.W.plainGet K c_Rooms Str.empty = true)
    (hd_Rooms : PySem.W.hasDictIn K c_Rooms = true)
    (po_Rooms : PySem.W.plainOver K c_Rooms = true)
    (sa_Rooms : PySem.W.findIn K (.ref c_Rooms) "__setattr__" = some (some (.builtin "object.__setattr__")))
    (ha_Rooms : PySem.W.findIn K (.ref c_Rooms) "__class__" = some (some (.builtin "object.__class__")))
    (hm_Rooms : PySem.W.mroIn K c_Rooms (.type "object") = some true)
    (mm_Rooms : PySem.W.makesIn K c_Rooms = true)
    (kc_Rooms : PySem.W.keepIn K (.ref c_Rooms) = true)
    (mi_Rooms : PySem.W.findIn K (.ref c_Rooms) "__init__" = some (some (.ref f1)))
    (mf_Rooms : PySem.W.isFn K (.ref f1) = true)
    (hn_ : PySem.W.specialIn K (.builtin "object.__class__") "__get__" = some (some (.builtin "getset_descriptor.__get__")))
    (htk_ : PySem.W.takesIn K (.builtin "object.__class__") = some true)
    (e0_BadMark : PySem.W.excIn K c_BadMark bmV "ValueError.__new__" = true)
    (e1_BadMark : PySem.W.findIn K (.ref c_BadMark) "__getattribute__" = some (some (.builtin "BaseException.__getattribute__")))
    (e5_BadMark : PySem.W.mroIn K c_BadMark (.type "BaseException") = some true)
    (e2_BadMark : PySem.W.findIn K (.ref c_BadMark) "__getattr__" = some none)
    (e3_BadMark : PySem.W.findIn K (.ref c_BadMark) "__class__" = some (some (.builtin "object.__class__")))
    (e4_BadMark : PySem.W.mroIn K c_BadMark (.type "object") = some true)
    (em_BadMark_GrooveError : PySem.W.exmOne K (.ref c_BadMark) (.ref c_GrooveError) = some true)
    (i_BadMark_BadMark : PySem.W.kitOne K (.ref c_BadMark) (.ref c_BadMark) = some true)
    (i_BadMark_ValueError : PySem.W.kitOne K (.ref c_BadMark) (.type "ValueError") = some true)
    (i_BadMark_NoRow : PySem.W.kitOne K (.ref c_BadMark) (.ref c_NoRow) = some false)
    (i_BadMark_Nothing : PySem.W.kitOne K (.ref c_BadMark) (.ref c_Nothing) = some false)
    (na_Rooms_marks : PySem.W.findIn K (.ref c_Rooms) "marks" = some none)
    (na_Rooms_ways : PySem.W.findIn K (.ref c_Rooms) "ways" = some none)
    (ma_Rooms_led : PySem.W.findIn K (.ref c_Rooms) "led" = some (some (.ref f3)))
    (mn_Rooms_led : PySem.W.isFn K (.ref f3) = true)
    (ma_Rooms_many : PySem.W.findIn K (.ref c_Rooms) "many" = some (some (.ref f2)))
    (mn_Rooms_many : PySem.W.isFn K (.ref f2) = true)
    (ma_Rooms_walked : PySem.W.findIn K (.ref c_Rooms) "walked" = some (some (.ref f4)))
    (mn_Rooms_walked : PySem.W.isFn K (.ref f4) = true)
    (i_NoneType_bool : PySem.W.kitOne K (.type "NoneType") (.type "bool") = some false)
    (i_bool_bool : PySem.W.kitOne K (.type "bool") (.type "bool") = some true)
    (i_int_bool : PySem.W.kitOne K (.type "int") (.type "bool") = some false)
    (i_str_bool : PySem.W.kitOne K (.type "str") (.type "bool") = some false)
    (i_list_bool : PySem.W.kitOne K (.type "list") (.type "bool") = some false)
    (i_tuple_bool : PySem.W.kitOne K (.type "tuple") (.type "bool") = some false)
    (i_Rooms_bool : PySem.W.kitOne K (.ref c_Rooms) (.type "bool") = some false)
    (i_NoneType_tuple : PySem.W.kitOne K (.type "NoneType") (.type "tuple") = some false)
    (i_bool_tuple : PySem.W.kitOne K (.type "bool") (.type "tuple") = some false)
    (i_int_tuple : PySem.W.kitOne K (.type "int") (.type "tuple") = some false)
    (i_str_tuple : PySem.W.kitOne K (.type "str") (.type "tuple") = some false)
    (i_list_tuple : PySem.W.kitOne K (.type "list") (.type "tuple") = some false)
    (i_tuple_tuple : PySem.W.kitOne K (.type "tuple") (.type "tuple") = some true)
    (i_Rooms_tuple : PySem.W.kitOne K (.ref c_Rooms) (.type "tuple") = some false)
    : ∃ fd : FuncData, (∀ (s : Shared) (v : Value), BindsTo s fd ⟨[v], []⟩ [("script", v)]) ∧ ∀ base : Heap, K.In base → base.Ns mainGlobals mg → FnOk l.prog w K mg base CX0 5 fa fd ["script"] (spLaw K) := by
  have e := hfa.symm.trans (PySem.W.mg_of X G a13)
  cases e
  have F0 : FunX K "is_mark" "is_mark" s_is_mark f0 _ := (fun_mk (st := s_is_mark) l0 c0 k0).x
  have b0 := (fun_mk (st := s_is_mark) l0 c0 k0).binds (ps := ["marks", "text"]) fun _ _ _ _ _ _ us hl => match us, hl with | [_, _], _ => rfl
  have F1 : FunX K "__init__" "Rooms.__init__" s_Rooms_init f1 _ := (fun_mk (st := s_Rooms_init) l1 c1 k1).x
  have b1 := (fun_mk (st := s_Rooms_init) l1 c1 k1).binds (ps := ["self", "marks", "ways"]) fun _ _ _ _ _ _ us hl => match us, hl with | [_, _, _], _ => rfl
  have F2 : FunX K "many" "Rooms.many" s_Rooms_many f2 _ := (fun_mk (st := s_Rooms_many) l2 c2 k2).x
  have b2 := (fun_mk (st := s_Rooms_many) l2 c2 k2).binds (ps := ["self"]) fun _ _ _ _ _ _ us hl => match us, hl with | [_], _ => rfl
  have F3 : FunX K "led" "Rooms.led" s_Rooms_led f3 _ := (fun_mk (st := s_Rooms_led) l3 c3 k3).x
  have b3 := (fun_mk (st := s_Rooms_led) l3 c3 k3).binds (ps := ["self", "room", "mark"]) fun _ _ _ _ _ _ us hl => match us, hl with | [_, _, _], _ => rfl
  have F4 : FunX K "walked" "Rooms.walked" s_Rooms_walked f4 _ := (fun_mk (st := s_Rooms_walked) l4 c4 k4).x
  have b4 := (fun_mk (st := s_Rooms_walked) l4 c4 k4).binds (ps := ["self", "room", "row"]) fun _ _ _ _ _ _ us hl => match us, hl with | [_, _, _], _ => rfl
  have F5 : FunX K "_law_cell_at" "_law_cell_at" s__law_cell_at f5 _ := (fun_mk (st := s__law_cell_at) l5 c5 k5).x
  have b5 := (fun_mk (st := s__law_cell_at) l5 c5 k5).binds (ps := ["script", "k"]) fun _ _ _ _ _ _ us hl => match us, hl with | [_, _], _ => rfl
  have F6 : FunX K "_law_marks" "_law_marks" s__law_marks f6 _ := (fun_mk (st := s__law_marks) l6 c6 k6).x
  have b6 := (fun_mk (st := s__law_marks) l6 c6 k6).binds (ps := ["cell"]) fun _ _ _ _ _ _ us hl => match us, hl with | [_], _ => rfl
  have F7 : FunX K "_law_table" "_law_table" s__law_table f7 _ := (fun_mk (st := s__law_table) l7 c7 k7).x
  have b7 := (fun_mk (st := s__law_table) l7 c7 k7).binds (ps := ["script", "at", "many", "marks"]) fun _ _ _ _ _ _ us hl => match us, hl with | [_, _, _, _], _ => rfl
  have F8 : FunX K "_law_odd" "_law_odd" s__law_odd f8 _ := (fun_mk (st := s__law_odd) l8 c8 k8).x
  have b8 := (fun_mk (st := s__law_odd) l8 c8 k8).binds (ps := ["marks"]) fun _ _ _ _ _ _ us hl => match us, hl with | [_], _ => rfl
  have F9 : FunX K "_law_row" "_law_row" s__law_row f9 _ := (fun_mk (st := s__law_row) l9 c9 k9).x
  have b9 := (fun_mk (st := s__law_row) l9 c9 k9).binds (ps := ["script", "marks"]) fun _ _ _ _ _ _ us hl => match us, hl with | [_, _], _ => rfl
  have F10 : FunX K "_law_asked" "_law_asked" s__law_asked f10 _ := (fun_mk (st := s__law_asked) l10 c10 k10).x
  have b10 := (fun_mk (st := s__law_asked) l10 c10 k10).binds (ps := ["rooms", "way", "room", "row"]) fun _ _ _ _ _ _ us hl => match us, hl with | [_, _, _, _], _ => rfl
  have F11 : FunX K "_law_due" "_law_due" s__law_due f11 _ := (fun_mk (st := s__law_due) l11 c11 k11).x
  have b11 := (fun_mk (st := s__law_due) l11 c11 k11).binds (ps := ["table", "marks", "room", "row"]) fun _ _ _ _ _ _ us hl => match us, hl with | [_, _, _, _], _ => rfl
  have F12 : FunX K "_law_same" "_law_same" s__law_same f12 _ := (fun_mk (st := s__law_same) l12 c12 k12).x
  have b12 := (fun_mk (st := s__law_same) l12 c12 k12).binds (ps := ["told", "due"]) fun _ _ _ _ _ _ us hl => match us, hl with | [_, _], _ => rfl
  have F13 : FunX K "law" "law" s_law fa _ := (fun_mk (st := s_law) l13 c13 k13).x
  have b13 := (fun_mk (st := s_law) l13 c13 k13).binds (ps := ["script"]) fun _ _ _ _ _ _ us hl => match us, hl with | [_], _ => rfl
  have T : Txt K mg { a_is_mark := f0, d_is_mark := _, a_Rooms_init := f1, d_Rooms_init := _, a_Rooms_many := f2, d_Rooms_many := _, a_Rooms_led := f3, d_Rooms_led := _, a_Rooms_walked := f4, d_Rooms_walked := _, a__law_cell_at := f5, d__law_cell_at := _, a__law_marks := f6, d__law_marks := _, a__law_table := f7, d__law_table := _, a__law_odd := f8, d__law_odd := _, a__law_row := f9, d__law_row := _, a__law_asked := f10, d__law_asked := _, a__law_due := f11, d__law_due := _, a__law_same := f12, d__law_same := _, a_law := fa, d_law := _, c_Rooms := c_Rooms, c_BadMark := c_BadMark, c_GrooveError := c_GrooveError, c_NoRow := c_NoRow, c_Nothing := c_Nothing } := { f_is_mark := F0, b_is_mark := b0, g_is_mark := PySem.W.mg_of X G a0, k_is_mark := k0, f_Rooms_init := F1, b_Rooms_init := b1, k_Rooms_init := k1, f_Rooms_many := F2, b_Rooms_many := b2, k_Rooms_many := k2, f_Rooms_led := F3, b_Rooms_led := b3, k_Rooms_led := k3, f_Rooms_walked := F4, b_Rooms_walked := b4, k_Rooms_walked := k4, f__law_cell_at := F5, b__law_cell_at := b5, g__law_cell_at := PySem.W.mg_of X G a5, k__law_cell_at := k5, f__law_marks := F6, b__law_marks := b6, g__law_marks := PySem.W.mg_of X G a6, k__law_marks := k6, f__law_table := F7, b__law_table := b7, g__law_table := PySem.W.mg_of X G a7, k__law_table := k7, f__law_odd := F8, b__law_odd := b8, g__law_odd := PySem.W.mg_of X G a8, k__law_odd := k8, f__law_row := F9, b__law_row := b9, g__law_row := PySem.W.mg_of X G a9, k__law_row := k9, f__law_asked := F10, b__law_asked := b10, g__law_asked := PySem.W.mg_of X G a10, k__law_asked := k10, f__law_due := F11, b__law_due := b11, g__law_due := PySem.W.mg_of X G a11, k__law_due := k11, f__law_same := F12, b__law_same := b12, g__law_same := PySem.W.mg_of X G a12, k__law_same := k12, f_law := F13, b_law := b13, g_law := PySem.W.mg_of X G a13, k_law := k13, n_ValueError := PySem.W.mg_none_of X G z_ValueError, n_bool := PySem.W.mg_none_of X G z_bool, n_int := PySem.W.mg_none_of X G z_int, n_isinstance := PySem.W.mg_none_of X G z_isinstance, n_len := PySem.W.mg_none_of X G z_len, n_list := PySem.W.mg_none_of X G z_list, n_min := PySem.W.mg_none_of X G z_min, n_range := PySem.W.mg_none_of X G z_range, n_tuple := PySem.W.mg_none_of X G z_tuple, g_Rooms := PySem.W.mg_of X G x_Rooms, cl_Rooms := ⟨pg_Rooms, hd_Rooms, po_Rooms, sa_Rooms⟩, ci_Rooms := ⟨⟨pg_Rooms, hd_Rooms, po_Rooms, sa_Rooms⟩, ha_Rooms, hn_, htk_, hm_Rooms⟩, mk_Rooms := ⟨mm_Rooms, mi_Rooms, mf_Rooms, kc_Rooms⟩, fl_marks := (by intro c hc; simp only [fc_marks, List.mem_cons, List.mem_nil_iff, or_false] at hc; rcases hc with rfl <;> first | exact ⟨⟨pg_Rooms, hd_Rooms, po_Rooms, sa_Rooms⟩, na_Rooms_marks⟩), fl_ways := (by intro c hc; simp only [fc_ways, List.mem_cons, List.mem_nil_iff, or_false] at hc; rcases hc with rfl <;> first | exact ⟨⟨pg_Rooms, hd_Rooms, po_Rooms, sa_Rooms⟩, na_Rooms_ways⟩), g_BadMark := PySem.W.mg_of X G x_BadMark, ex_BadMark := .of e0_BadMark e1_BadMark e5_BadMark e2_BadMark e3_BadMark hn_ htk_ e4_BadMark, g_GrooveError := PySem.W.mg_of X G x_GrooveError, g_NoRow := PySem.W.mg_of X G x_NoRow, g_Nothing := PySem.W.mg_of X G x_Nothing, xm_GrooveError := (by intro c hc; simp only [List.mem_cons, List.mem_nil_iff, or_false] at hc; rcases hc with rfl <;> first | exact ⟨.of e0_BadMark e1_BadMark e5_BadMark e2_BadMark e3_BadMark hn_ htk_ e4_BadMark, em_BadMark_GrooveError⟩), ie_BadMark := isiE_tab (fun _ z => z) (by intro p hp; simp only [ie_BadMark, List.mem_cons, List.mem_nil_iff, or_false] at hp; rcases hp with rfl <;> first | exact i_BadMark_BadMark), ie_ValueError := isiE_tab (fun _ z => z) (by intro p hp; simp only [ie_ValueError, List.mem_cons, List.mem_nil_iff, or_false] at hp; rcases hp with rfl <;> first | exact i_BadMark_ValueError), ie_NoRow := isiE_tab (fun _ z => z) (by intro p hp; simp only [ie_NoRow, List.mem_cons, List.mem_nil_iff, or_false] at hp; rcases hp with rfl <;> first | exact i_BadMark_NoRow), ie_Nothing := isiE_tab (fun _ z => z) (by intro p hp; simp only [ie_Nothing, List.mem_cons, List.mem_nil_iff, or_false] at hp; rcases hp with rfl <;> first | exact i_BadMark_Nothing), me_Rooms_led := ⟨ma_Rooms_led, mn_Rooms_led, k3⟩, me_Rooms_many := ⟨ma_Rooms_many, mn_Rooms_many, k2⟩, me_Rooms_walked := ⟨ma_Rooms_walked, mn_Rooms_walked, k4⟩, isi_bool := isi_tab (by intro p hp; simp only [it_bool, List.mem_cons, List.mem_nil_iff, or_false] at hp; rcases hp with rfl | rfl | rfl | rfl | rfl | rfl | rfl <;> first | exact i_NoneType_bool | exact i_bool_bool | exact i_int_bool | exact i_str_bool | exact i_list_bool | exact i_tuple_bool | exact ⟨i_Rooms_bool, ⟨pg_Rooms, hd_Rooms, po_Rooms, sa_Rooms⟩, ha_Rooms, hn_, htk_, hm_Rooms⟩), isi_tuple := isi_tab (by intro p hp; simp only [it_tuple, List.mem_cons, List.mem_nil_iff, or_false] at hp; rcases hp with rfl | rfl | rfl | rfl | rfl | rfl | rfl <;> first | exact i_NoneType_tuple | exact i_bool_tuple | exact i_int_tuple | exact i_str_tuple | exact i_list_tuple | exact i_tuple_tuple | exact ⟨i_Rooms_tuple, ⟨pg_Rooms, hd_Rooms, po_Rooms, sa_Rooms⟩, ha_Rooms, hn_, htk_, hm_Rooms⟩) }
  exact ⟨PySem.W.fnOf "law" "law" (defArgs s_law) (defBody s_law) (defScope s_law) .none kV13 dc13 pm13 an13 cd13 ct13, fun s v => .of_eq rfl, fun base _ _ => ok_top hall T⟩
theorem walk {l : PySem.W.OpenLaw} {q : Program} {loose : List Str} {XP : (Str → Option Value) → Heap → Prop} {YP : World → Heap → Prop} {d : DefRec} {K : Params → PySem.W.Frag} (hn : l.most = some 63) (hdf : d.params.defaults = [])
    (hY : ∀ (w : World) (h : Heap), YP w h → (K w.params).In h)
    (F : ∀ (w : World) (mg : Str → Option Value) (fa : Addr) (h : Heap), (K w.params).In h → h.Ns mainGlobals mg → mg d.name = some (.ref fa) →
      ∃ fd : FuncData, (∀ (s : Shared) (u : Value), BindsTo s fd ⟨[u], []⟩ [("script", u)]) ∧ ∀ base : Heap, (K w.params).In base → base.Ns mainGlobals mg → FnOk l.prog w (K w.params) mg base CX0 5 fa fd ["script"] (spLaw (K w.params))) :
    PySem.W.WalkO q loose XP YP l.row.toRowW d [] (fun f vs => PySem.call f vs) :=
  L2.walk_of (n := 63) (k := 5) (x := "script") (CX := fun _ => CX0) (sp := fun w => spLaw (K w.params)) hn (by decide) hdf ⟨rfl, by decide, by decide⟩ hY F (fun _ _ a ns hl _ hS => ⟨a, ns, rfl, hS, hl, fun _ => rfl⟩) fun _ _ _ _ _ z => z
end K12
open PySem PySem.W PyProof.Rows
set_option maxRecDepth 100000 in
set_option maxHeartbeats 0 in
theorem PySem.Challenge.cw_grooveway_k12_rooms_walked_holds : PySem.Challenge.rw_grooveway_k12_rooms_walked.Holds := by
  w_on; o_law; k_head; (case hw => w_witness2)
  k_fill
  refine K12.walk (l := PySem.Challenge.rw_grooveway_k12_rooms_walked) rfl rfl (fun w h Y => PySem.W.kIn_of Y) ?F
  case F =>
    intro w mg fa h KX G hmg
    refine' K12.all_mk K12.all_true KX G hmg ?x_Rooms ?x_BadMark ?x_GrooveError ?x_NoRow ?x_Nothing ?a0 ?l0 ?c0 ?k0 ?a1 ?l1 ?c1 ?k1 ?a2 ?l2 ?c2 ?k2 ?a3 ?l3 ?c3 ?k3 ?a4 ?l4 ?c4 ?k4 ?a5 ?l5 ?c5 ?k5 ?a6 ?l6 ?c6 ?k6 ?a7 ?l7 ?c7 ?k7 ?a8 ?l8 ?c8 ?k8 ?a9 ?l9 ?c9 ?k9 ?a10 ?l10 ?c10 ?k10 ?a11 ?l11 ?c11 ?k11 ?a12 ?l12 ?c12 ?k12 ?a13 ?l13 ?c13 ?k13 ?z_ValueError ?z_bool ?z_int ?z_isinstance ?z_len ?z_list ?z_min ?z_range ?z_tuple ?pg_Rooms ?hd_Rooms ?po_Rooms ?sa_Rooms ?ha_Rooms ?hm_Rooms ?mm_Rooms ?kc_Rooms ?mi_Rooms ?mf_Rooms ?hn_ ?htk_ ?e0_BadMark ?e1_BadMark ?e5_BadMark ?e2_BadMark ?e3_BadMark ?e4_BadMark ?em_BadMark_GrooveError ?i_BadMark_BadMark ?i_BadMark_ValueError ?i_BadMark_NoRow ?i_BadMark_Nothing ?na_Rooms_marks ?na_Rooms_ways ?ma_Rooms_led ?mn_Rooms_led ?ma_Rooms_many ?mn_Rooms_many ?ma_Rooms_walked ?mn_Rooms_walked ?i_NoneType_bool ?i_bool_bool ?i_int_bool ?i_str_bool ?i_list_bool ?i_tuple_bool ?i_Rooms_bool ?i_NoneType_tuple ?i_bool_tuple ?i_int_tuple ?i_str_tuple ?i_list_tuple ?i_tuple_tuple ?i_Rooms_tuple
    (case x_Rooms => k_is)
    (case x_BadMark => k_is)
    (case x_GrooveError => k_is)
    (case x_NoRow => k_is)
    (case x_Nothing => k_is)
    (case a0 => k_is)
    (case l0 => k_is)
    (case c0 => k_is)
    (case k0 => k_is)
    (case a1 => k_is)
    (case l1 => k_is)
    (case c1 => k_is)
    (case k1 => k_is)
    (case a2 => k_is)
    (case l2 => k_is)
    (case c2 => k_is)
    (case k2 => k_is)
    (case a3 => k_is)
    (case l3 => k_is)
    (case c3 => k_is)
    (case k3 => k_is)
    (case a4 => k_is)
    (case l4 => k_is)
    (case c4 => k_is)
    (case k4 => k_is)
    (case a5 => k_is)
    (case l5 => k_is)
    (case c5 => k_is)
    (case k5 => k_is)
    (case a6 => k_is)
    (case l6 => k_is)
    (case c6 => k_is)
    (case k6 => k_is)
    (case a7 => k_is)
    (case l7 => k_is)
    (case c7 => k_is)
    (case k7 => k_is)
    (case a8 => k_is)
    (case l8 => k_is)
    (case c8 => k_is)
    (case k8 => k_is)
    (case a9 => k_is)
    (case l9 => k_is)
    (case c9 => k_is)
    (case k9 => k_is)
    (case a10 => k_is)
    (case l10 => k_is)
    (case c10 => k_is)
    (case k10 => k_is)
    (case a11 => k_is)
    (case l11 => k_is)
    (case c11 => k_is)
    (case k11 => k_is)
    (case a12 => k_is)
    (case l12 => k_is)
    (case c12 => k_is)
    (case k12 => k_is)
    (case a13 => k_is)
    (case l13 => k_is)
    (case c13 => k_is)
    (case k13 => k_is)
    (case z_ValueError => k_is)
    (case z_bool => k_is)
    (case z_int => k_is)
    (case z_isinstance => k_is)
    (case z_len => k_is)
    (case z_list => k_is)
    (case z_min => k_is)
    (case z_range => k_is)
    (case z_tuple => k_is)
    (case pg_Rooms => k_is)
    (case hd_Rooms => k_is)
    (case po_Rooms => k_is)
    (case sa_Rooms => k_is)
    (case ha_Rooms => k_is)
    (case hm_Rooms => k_is)
    (case mm_Rooms => k_is)
    (case kc_Rooms => k_is)
    (case mi_Rooms => k_is)
    (case mf_Rooms => k_is)
    (case hn_ => k_is)
    (case htk_ => k_is)
    (case e0_BadMark => k_exc)
    (case e1_BadMark => k_is)
    (case e5_BadMark => k_is)
    (case e2_BadMark => k_is)
    (case e3_BadMark => k_is)
    (case e4_BadMark => k_is)
    (case em_BadMark_GrooveError => kts_exm)
    (case i_BadMark_BadMark => kit_is)
    (case i_BadMark_ValueError => kit_is)
    (case i_BadMark_NoRow => kit_is)
    (case i_BadMark_Nothing => kit_is)
    (case na_Rooms_marks => k_is)
    (case na_Rooms_ways => k_is)
    (case ma_Rooms_led => k_is)
    (case mn_Rooms_led => k_is)
    (case ma_Rooms_many => k_is)
    (case mn_Rooms_many => k_is)
    (case ma_Rooms_walked => k_is)
    (case mn_Rooms_walked => k_is)
    (case i_NoneType_bool => kit_is)
    (case i_bool_bool => kit_is)
    (case i_int_bool => kit_is)
    (case i_str_bool => kit_is)
    (case i_list_bool => kit_is)
    (case i_tuple_bool => kit_is)
    (case i_Rooms_bool => kit_is)
    (case i_NoneType_tuple => kit_is)
    (case i_bool_tuple => kit_is)
    (case i_int_tuple => kit_is)
    (case i_str_tuple => kit_is)
    (case i_list_tuple => kit_is)
    (case i_tuple_tuple => kit_is)
    (case i_Rooms_tuple => kit_is)

