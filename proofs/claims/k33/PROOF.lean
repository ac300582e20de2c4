import PyProof.Rows.All
import Wide.All
import OpenK.AllK
import Wide.FinOn
import Lean
import PyProof.EqAt
import PyProof.EqKinds
import PyProof.TupleCall
import PyProof.Rows.StrCountLaw
import PyProof.Rows.StrFirst
import PyProof.Rows.StrLast
import PyProof.Rows.StrNews2
import PyProof.Rows.StrSplitCount
import PyProof.StrBlockI
import PyProof.StrLawsIn
import PyProof.StrLawsLast
import PyProof.EnumMake
import PyProof.FString
import PyProof.ReprStr
import PyProof.StrLawsRepr
import PyProof.ListStr
import PySem.Challenge.RW_grooveway_k33_leads_to_parts
set_option Elab.async false
set_option linter.all false
set_option maxRecDepth 100000
set_option maxHeartbeats 4000000
namespace L2
open PySem PySem.Spec PyProof.Rows
abbrev Key := Sum Int Str
def X4 : Key -> Value -> Bool
 | .inl k, v => Value.isInt k v
 | .inr x, v => Value.isStrOf x v
def ZgX (w : World) : Key -> Int
 | .inl k => hashInt k
 | .inr x => hashStr w x
theorem Y7 : ∀ {k : Key} {v : Value}, X4 k v = true -> (∃ i t, k = Sum.inl i /\ v = Value.int i t) \/ (∃ x t, k = Sum.inr x /\ v = Value.str x t)
 | .inl i, v, h => by
  obtain ⟨t, e⟩ := Value.isInt_shape (k := i) (v := v) h
  exact .inl ⟨i, t, rfl, e⟩
 | .inr x, v, h => by
  obtain ⟨t, e⟩ := Value.isStrOf_shape (x := x) (v := v) h
  exact .inr ⟨x, t, rfl, e⟩
theorem Zb9 (i : Int) (t : Tok) : X4 (.inl i) (.int i t) = true := by simp [X4, Value.isInt]
theorem Zca (x : Str) (t : Tok) : X4 (.inr x) (.str x t) = true := by simp [X4, Value.isStrOf]
theorem Ze7 (a b : Int) : decide ((Sum.inl a : Key) = Sum.inl b) = (a == b) := by
 by_cases e : a = b
 · subst e; simp
 · have h : ¬ (Sum.inl a : Key) = Sum.inl b := fun q => e (Sum.inl.inj q)
   rw [decide_eq_false h]
   exact (beq_eq_false_iff_ne.mpr e).symm
theorem Ze8 (a b : Str) : decide ((Sum.inr a : Key) = Sum.inr b) = decide (a = b) := by
 by_cases e : a = b
 · subst e; simp
 · have h : ¬ (Sum.inr a : Key) = Sum.inr b := fun q => e (Sum.inr.inj q)
   rw [decide_eq_false h, decide_eq_false e]
theorem Ze9 (a : Int) (b : Str) : decide ((Sum.inl a : Key) = Sum.inr b) = false := decide_eq_false (fun q => nomatch q)
theorem Zfa (a : Str) (b : Int) : decide ((Sum.inr a : Key) = Sum.inl b) = false := decide_eq_false (fun q => nomatch q)
def Ya (prog : Program) (w : World) : PySem.KeyKind prog w Key where
 is := X4
 hash := ZgX w
 inj := fun v a b ha hb => by
  rcases Y7 ha with ⟨i, t, rfl, rfl⟩ | ⟨x, t, rfl, rfl⟩
  · rcases Y7 hb with ⟨j, u, rfl, e⟩ | ⟨y, u, rfl, e⟩
    · injection e with e1 _; rw [e1]
    · exact nomatch e
  · rcases Y7 hb with ⟨j, u, rfl, e⟩ | ⟨y, u, rfl, e⟩
    · exact nomatch e
    · injection e with e1 _; rw [e1]
 byValue := fun k v h => by
  rcases Y7 h with ⟨i, t, rfl, rfl⟩ | ⟨x, t, rfl, rfl⟩ <;> rfl
 pyHash := fun hv h => by
  rcases Y7 hv with ⟨i, t, rfl, rfl⟩ | ⟨x, t, rfl, rfl⟩
  · exact wpAny_pyHash_int h
  · exact wpAny_pyHash_str h
 eqBool := fun hu hv h => by
  rcases Y7 hu with ⟨i, t, rfl, rfl⟩ | ⟨x, t, rfl, rfl⟩
  · rcases Y7 hv with ⟨j, u, rfl, rfl⟩ | ⟨y, u, rfl, rfl⟩
    · rw [Ze7] at h; exact wpAny_eqBool_int h
    · rw [Ze9] at h; exact SeqAt.EqAt.int_str i t y u _ _ _ _ h
  · rcases Y7 hv with ⟨j, u, rfl, rfl⟩ | ⟨y, u, rfl, rfl⟩
    · rw [Zfa] at h; exact SeqAt.EqAt.str_int x t j u _ _ _ _ h
    · rw [Ze8] at h; exact wpAny_eqBool_str h
 «strs» := fun k x t v h => by
  rcases Y7 h with ⟨i, u, rfl, e⟩ | ⟨y, u, rfl, e⟩
  · exact nomatch e
  · injection e with e1 _
    subst e1
    cases v <;> rfl
theorem ZaX (prog : Program) (w : World) (i : Int) (t : Tok) : (Ya prog w).is (.inl i) (.int i t) = true := Zb9 i t
theorem ZaY (prog : Program) (w : World) (x : Str) (t : Tok) : (Ya prog w).is (.inr x) (.str x t) = true := Zca x t
end L2
namespace L2
open PySem PySem.Spec PyProof.Rows
inductive V where
 | non | bl (b : Bool) | int (i : Int) | str (x : Str) | byt (b : Array UInt8) | flt (b : UInt64) | ref (a : Addr) | ty (n : String)
 deriving DecidableEq
def RelV : V -> Value -> Prop
 | .non, u => u = Value.none
 | .bl b, u => u = Value.bool b
 | .int i, u => ∃ t, u = Value.int i t
 | .str x, u => ∃ t, u = Value.str x t
 | .byt b, u => ∃ t, u = Value.bytes b t
 | .flt b, u => ∃ t, u = Value.float b t
 | .ref a, u => u = Value.ref a
 | .ty n, u => u = Value.type n
abbrev Vals : List V -> List Value -> Prop := Paired RelV
theorem Vals.length {xs : List V} {us : List Value} (r : Vals xs us) : xs.length = us.length := Paired.length r
theorem Vals.get : ∀ {xs : List V} {us : List Value} {i : Nat} {x : V}, Vals xs us -> xs[i]? = some x -> ∃ u, us[i]? = some u /\ RelV x u
 | _, _, _, _, .nil, e => by simp at e
 | _, _, 0, _, .cons r _, e => by simp at e; subst e; exact ⟨_, rfl, r⟩
 | _, _, i + 1, x, .cons _ t, e => by
  obtain ⟨u, h1, h2⟩ := Vals.get (i := i) (x := x) t (by simpa using e)
  exact ⟨u, by simpa using h1, h2⟩
theorem Vals.set {x : V} {u : Value} (r : RelV x u) : ∀ {xs : List V} {us : List Value} (i : Nat), Vals xs us -> Vals (xs.set i x) (us.set i u)
 | _, _, _, .nil => .nil
 | _, _, 0, .cons _ t => .cons r t
 | _, _, i + 1, .cons q t => .cons q (Vals.set r i t)
theorem Vals.append : ∀ {xs ys : List V} {us ws : List Value}, Vals xs us -> Vals ys ws -> Vals (xs ++ ys) (us ++ ws)
 | _, _, _, _, .nil, s => s
 | _, _, _, _, .cons r t, s => .cons r (Vals.append t s)
def RelO : Option V -> Option Value -> Prop
 | some v, some u => RelV v u
 | none, none => True
 | _, _ => False
def KV {κ : Type} : List (κ × V) -> List (κ × Value) -> Prop := Paired fun (p : κ × V) (q : κ × Value) => p.1 = q.1 /\ RelV p.2 q.2
def kV : Key -> V
 | .inl i => .int i
 | .inr x => .str x
inductive HO where
 | lst (xs : List V)
 | tup (xs : List V)
 | dK (kvs : List (Key × V)) | dT (kvs : List (List Key × V))
 | set (S : Int -> Bool) (n : Nat)
 | ins (C dx : Addr) (fs : List (Str × V))
 | own (x : Addr)
 | xd (fs : List (Str × V))
 | met (f x : Addr)
 | rng (lo hi : Int)
 | frz (o : Obj) (u : HO)
 | tbl (ps : Array Value)
 | ext (φ : Heap -> Prop)
abbrev Hp := Addr -> Option HO
def upd (H : Hp) (a : Addr) (o : HO) : Hp := fun b => if b = a then some o else H b
theorem ZJ {H : Hp} {a : Addr} {o : HO} : upd H a o a = some o := by unfold upd; rw [if_pos rfl]
theorem Zs {H : Hp} {a b : Addr} {o : HO} (h : b ≠ a) : upd H a o b = H b := by unfold upd; rw [if_neg h]
theorem ZfW {H : Hp} {a b : Addr} {o u : HO} (h : H a = some o) (h' : H b = some u) (d : o ≠ u) : a ≠ b := by
 intro e; subst e; rw [h] at h'; exact d (Option.some.inj h')
theorem YC {H : Hp} {a b : Addr} {o : HO} (h : H a = some o) (h' : H b = none) : a ≠ b := by
 intro e; subst e; rw [h] at h'; cases h'
section
variable (P : Program) (w : World)
def ObjOk (H : Hp) (h : Heap) (a : Addr) : HO -> Prop
 | .lst xs => xs.length <= sizeLine /\ ∃ (its : List Value) (n : Nat), Vals xs its /\ h.get? a = some { cls := .type "list", data := .seq its.toArray n }
 | .tup xs => xs.length <= sizeLine /\ ∃ its : List Value, Vals xs its /\ IsTup h a its.toArray
 | .dK kvs => kvs.length <= sizeLine /\ (a == sysModules) = false /\ ∃ vs, KV kvs vs /\ h.DictOf (Ya P w) a vs
 | .dT kvs => kvs.length <= sizeLine /\ (a == sysModules) = false /\ ∃ xs : List (List Key × Addr × Value),
  Paired (fun (p : List Key × V) (q : List Key × Addr × Value) => p.1 = q.1 /\ H q.2.1 = some (.tup (p.1.map kV)) /\ RelV p.2 q.2.2) kvs xs /\
  ∃ o es ep, h.get? a = some o /\ o.ExactDict /\ o.data = .dict es ep /\ es.toList = xs.map (entryOfKey (tupleKind (Ya P w))) /\ (xs.map (·.1)).Nodup
 | .set S n => h.SetOf (intKind P w) a S n
 | .ins C dx fs => H dx = some (.own a) /\ fs.length <= 1000 /\ dx ≠ a /\ h.get? a = some (PySem.W.instObj C dx) /\
  ∃ mA, h.Ns1 dx mA /\ (∀ f, RelO (fs.lookup f) (mA f)) /\ PySem.Within mA (fs.map (·.1))
 | .own _ => ∃ o, h.get? a = some o
 | .xd fs => ∃ mA, h.Ns1 a mA /\ ∀ f, RelO (fs.lookup f) (mA f)
 | .rng lo hi => ∃ t u v, h.get? a = some { cls := .type "range", data := .fields #[.int lo t, .int hi u, .int 1 v] }
 | .frz o u => h.get? a = some o /\ ObjOk H h a u
 | .tbl ps => h.get? a = some { cls := .none, data := .fields ps }
 | .met f x => h.get? a = some (PySem.W.methodObj (.ref f) (.ref x))
 | .ext φ => φ h /\ (∃ o, h.get? a = some o) /\ ∀ h1 h2 : Heap, φ h1 -> (∀ o, h1.get? a = some o -> h2.get? a = some o) -> φ h2
def HOk (H : Hp) (h : Heap) : Prop := ∀ a o, H a = some o -> ObjOk P w H h a o
end
section
variable {P : Program} {w : World} {H H' : Hp} {h h' : Heap} {a : Addr} {o : HO}
theorem ObjOk.lt (x : ObjOk P w H h a o) : a < h.objs.size := by
 cases o with
 | lst xs => obtain ⟨_, _, _, _, e⟩ := x; exact Heap.lt_size e
 | tup xs => obtain ⟨_, _, _, p⟩ := x; exact p.lt
 | dK kvs => obtain ⟨_, _, _, _, o, _, _, e, _⟩ := x; exact Heap.lt_size e
 | dT kvs => obtain ⟨_, _, _, _, o, _, _, e, _⟩ := x; exact Heap.lt_size e
 | set S n => obtain ⟨o, _, _, _, e, _⟩ := x; exact Heap.lt_size e
 | ins C dx fs => obtain ⟨_, _, _, e, _⟩ := x; exact Heap.lt_size e
 | own y => obtain ⟨_, e⟩ := x; exact Heap.lt_size e
 | xd fs => obtain ⟨_, ⟨_, _, _, e, _⟩, _⟩ := x; exact Heap.lt_size e
 | rng lo hi => obtain ⟨_, _, _, e⟩ := x; exact Heap.lt_size e
 | frz ob u => obtain ⟨e, _⟩ := x; exact Heap.lt_size e
 | tbl ps => exact Heap.lt_size (show h.get? a = some _ from x)
 | met f y => exact Heap.lt_size (show h.get? a = some _ from x)
 | ext φ => obtain ⟨_, ⟨_, e⟩, _⟩ := x; exact Heap.lt_size e
theorem Paired.mapP {α β : Type} {F G : α -> β -> Prop} : ∀ {l₁ : List α} {l₂ : List β}, Paired F l₁ l₂ -> (∀ a b, F a b -> G a b) -> Paired G l₁ l₂
 | _, _, .nil, _ => .nil
 | _, _, .cons r t, f => .cons (f _ _ r) (Paired.mapP t f)
theorem ObjOk.stay (x : ObjOk P w H h a o) (k : ∀ b u, (b = a \/ H b = some (.own a)) -> h.get? b = some u -> h'.get? b = some u)
 (ho : ∀ b, H b = some (.own a) -> H' b = some (.own a)) (ht : ∀ b xs, H b = some (.tup xs) -> H' b = some (.tup xs)) : ObjOk P w H' h' a o := by
 induction o with
 | lst xs => obtain ⟨z, its, n, r, e⟩ := x; exact ⟨z, its, n, r, k _ _ (.inl rfl) e⟩
 | tup xs => obtain ⟨z, its, r, ob, e, c⟩ := x; exact ⟨z, its, r, ob, k _ _ (.inl rfl) e, c⟩
 | dK kvs => obtain ⟨z, y, vs, r, ob, es, ep, e, c⟩ := x; exact ⟨z, y, vs, r, ob, es, ep, k _ _ (.inl rfl) e, c⟩
 | dT kvs =>
  obtain ⟨z, y, xs, r, ob, es, ep, e, c⟩ := x
  exact ⟨z, y, xs, Paired.mapP r fun p q z => ⟨z.1, ht _ _ z.2.1, z.2.2⟩, ob, es, ep, k _ _ (.inl rfl) e, c⟩
 | set S n => obtain ⟨ob, es, ep, t, e, c⟩ := x; exact ⟨ob, es, ep, t, k _ _ (.inl rfl) e, c⟩
 | ins C dx fs =>
  obtain ⟨d, z, ne, e, mA, ⟨od, es, ep, e2, c⟩, r⟩ := x
  exact ⟨ho _ d, z, ne, k _ _ (.inl rfl) e, mA, ⟨od, es, ep, k _ _ (.inr d) e2, c⟩, r⟩
 | own y => obtain ⟨ob, e⟩ := x; exact ⟨ob, k _ _ (.inl rfl) e⟩
 | xd fs => obtain ⟨mA, ⟨od, es, ep, e, c⟩, r⟩ := x; exact ⟨mA, ⟨od, es, ep, k _ _ (.inl rfl) e, c⟩, r⟩
 | rng lo hi => obtain ⟨t, u, v, e⟩ := x; exact ⟨t, u, v, k _ _ (.inl rfl) e⟩
 | frz ob u ih => obtain ⟨e, q⟩ := x; exact ⟨k _ _ (.inl rfl) e, ih q⟩
 | tbl ps =>
  have e : h.get? a = some { cls := .none, data := .fields ps } := x
  show h'.get? a = some { cls := .none, data := .fields ps }
  exact k a _ (.inl rfl) e
 | met f y =>
  have e : h.get? a = some (PySem.W.methodObj (.ref f) (.ref y)) := x
  show h'.get? a = some (PySem.W.methodObj (.ref f) (.ref y))
  exact k a _ (.inl rfl) e
 | ext φ => obtain ⟨p, ⟨o, e⟩, st⟩ := x; exact ⟨st _ _ p fun o q => k _ _ (.inl rfl) q, ⟨o, k _ _ (.inl rfl) e⟩, st⟩
theorem HOk.lt (x : HOk P w H h) (e : H a = some o) : a < h.objs.size := (x a o e).lt
theorem HOk.fresh (x : HOk P w H h) (e : h.objs.size <= a) : H a = none := by
 cases q : H a with
 | none => rfl
 | some u => exact absurd (Nat.lt_of_lt_of_le (x.lt q) e) (Nat.lt_irrefl _)
theorem HOk.kept (x : HOk P w H h) (k : ∀ b u, h.get? b = some u -> h'.get? b = some u) : HOk P w H h' := fun a o e =>
 (x a o e).stay (fun b u _ q => k b u q) (fun _ q => q) fun _ _ q => q
theorem HOk.laid (x : HOk P w H h) (k : ∀ b u, h.get? b = some u -> h'.get? b = some u) (hp : h.objs.size <= a) (new : ObjOk P w (upd H a o) h' a o) : HOk P w (upd H a o) h' := fun b u e => by
 have hn := x.fresh hp
 by_cases hb : b = a
 · subst hb; rw [ZJ] at e; cases e; exact new
 · rw [Zs hb] at e
   exact (x b u e).stay (fun c v _ q => k c v q) (fun c q => by rw [Zs (YC q hn)]; exact q) fun c xs q => by rw [Zs (YC q hn)]; exact q
end
def Rd (H : Hp) (a : Addr) (u : HO) : Prop := H a = some u \/ ∃ o, H a = some (.frz o u)
theorem Rd.ok {P : Program} {w : World} {H : Hp} {h : Heap} {a : Addr} {u : HO} (r : Rd H a u) (x : HOk P w H h) : ObjOk P w H h a u := by
 rcases r with r | ⟨o, r⟩
 · exact x a u r
 · obtain ⟨_, q⟩ := x a _ r
   exact q
def Mut : Option HO -> Prop
 | some (.lst _) => True
 | some (.dK _) => True
 | some (.dT _) => True
 | some (.set _ _) => True
 | some (.ins _ _ _) => True
 | some (.ext _) => True
 | _ => False
section
variable {P : Program} {w : World} {H : Hp} {h h' : Heap} {x e : Addr} {o' : HO}
theorem HOk.write (ok : HOk P w H h) (mu : Mut (H x)) (he : e = x \/ H e = some (.own x)) (k : ∀ b u, b ≠ e -> h.get? b = some u -> h'.get? b = some u) (heo : ∃ u, h'.get? e = some u)
 (new : ObjOk P w (upd H x o') h' x o') : HOk P w (upd H x o') h' := fun b u q => by
 have nown : ∀ c y, H c = some (.own y) -> c ≠ x := fun c y r z => by subst z; rw [r] at mu; exact mu
 have ntup : ∀ c xs, H c = some (.tup xs) -> c ≠ x := fun c xs r z => by subst z; rw [r] at mu; exact mu
 by_cases hb : b = x
 · subst hb; rw [ZJ] at q; cases q; exact new
 · rw [Zs hb] at q
   by_cases hbe : b = e
   · have q' : H b = some (.own x) := by
      rcases he with z | z
      · exact absurd (hbe.trans z) hb
      · rw [hbe]; exact z
     rw [q] at q'; cases q'
     obtain ⟨v, hv⟩ := heo
     exact ⟨v, by rw [hbe]; exact hv⟩
   · refine (ok b u q).stay (fun c v hc r => k c v ?_ r) (fun c r => by rw [Zs (nown c b r)]; exact r) fun c xs r => by rw [Zs (ntup c xs r)]; exact r
     rcases hc with rfl | hc
     · exact hbe
     · rintro rfl
       rcases he with z | z
       · exact nown c b hc z
       · rw [hc] at z; cases z; exact hb rfl
end
structure Un (fs ex : List Addr) (H H' : Hp) (h h' : Heap) : Prop where
 keep : ∀ b o, h.get? b = some o -> H b = none -> b ∉ fs -> b ∉ ex -> h'.get? b = some o
 slot : ∀ b o, h.get? b = some o -> H b = none -> b ∈ fs -> b ∉ ex -> ∃ sl, h'.get? b = some { o with slots := sl }
 free : ∀ b o, h.get? b = some o -> H b = none -> b ∉ ex -> H' b = none
 there : ∀ b o, h.get? b = some o -> b ∉ ex -> ∃ o', h'.get? b = some o'
 tups : ∀ b xs, H b = some (.tup xs) -> H' b = some (.tup xs)
 frzs : ∀ b o u, H b = some (.frz o u) -> H' b = some (.frz o u)
 tbls : ∀ b ps, H b = some (.tbl ps) -> ∃ more, H' b = some (.tbl (ps ++ more))
section
variable {fs fs' ex ex' : List Addr} {H H1 H2 : Hp} {h h1 h2 h' : Heap} {a x e : Addr} {o : HO}
theorem Un.any (u : Un fs ex H H1 h h1) {b : Addr} {ob : Obj} (q : h.get? b = some ob) (n : H b = none) (hx : b ∉ ex) : ∃ sl, h1.get? b = some { ob with slots := sl } := by
 by_cases hb : b ∈ fs
 · exact u.slot b ob q n hb hx
 · exact ⟨ob.slots, u.keep b ob q n hb hx⟩
theorem Un.kept (k : ∀ b u, h.get? b = some u -> h'.get? b = some u) : Un fs ex H H h h' :=
 ⟨fun b ob q _ _ _ => k b ob q, fun b ob q _ _ _ => ⟨ob.slots, k b ob q⟩, fun _ _ _ n _ => n, fun b ob q _ => ⟨ob, k b ob q⟩, fun _ _ q => q, fun _ _ _ q => q, fun _ ps q => ⟨#[], by rw [q]; simp⟩⟩
theorem Un.refl : Un fs ex H H h h := Un.kept fun _ _ q => q
theorem Un.laid (k : ∀ b u, h.get? b = some u -> h'.get? b = some u) (hp : h.objs.size <= a) (hn : H a = none) : Un fs ex H (upd H a o) h h' where
 keep := fun b u q _ _ _ => k b u q
 slot := fun b u q _ _ _ => ⟨u.slots, k b u q⟩
 free := fun b u q n _ => by rw [Zs (Nat.ne_of_lt (Nat.lt_of_lt_of_le (Heap.lt_size q) hp))]; exact n
 there := fun b u q _ => ⟨u, k b u q⟩
 tups := fun b xs q => by rw [Zs (YC q hn)]; exact q
 frzs := fun b u xs q => by rw [Zs (YC q hn)]; exact q
 tbls := fun b ps q => ⟨#[], by rw [Zs (YC q hn), q]; simp⟩
theorem Un.write (mu : Mut (H x)) (he : e = x \/ H e = some (.own x)) (k : ∀ b u, b ≠ e -> h.get? b = some u -> h'.get? b = some u) (heo : ∃ u, h'.get? e = some u) : Un fs ex H (upd H x o) h h' := by
 have hx : ∀ b, H b = none -> b ≠ x := fun b n z => by subst z; rw [n] at mu; exact mu
 have hb : ∀ b, H b = none -> b ≠ e := fun b n z => by
  subst z
  rcases he with r | r
  · exact hx b n r
  · rw [n] at r; cases r
 have hm : ∀ b u, H b = some u -> ¬ Mut (some u) -> b ≠ x := fun b u q nm z => by subst z; rw [q] at mu; exact nm mu
 refine ⟨fun b u q n _ _ => k b u (hb b n) q, fun b u q n _ _ => ⟨u.slots, k b u (hb b n) q⟩, fun b u q n _ => by rw [Zs (hx b n)]; exact n, fun b u q _ => ?_,
  fun b xs q => by rw [Zs (hm b _ q fun z => z)]; exact q, fun b u xs q => by rw [Zs (hm b _ q fun z => z)]; exact q, fun b ps q => ⟨#[], by rw [Zs (hm b _ q fun z => z), q]; simp⟩⟩
 by_cases hbe : b = e
 · subst hbe; exact heo
 · exact ⟨u, k b u hbe q⟩
end
def trk (h : Heap) (H : Hp) : List Addr := (List.range h.objs.size).filter fun a => (H a).isSome
def Y8 (h : Heap) (H : Hp) : Heap := PySem.W.hideAll h (trk h H)
theorem Zcb (h : Heap) (H : Hp) : (Y8 h H).objs.size = h.objs.size := PySem.W.hideAll_size _ _
theorem ZcJ {h : Heap} {H : Hp} {b : Addr} {o : Obj} (e : h.get? b = some o) (n : H b = none) : (Y8 h H).get? b = some o :=
 PySem.W.hideAll_get _ e fun hm => by
  have q : (H b).isSome = true := (List.mem_filter.mp hm).2
  rw [n] at q; simp at q
theorem ZdM {h : Heap} {H : Hp} {b : Addr} {o : Obj} (e : (Y8 h H).get? b = some o) : h.get? b = some o /\ H b = none := by
 have e' : h.get? b = some o := PySem.W.of_hideAll (trk h H) e
 refine ⟨e', ?_⟩
 cases q : H b with
 | none => rfl
 | some x =>
  have hm : b ∈ trk h H := List.mem_filter.mpr ⟨List.mem_range.mpr (Heap.lt_size e'), by simp [q]⟩
  have z : (Y8 h H).get? b = none := PySem.W.hideAll_none (trk h H) hm
  rw [z] at e; cases e
end L2
namespace L2
open PySem PySem.Spec PyProof.Rows
structure Mod (K : PySem.W.Frag) (mg : Str -> Option Value) (base : Heap) : Prop where
 kin : K.In base
 glob : base.Ns mainGlobals mg
 blt : ∃ mb, base.Ns builtinsNs mb /\ ∀ x : Str, x ≠ "__name__" -> mb x = bootBuiltins x
 nolimit : base.NoLimit
structure Cx where
 prog : Program
 w : World
 K : PySem.W.Frag
 mg : Str -> Option Value
 base : Heap
 A : Around
 N : List Str
 s₀ : Shared
 H₀ : Hp
 env : Env
 outer : List Env
 stack : List Env
 ex : List Addr
 fn : Str -> Bool
 calm : Bool
 pn : List (Addr × Obj)
 xe : Value -> Shared -> Prop
def frs (l : List Env) : List Addr := l.filterMap (·.frame)
abbrev Cx.fs (X : Cx) : List Addr := frs X.outer
def Vis (sc : Scope) (x : Str) : Prop := sc.names.lookup x = some .local \/ sc.names.lookup x = some .cell \/ sc.names.lookup x = some .free
def Loc (sc : Scope) (x : Str) : Prop := sc.names.lookup x = some .local \/ sc.names.lookup x = some .cell
def JQ (env : Env) (h : Heap) (m : Str -> Option Value) (x : Str) (u : Value) : Prop :=
 (env.kindOf x = some .local /\ m x = some u) \/ ((env.kindOf x = some .cell \/ env.kindOf x = some .free) /\ ∃ c, env.cells.lookup x = some c /\ h.IsCell c (some u))
structure Cx.Ok (X : Cx) : Prop where
 mod : Mod X.K X.mg X.base
 kind : X.env.scope.kind = .function
 glob : X.env.globals = mainGlobals
 blt : X.env.builtins = builtinsNs
 above : X.s₀.heap.objs.size <= X.env.locals
 inj : ∀ x y c, X.env.cells.lookup x = some c -> X.env.cells.lookup y = some c -> x = y
 has : ∀ x, (X.env.kindOf x = some .cell \/ X.env.kindOf x = some .free) -> ∃ c, X.env.cells.lookup x = some c
 cab : ∀ x c, X.fn x = true -> X.env.cells.lookup x = some c -> X.s₀.heap.objs.size <= c
 hd : X.calm = true -> X.A.handled = none
 frames : X.A.frames = some X.stack
 stk : X.stack = X.outer \/ (X.stack = X.env :: X.outer /\ X.env.frame = some X.env.locals)
 exf : ∀ b ∈ X.ex, b ≠ X.env.locals /\ ∀ x c, X.env.cells.lookup x = some c -> c ≠ b
 bs : ∀ b o, X.base.get? b = some o -> X.s₀.heap.get? b = some o /\ X.H₀ b = none
 bsz : X.base.objs.size <= X.s₀.heap.objs.size
 noex : ∀ b o, X.base.get? b = some o -> b ∉ X.ex
 exfs : ∀ b ∈ X.ex, b ∉ X.fs
 funs : X.s₀.heap.FunFrames X.base X.outer
 frf : ∀ b ∈ X.fs, X.H₀ b = none
structure Inv (X : Cx) (pins : List (Addr × Obj)) (σ : List (Option V)) (H : Hp) (s : Shared) : Prop where
 ok : X.Ok
 os : s.os = X.s₀.os
 bare : AllBare s.gens
 base : Un X.fs X.ex X.H₀ H X.s₀.heap s.heap
 loc : ∃ m, s.heap.Ns X.env.locals m /\ ∀ (i : Nat) (x : Str) (v : V), X.N[i]? = some x -> σ[i]? = some (some v) -> Vis X.env.scope x -> ∃ u, RelV v u /\ JQ X.env s.heap m x u
 cell : ∀ x c, X.env.cells.lookup x = some c -> ∃ v, s.heap.IsCell c v
 free : H X.env.locals = none
 freeC : ∀ x c, X.env.cells.lookup x = some c -> H c = none
 pin : ∀ p ∈ X.pn ++ pins, s.heap.get? p.1 = some p.2 /\ H p.1 = none /\ p.1 ≠ X.env.locals /\ p.1 ∉ X.fs /\ ∀ v, p.2.data ≠ .cell v
 hok : HOk X.prog X.w H s.heap
 len : σ.length = X.N.length
section
variable {X : Cx} {pins : List (Addr × Obj)} {σ : List (Option V)} {H H' : Hp} {s : Shared} {h' : Heap}
theorem Cx.Ok.nofr (ok : X.Ok) {b : Addr} {o : Obj} (e : X.base.get? b = some o) : b ∉ X.fs := fun hb => by
 have := (ok.funs.mem hb).1
 rw [e] at this; cases this
theorem Inv.bs (I : Inv X pins σ H s) : ∀ b o, X.base.get? b = some o -> s.heap.get? b = some o /\ H b = none := fun b o e =>
 ⟨I.base.keep b o (I.ok.bs b o e).1 (I.ok.bs b o e).2 (I.ok.nofr e) (I.ok.noex b o e), I.base.free b o (I.ok.bs b o e).1 (I.ok.bs b o e).2 (I.ok.noex b o e)⟩
theorem Inv.bk (I : Inv X pins σ H s) : ∀ b o, X.base.get? b = some o -> s.heap.get? b = some o := fun b o e => (I.bs b o e).1
theorem Inv.mod (I : Inv X pins σ H s) : Mod X.K X.mg X.base := I.ok.mod
theorem Inv.kIn (I : Inv X pins σ H s) : X.K.In s.heap := I.ok.mod.kin.keeps I.bk
theorem Inv.nolimit (I : Inv X pins σ H s) : s.heap.NoLimit := I.ok.mod.nolimit.keeps I.bk
theorem Inv.fr (I : Inv X pins σ H s) : ∃ m, Fr X.base X.env.locals s.heap m :=
 let ⟨m, hn, _⟩ := I.loc
 ⟨m, hn, I.bk, Nat.le_trans I.ok.bsz I.ok.above⟩
theorem Inv.lt (I : Inv X pins σ H s) : X.env.locals < s.heap.objs.size := let ⟨_, hn, _⟩ := I.loc; hn.lt
theorem Inv.sz (I : Inv X pins σ H s) : X.s₀.heap.objs.size <= s.heap.objs.size := Nat.le_trans I.ok.above (Nat.le_of_lt I.lt)
theorem Inv.nofs (I : Inv X pins σ H s) {a : Addr} (h : s.heap.objs.size <= a) : a ∉ X.fs := fun hb => by
 obtain ⟨_, o, ho, _⟩ := I.ok.funs.mem hb
 exact absurd (Nat.lt_of_lt_of_le (Heap.lt_size ho) (Nat.le_trans I.sz h)) (Nat.lt_irrefl _)
theorem Inv.cne (I : Inv X pins σ H s) : ∀ x c, X.env.cells.lookup x = some c -> c ≠ X.env.locals := fun x c e z => by
 obtain ⟨v, o, ho, hd⟩ := I.cell x c e
 obtain ⟨m, ⟨o', es, ep, ho', hd', _⟩, _⟩ := I.loc
 rw [z, ho'] at ho; cases ho; rw [hd'] at hd; cases hd
theorem Inv.funs (I : Inv X pins σ H s) : s.heap.FunFrames X.base X.outer := by
 have all : ∀ (l : List Env), (∀ b ∈ frs l, b ∈ X.fs) -> X.s₀.heap.FunFrames X.base l -> s.heap.FunFrames X.base l := by
  intro l
  induction l with
  | nil => intro _ _; trivial
  | cons env r ih =>
   intro hs hl
   obtain ⟨hk, ⟨L, o, hf, hn, ho, hd⟩, hr⟩ := hl
   have hL : L ∈ X.fs := hs L (by unfold frs; rw [List.filterMap_cons, hf]; exact List.mem_cons_self)
   obtain ⟨sl, e⟩ := I.base.slot L o ho (I.ok.frf L hL) hL fun z => I.ok.exfs L z hL
   exact ⟨hk, ⟨L, _, hf, hn, e, hd⟩, ih (fun b hb => hs b (by unfold frs; rw [List.filterMap_cons, hf]; exact List.mem_cons_of_mem _ hb)) hr⟩
 exact all X.outer (fun _ hb => hb) I.ok.funs
theorem Inv.stack (I : Inv X pins σ H s) : s.heap.FunFrames X.base X.stack := by
 rcases I.ok.stk with e | ⟨e, hf⟩
 · rw [e]; exact I.funs
 · rw [e]
   obtain ⟨m, hn, _⟩ := I.loc
   refine .cons (by rw [I.ok.kind]; decide) hf hn ?_ I.funs
   exact Heap.get?_none_of_le (Nat.le_trans I.ok.bsz I.ok.above)
theorem Inv.stkSub (I : Inv X pins σ H s) : ∀ b ∈ frs X.stack, b ∈ X.env.locals :: X.fs := fun b hb => by
 rcases I.ok.stk with e | ⟨e, hf⟩
 · rw [e] at hb; exact List.mem_cons_of_mem _ hb
 · rw [e] at hb
   unfold frs at hb
   rw [List.filterMap_cons, hf] at hb
   exact hb
theorem Inv.stkFree (I : Inv X pins σ H s) : ∀ b ∈ frs X.stack, H b = none := fun b hb => by
 rcases List.mem_cons.mp (I.stkSub b hb) with e | hb
 · rw [e]; exact I.free
 · obtain ⟨_, o, ho, _⟩ := I.ok.funs.mem hb
   exact I.base.free b o ho (I.ok.frf b hb) fun z => I.ok.exfs b z hb
theorem Inv.step {g' : Array GenState} {t' : Nat} {d' : Drawn} {ch : List Addr} (I : Inv X pins σ H s)
 (hch : ∀ b ∈ ch, (b ∈ X.ex \/ X.s₀.heap.objs.size <= b) /\ b ≠ X.env.locals /\ (∀ x c, X.env.cells.lookup x = some c -> c ≠ b) /\ ∀ p ∈ X.pn ++ pins, p.1 ≠ b)
 (keep : ∀ b o, b ≠ X.env.locals -> b ∉ X.fs -> b ∉ ch -> s.heap.get? b = some o -> H b = none -> h'.get? b = some o)
 (slot : ∀ b o, b ≠ X.env.locals -> b ∈ X.fs -> b ∉ ch -> s.heap.get? b = some o -> H b = none -> ∃ sl, h'.get? b = some { o with slots := sl }) (free : ∀ b o, b ∉ ch -> s.heap.get? b = some o -> H b = none -> H' b = none)
 (there : ∀ b o, b ∉ ch -> s.heap.get? b = some o -> ∃ o', h'.get? b = some o')
 (tups : ∀ b xs, H b = some (.tup xs) -> H' b = some (.tup xs)) (frzs : ∀ b o u, H b = some (.frz o u) -> H' b = some (.frz o u)) (tbls : ∀ b ps, H b = some (.tbl ps) -> ∃ more, H' b = some (.tbl (ps ++ more)))
 (ns : ∀ m, s.heap.Ns X.env.locals m -> h'.Ns X.env.locals m) (hok : HOk X.prog X.w H' h') (hg : AllBare g') :
 Inv X pins σ H' { s with heap := h', gens := g', drawn := d', toks := t' } := by
 have neL : ∀ b o, X.s₀.heap.get? b = some o -> b ≠ X.env.locals := fun b o e => Nat.ne_of_lt (Nat.lt_of_lt_of_le (Heap.lt_size e) I.ok.above)
 have neC : ∀ b o, X.s₀.heap.get? b = some o -> b ∉ X.ex -> b ∉ ch := fun b o e hx hb => by
  rcases (hch b hb).1 with z | z
  · exact hx z
  · exact absurd (Nat.lt_of_lt_of_le (Heap.lt_size e) z) (Nat.lt_irrefl _)
 have cellK : ∀ x c, X.env.cells.lookup x = some c -> ∀ v, s.heap.IsCell c v -> h'.IsCell c v := fun x c e v ⟨o, ho, hd⟩ => by
  have nch : c ∉ ch := fun z => (hch c z).2.2.1 x c e rfl
  by_cases hc : c ∈ X.fs
  · obtain ⟨sl, q⟩ := slot c o (I.cne x c e) hc nch ho (I.freeC x c e)
    exact ⟨_, q, hd⟩
  · exact ⟨o, keep c o (I.cne x c e) hc nch ho (I.freeC x c e), hd⟩
 refine ⟨I.ok, I.os, hg, ⟨fun b o e n hb hx => ?_, fun b o e n hb hx => ?_, fun b o e n hx => ?_, fun b o e hx => ?_, fun b xs e => tups b xs (I.base.tups b xs e), fun b o xs e => frzs b o xs (I.base.frzs b o xs e), fun b ps e => ?_⟩, ?_, fun x c e => ?_, ?_, fun x c e => ?_, fun p hp => ?_, hok, I.len⟩
 · exact keep b o (neL b o e) hb (neC b o e hx) (I.base.keep b o e n hb hx) (I.base.free b o e n hx)
 · obtain ⟨sl, e1⟩ := I.base.slot b o e n hb hx
   obtain ⟨sl', e2⟩ := slot b _ (neL b o e) hb (neC b o e hx) e1 (I.base.free b o e n hx)
   exact ⟨sl', e2⟩
 · obtain ⟨o', e1⟩ := I.base.there b o e hx
   exact free b o' (neC b o e hx) e1 (I.base.free b o e n hx)
 · obtain ⟨o', e1⟩ := I.base.there b o e hx
   exact there b o' (neC b o e hx) e1
 · obtain ⟨m1, e1⟩ := I.base.tbls b ps e
   obtain ⟨m2, e2⟩ := tbls b _ e1
   exact ⟨m1 ++ m2, by rw [e2, Array.append_assoc]⟩
 · obtain ⟨m, hn, hl⟩ := I.loc
   refine ⟨m, ns m hn, fun i x v e1 e2 e3 => ?_⟩
   obtain ⟨u, r, l⟩ := hl i x v e1 e2 e3
   refine ⟨u, r, ?_⟩
   rcases l with l | ⟨k, c, e, z⟩
   · exact .inl l
   · exact .inr ⟨k, c, e, cellK x c e _ z⟩
 · obtain ⟨v, z⟩ := I.cell x c e
   exact ⟨v, cellK x c e v z⟩
 · obtain ⟨m, ⟨o, _, _, ho, _⟩, _⟩ := I.loc
   exact free _ o (fun z => (hch _ z).2.1 rfl) ho I.free
 · obtain ⟨v, o, ho, hd⟩ := I.cell x c e
   exact free c o (fun z => (hch c z).2.2.1 x c e rfl) ho (I.freeC x c e)
 · obtain ⟨e, n, ne, nf, d⟩ := I.pin p hp
   have nch : p.1 ∉ ch := fun z => (hch p.1 z).2.2.2 p hp rfl
   exact ⟨keep p.1 p.2 ne nf nch e n, free p.1 p.2 nch e n, ne, nf, d⟩
theorem Inv.un {t' : Nat} (I : Inv X pins σ H s) (u : Un X.fs [] H H' s.heap h') (hok : HOk X.prog X.w H' h') : Inv X pins σ H' { s with heap := h', toks := t' } := by
 obtain ⟨m, ⟨o, es, ep, ho, r⟩, _⟩ := id I.loc
 obtain ⟨sl, hL⟩ := u.any ho I.free (by simp)
 exact I.step (g' := s.gens) (d' := s.drawn) (ch := []) (fun _ z => nomatch z) (fun b o _ hb _ e n => u.keep b o e n hb (by simp)) (fun b o _ hb _ e n => u.slot b o e n hb (by simp)) (fun b o _ e n => u.free b o e n (by simp)) (fun b o _ e => u.there b o e (by simp)) u.tups u.frzs u.tbls (fun m' hm => by
  obtain ⟨o', es', ep', ho', r'⟩ := hm
  rw [ho] at ho'; cases ho'
  exact ⟨_, es', ep', hL, r'⟩) hok I.bare
theorem Inv.call {g' : Array GenState} {t' : Nat} {d' : Drawn} {ch : List Addr} (I : Inv X pins σ H s) (u : Un (frs X.stack) ch H H' s.heap h') (hok : HOk X.prog X.w H' h') (hg : AllBare g')
 (hch : ∀ b ∈ ch, (b ∈ X.ex \/ X.s₀.heap.objs.size <= b) /\ b ≠ X.env.locals /\ (∀ x c, X.env.cells.lookup x = some c -> c ≠ b) /\ ∀ p ∈ X.pn ++ pins, p.1 ≠ b) :
 Inv X pins σ H' { s with heap := h', gens := g', drawn := d', toks := t' } := by
 obtain ⟨m, ⟨o, es, ep, ho, r⟩, _⟩ := id I.loc
 obtain ⟨sl, hL⟩ := u.any ho I.free fun z => (hch _ z).2.1 rfl
 exact I.step (ch := ch) hch (fun b o hL hb hc e n => u.keep b o e n (fun z => (List.mem_cons.mp (I.stkSub b z)).elim hL hb) hc) (fun b o _ _ hc e n => u.any e n hc) (fun b o hc e n => u.free b o e n hc) (fun b o hc e => u.there b o e hc) u.tups u.frzs u.tbls (fun m' hm => by
  obtain ⟨o', es', ep', ho', r'⟩ := hm
  rw [ho] at ho'; cases ho'
  exact ⟨_, es', ep', hL, r'⟩) hok hg
theorem Inv.turned {t' : Nat} {it : Addr} (I : Inv X pins σ H s) (k : ∀ b o, b ≠ it -> s.heap.get? b = some o -> h'.get? b = some o) (hn : H it = none) (hL : it ≠ X.env.locals)
 (h1 : it ∈ X.ex \/ X.s₀.heap.objs.size <= it) (h2 : ∀ x c, X.env.cells.lookup x = some c -> c ≠ it) (h3 : ∀ p ∈ X.pn ++ pins, p.1 ≠ it) : Inv X pins σ H { s with heap := h', toks := t' } := by
 have nit : ∀ b u, H b = some u -> b ≠ it := fun b u e z => by rw [z, hn] at e; cases e
 refine I.step (g' := s.gens) (d' := s.drawn) (ch := [it]) (fun b hb => ?_) (fun b o _ _ hc e _ => k b o (fun z => hc (by simp [z])) e) (fun b o _ _ hc e _ => ⟨o.slots, k b o (fun z => hc (by simp [z])) e⟩) (fun _ _ _ _ n => n)
  (fun b o hc e => ⟨o, k b o (fun z => hc (by simp [z])) e⟩) (fun _ _ e => e) (fun _ _ _ e => e) (fun b ps e => ⟨#[], by rw [e]; simp⟩) (fun m hm => ?_) (fun b u e => ?_) I.bare
 · have e : b = it := by simpa using hb
   subst e
   exact ⟨h1, hL, h2, h3⟩
 · obtain ⟨o, es, ep, ho, r⟩ := hm
   exact ⟨o, es, ep, k _ o (Ne.symm hL) ho, r⟩
 · refine (I.hok b u e).stay (fun c v hc q => k c v ?_ q) (fun _ q => q) fun _ _ q => q
   rcases hc with z | z
   · rw [z]; exact nit b u e
   · exact nit c _ z
theorem Inv.tok (I : Inv X pins σ H s) (t : Nat) : Inv X pins σ H { s with toks := t } := I.un (h' := s.heap) (t' := t) Un.refl I.hok
theorem Inv.kept {t' : Nat} (I : Inv X pins σ H s) (k : ∀ b u, s.heap.get? b = some u -> h'.get? b = some u) : Inv X pins σ H { s with heap := h', toks := t' } := I.un (Un.kept k) (I.hok.kept k)
theorem Inv.laid {a : Addr} {o : HO} {t' : Nat} (I : Inv X pins σ H s) (k : ∀ b u, s.heap.get? b = some u -> h'.get? b = some u) (hp : s.heap.objs.size <= a) (new : ObjOk X.prog X.w (upd H a o) h' a o) :
 Inv X pins σ (upd H a o) { s with heap := h', toks := t' } := I.un (Un.laid k hp (I.hok.fresh hp)) (I.hok.laid k hp new)
theorem Inv.write {x e : Addr} {o : HO} {t' : Nat} (I : Inv X pins σ H s) (mu : Mut (H x)) (he : e = x \/ H e = some (.own x)) (k : ∀ b u, b ≠ e -> s.heap.get? b = some u -> h'.get? b = some u) (heo : ∃ u, h'.get? e = some u)
 (new : ObjOk X.prog X.w (upd H x o) h' x o) : Inv X pins σ (upd H x o) { s with heap := h', toks := t' } := I.un (Un.write mu he k heo) (I.hok.write mu he k heo new)
theorem Inv.pins_of {pins' : List (Addr × Obj)} (I : Inv X pins σ H s) (h : ∀ p ∈ pins', s.heap.get? p.1 = some p.2 /\ H p.1 = none /\ p.1 ≠ X.env.locals /\ p.1 ∉ X.fs /\ ∀ v, p.2.data ≠ .cell v) : Inv X pins' σ H s :=
 ⟨I.ok, I.os, I.bare, I.base, I.loc, I.cell, I.free, I.freeC, fun p hp => (List.mem_append.mp hp).elim (fun z => I.pin p (List.mem_append_left _ z)) (h p), I.hok, I.len⟩
theorem JR {N : List Str} (hN : N.Nodup) {i j : Nat} {x : Str} (a : N[i]? = some x) (b : N[j]? = some x) : i = j := by
 obtain ⟨h1, e1⟩ := List.getElem?_eq_some_iff.mp a
 obtain ⟨h2, e2⟩ := List.getElem?_eq_some_iff.mp b
 exact (List.getElem_inj hN).mp (e1.trans e2.symm)
theorem JS {M : Model} {A : Around} {E : Value -> Shared -> Prop} {i : Nat} {x : Str} {v : V} {u : Value} {Q : Unit -> Shared -> Prop} (I : Inv X pins σ H s) (hN : X.N.Nodup) (hi : X.N[i]? = some x) (hx : Loc X.env.scope x) (r : RelV v u)
 (h : ∀ s', Inv X pins (σ.set i (some v)) H s' -> (∃ a, Heap.SameBut a s.heap s'.heap /\ (a = X.env.locals \/ X.env.cells.lookup x = some a)) -> Q () s') (hf : X.fn x = true \/ X.env.scope.names.lookup x = some .local := by first | exact .inl rfl | exact .inr rfl | assumption) : wpAny M A (storeName X.env x u) Q E s := by
 obtain ⟨m, hn, hl⟩ := id I.loc
 have hcls : (X.env.scope.kind == .class || (X.env.scope.kind == .module && X.env.locals != X.env.globals)) = false := by rw [I.ok.kind]; rfl
 have hiσ : i < σ.length := by rw [I.len]; exact (List.getElem?_eq_some_iff.mp hi).1
 have cne := I.cne
 have tracked : ∀ {a : Addr} {h' : Heap}, (∃ o, s.heap.get? a = some o /\ H a = none) -> Heap.SameBut a s.heap h' -> HOk X.prog X.w H h' := fun {a h'} ha hs b ob e => by
  obtain ⟨_, _, hfree⟩ := ha
  refine (I.hok b ob e).stay (fun c w' hc q => (hs.2 c ?_).trans q) (fun _ q => q) fun _ _ q => q
  rintro rfl
  rcases hc with rfl | hc
  · rw [hfree] at e; cases e
  · rw [hfree] at hc; cases hc
 rcases hx with hk | hk
 · refine wpAny_storeName_local hk hn (fun h' hn' hs => ?_) hcls
   obtain ⟨oL, _, _, hoL, _⟩ := id hn
   refine h _ ⟨I.ok, I.os, I.bare, ⟨fun b o e n hb hx => ?_, fun b o e n hb hx => ?_, I.base.free, fun b o e hx => ?_, I.base.tups, I.base.frzs, I.base.tbls⟩, ⟨_, hn', fun j y v' e1 e2 e3 => ?_⟩, fun y c e => ?_, I.free, I.freeC, fun p hp => ?_, tracked ⟨oL, hoL, I.free⟩ hs, by simpa using I.len⟩ ⟨_, hs, .inl rfl⟩
   · exact (hs.2 b (Nat.ne_of_lt (Nat.lt_of_lt_of_le (Heap.lt_size e) I.ok.above))).trans (I.base.keep b o e n hb hx)
   · obtain ⟨sl, e1⟩ := I.base.slot b o e n hb hx
     exact ⟨sl, (hs.2 b (Nat.ne_of_lt (Nat.lt_of_lt_of_le (Heap.lt_size e) I.ok.above))).trans e1⟩
   · obtain ⟨o', e1⟩ := I.base.there b o e hx
     exact ⟨o', (hs.2 b (Nat.ne_of_lt (Nat.lt_of_lt_of_le (Heap.lt_size e) I.ok.above))).trans e1⟩
   · by_cases hj : j = i
     · subst hj
       rw [hi] at e1; cases e1
       rw [List.getElem?_set_self hiσ] at e2
       cases e2
       exact ⟨u, r, .inl ⟨hk, by simp⟩⟩
     · rw [List.getElem?_set_ne (Ne.symm hj)] at e2
       obtain ⟨u', r', q⟩ := hl j y v' e1 e2 e3
       refine ⟨u', r', ?_⟩
       rcases q with ⟨k, e⟩ | ⟨k, c, e, z⟩
       · refine .inl ⟨k, ?_⟩
         have : y ≠ x := fun e => hj (JR hN e1 (e ▸ hi))
         simp [this, e]
       · exact .inr ⟨k, c, e, z.sameBut hs (cne y c e)⟩
   · obtain ⟨w', z⟩ := I.cell y c e
     exact ⟨w', z.sameBut hs (cne y c e)⟩
   · obtain ⟨e, n, ne, nf, d⟩ := I.pin p hp
     exact ⟨(hs.2 p.1 ne).trans e, n, ne, nf, d⟩
 · have hfn : X.fn x = true := by
    rcases hf with z | z
    · exact z
    · rw [z] at hk; cases hk
   obtain ⟨c, hc⟩ := I.ok.has x (.inl hk)
   obtain ⟨w', z⟩ := I.cell x c hc
   refine wpAny_storeName_cell I.ok.kind hk hc z (fun h' hc' hs => ?_)
   obtain ⟨oc, hoc, hocd⟩ := id z
   refine h { s with heap := h' } ⟨I.ok, I.os, I.bare, ⟨fun b o e n hb hx => ?_, fun b o e n hb hx => ?_, I.base.free, fun b o e hx => ?_, I.base.tups, I.base.frzs, I.base.tbls⟩, ⟨m, hn.sameBut hs (Ne.symm (cne x c hc)), fun j y v' e1 e2 e3 => ?_⟩, fun y c' e => ?_, I.free, I.freeC, fun p hp => ?_, tracked ⟨oc, hoc, I.freeC x c hc⟩ hs, by simpa using I.len⟩ ⟨c, hs, .inr hc⟩
   · exact (hs.2 b (Nat.ne_of_lt (Nat.lt_of_lt_of_le (Heap.lt_size e) (I.ok.cab x c hfn hc)))).trans (I.base.keep b o e n hb hx)
   · obtain ⟨sl, e1⟩ := I.base.slot b o e n hb hx
     exact ⟨sl, (hs.2 b (Nat.ne_of_lt (Nat.lt_of_lt_of_le (Heap.lt_size e) (I.ok.cab x c hfn hc)))).trans e1⟩
   · obtain ⟨o', e1⟩ := I.base.there b o e hx
     exact ⟨o', (hs.2 b (Nat.ne_of_lt (Nat.lt_of_lt_of_le (Heap.lt_size e) (I.ok.cab x c hfn hc)))).trans e1⟩
   · by_cases hj : j = i
     · subst hj
       rw [hi] at e1; cases e1
       rw [List.getElem?_set_self hiσ] at e2
       cases e2
       exact ⟨u, r, .inr ⟨.inl hk, c, hc, hc'⟩⟩
     · rw [List.getElem?_set_ne (Ne.symm hj)] at e2
       obtain ⟨u', r', q⟩ := hl j y v' e1 e2 e3
       refine ⟨u', r', ?_⟩
       rcases q with q | ⟨k, c', e, z'⟩
       · exact .inl q
       · refine .inr ⟨k, c', e, z'.sameBut hs ?_⟩
         rintro rfl
         exact hj (JR hN e1 (I.ok.inj _ _ _ e hc ▸ hi))
   · by_cases hcc : c' = c
     · subst hcc; exact ⟨_, hc'⟩
     · obtain ⟨w2, z2⟩ := I.cell y c' e
       exact ⟨w2, z2.sameBut hs hcc⟩
   · obtain ⟨e, n, ne, nf, d⟩ := I.pin p hp
     refine ⟨(hs.2 p.1 ?_).trans e, n, ne, nf, d⟩
     intro q
     rw [q, hoc] at e
     have q' : oc = p.2 := Option.some.inj e
     exact d w' (by rw [<- q']; exact hocd)
theorem JT {M : Model} {A : Around} {E : Value -> Shared -> Prop} {i : Nat} {x : Str} {v : V} {u : Value} {Q : Unit -> Shared -> Prop} (I : Inv X pins σ H s) (hN : X.N.Nodup) (hi : X.N[i]? = some x) (hx : Loc X.env.scope x) (r : RelV v u)
 (h : ∀ s', Inv X pins (σ.set i (some v)) H s' -> Q () s') (hf : X.fn x = true \/ X.env.scope.names.lookup x = some .local := by first | exact .inl rfl | exact .inr rfl | assumption) : wpAny M A (storeName X.env x u) Q E s :=
 JS I hN hi hx r (fun s' I' _ => h s' I') hf
theorem Inv.call' {s' : Shared} {ch : List Addr} (I : Inv X pins σ H s) (ho : s'.os = s.os) (u : Un (frs X.stack) ch H H' s.heap s'.heap) (hok : HOk X.prog X.w H' s'.heap) (hg : AllBare s'.gens)
 (hch : ∀ b ∈ ch, (b ∈ X.ex \/ X.s₀.heap.objs.size <= b) /\ b ≠ X.env.locals /\ (∀ x c, X.env.cells.lookup x = some c -> c ≠ b) /\ ∀ p ∈ X.pn ++ pins, p.1 ≠ b) : Inv X pins σ H' s' := by
 obtain ⟨h', g', d', t', o'⟩ := s'
 have e : o' = s.os := ho
 subst e
 exact I.call (g' := g') (t' := t') (d' := d') u hok hg hch
end
abbrev XK := Value -> Option Addr -> Hp -> Prop
abbrev St := List (Option V)
abbrev VK := V -> Hp -> Prop
abbrev TE := St -> Hp -> VK -> Prop
abbrev TT := St -> Hp -> (Bool -> Hp -> Prop) -> Prop
abbrev TA := St -> Hp -> (List V -> Hp -> Prop) -> Prop
structure Ends where
 nx : St -> Hp -> Prop
 rt : VK
 bk : St -> Hp -> Prop := fun _ _ => False
 ct : St -> Hp -> Prop := fun _ _ => False
abbrev TS := Ends -> St -> Hp -> Prop
def EP (X : Cx) (pins : List (Addr × Obj)) (σ : St) (Q : VK) (u : Value) (s' : Shared) : Prop := ∃ v H', Inv X pins σ H' s' /\ RelV v u /\ Q v H'
def TP (X : Cx) (pins : List (Addr × Obj)) (σ : St) (Q : Bool -> Hp -> Prop) (b : Bool) (s' : Shared) : Prop := ∃ H', Inv X pins σ H' s' /\ Q b H'
def AP (X : Cx) (pins : List (Addr × Obj)) (σ : St) (Q : List V -> Hp -> Prop) (us : List Value) (s' : Shared) : Prop := ∃ vs H', Inv X pins σ H' s' /\ Vals vs us /\ Q vs H'
def SP (X : Cx) (pins : List (Addr × Obj)) (D : Ends) (f : Flow) (s' : Shared) : Prop :=
 match f with
 | .next => ∃ σ' H', Inv X pins σ' H' s' /\ D.nx σ' H'
 | .brk => ∃ σ' H', Inv X pins σ' H' s' /\ D.bk σ' H'
 | .cont => ∃ σ' H', Inv X pins σ' H' s' /\ D.ct σ' H'
 | .ret u => ∃ v σ' H', Inv X pins σ' H' s' /\ RelV v u /\ D.rt v H'
def PE (X : Cx) (e : Expr) (t : TE) : Prop :=
 ∀ (pins : List (Addr × Obj)) (s : Shared) (σ : St) (H : Hp) (Q : VK), Inv X pins σ H s -> t σ H Q -> wpAny (model X.prog X.w) X.A (eval e X.env) (EP X pins σ Q) X.xe s
def PT (X : Cx) (e : Expr) (t : TT) : Prop :=
 ∀ (pins : List (Addr × Obj)) (s : Shared) (σ : St) (H : Hp) (Q : Bool -> Hp -> Prop), Inv X pins σ H s -> t σ H Q -> wpAny (model X.prog X.w) X.A (isTrue e X.env (eval e X.env)) (TP X pins σ Q) X.xe s
def PW (X : Cx) (e : Expr) (t : TT) : Prop :=
 ∀ (whole : Sem Value) (pins : List (Addr × Obj)) (s : Shared) (σ : St) (H : Hp) (Q : Bool -> Hp -> Prop), Inv X pins σ H s -> t σ H Q -> wpAny (model X.prog X.w) X.A (isTrue e X.env whole) (TP X pins σ Q) X.xe s
theorem PW.pt {X : Cx} {e : Expr} {t : TT} (h : PW X e t) : PT X e t := h _
def PA (X : Cx) (es : List Expr) (t : TA) : Prop :=
 ∀ (pos : Pos) (pins : List (Addr × Obj)) (s : Shared) (σ : St) (H : Hp) (Q : List V -> Hp -> Prop), Inv X pins σ H s -> t σ H Q -> wpAny (model X.prog X.w) X.A (spliced (backTo pos (starEach es X.env))) (AP X pins σ Q) X.xe s
def PS (X : Cx) (st : Stmt) (t : TS) : Prop :=
 ∀ (pins : List (Addr × Obj)) (s : Shared) (σ : St) (H : Hp) (D : Ends), Inv X pins σ H s -> t D σ H -> wpAny (model X.prog X.w) X.A (exec st X.env) (SP X pins D) X.xe s
def PSs (X : Cx) (st : List Stmt) (t : TS) : Prop :=
 ∀ (pins : List (Addr × Obj)) (s : Shared) (σ : St) (H : Hp) (D : Ends), Inv X pins σ H s -> t D σ H -> wpAny (model X.prog X.w) X.A (execs st X.env) (SP X pins D) X.xe s
theorem thn {α : Type} {t : Sem α} {Q Q' : α -> Shared -> Prop} {M : Model} {A : Around} {E : Value -> Shared -> Prop} {s : Shared} (h : wpAny M A t Q E s) (hQ : ∀ a s, Q a s -> Q' a s) : wpAny M A t Q' E s := wpAny_mono h hQ fun _ _ x => x
end L2
namespace L2
open PySem PySem.Spec PyProof.Rows
section
variable {X : Cx}
def Y9 (i : Nat) : TE := fun σ H Q => ∃ v, σ[i]? = some (some v) /\ Q v H
def tC (v : V) : TE := fun _ H Q => Q v H
theorem Zfb {i : Nat} {x : Str} {pos : Pos} (hN : X.N[i]? = some x) (hv : Vis X.env.scope x) (hd : (x == ("__debug__" : Str)) = false := by decide) (hcd : (x == ("__classdict__" : Str)) = false := by decide) : PE X (.Name x pos) (Y9 i) := by
 intro pins s σ H Q I h
 obtain ⟨v, e, h⟩ := h
 obtain ⟨m, hn, hl⟩ := I.loc
 obtain ⟨u, r, l⟩ := hl i x v hN e hv
 have fin : EP X pins σ Q u s := ⟨v, H, I, r, h⟩
 rcases l with ⟨hk, hm⟩ | ⟨hk, c, hc, hcell⟩
 · exact wpAny_Name (wpAny_loadName_local I.ok.kind hk hn hm fin) hd
 · rcases hk with hk | hk
   · exact wpAny_Name (wpAny_loadName_cell I.ok.kind hk hc hcell fin) hd
   · exact wpAny_Name (wpAny_loadName_free I.ok.kind hk hc hcell fin hcd) hd
theorem Zw {i j pos} : PE X (.Constant (.int i) j pos) (tC (.int i)) := fun _ _ _ H _ I h => wpAny_Constant_int ⟨.int i, H, I.tok _, ⟨_, rfl⟩, h⟩
theorem JU {b j pos} : PE X (.Constant (.bool b) j pos) (tC (.bl b)) := fun _ _ _ H _ I h => Constant_bool ⟨.bl b, H, I, rfl, h⟩
theorem JV {j pos} : PE X (.Constant .none j pos) (tC .non) := fun _ _ _ H _ I h => Constant_none ⟨.non, H, I, rfl, h⟩
theorem Zfc {x j pos} : PE X (.Constant (.str x) j pos) (tC (.str x)) := fun _ _ _ H _ I h => Calls.Constant_str ⟨.str x, H, I.tok _, ⟨_, rfl⟩, h⟩
def Gl (X : Cx) (x : Str) : Prop := X.env.kindOf x = some .globalImplicit
theorem JW {E : Value -> Shared -> Prop} {pins : List (Addr × Obj)} {s : Shared} {σ : St} {H : Hp} {x : Str} {u : Value} {pos : Pos} {Q : Value -> Shared -> Prop} (I : Inv X pins σ H s) (hg : Gl X x) (hm : X.mg x = some u) (h : Q u s)
 (hd : (x == ("__debug__" : Str)) = false := by decide) : wpAny (model X.prog X.w) X.A (eval (.Name x pos) X.env) Q E s :=
 Calls.Name_function_global I.ok.kind hg (Calls.loadGlobal_global (by rw [I.ok.glob]; exact I.mod.glob.keeps I.bk) hm h) hd
theorem Vv {E : Value -> Shared -> Prop} {pins : List (Addr × Obj)} {s : Shared} {σ : St} {H : Hp} {x : Str} {u : Value} {pos : Pos} {Q : Value -> Shared -> Prop} (I : Inv X pins σ H s) (hg : Gl X x) (hm : X.mg x = none) (hv : bootBuiltins x = some u) (h : Q u s)
 (hn : x ≠ "__name__" := by decide) (hd : (x == ("__debug__" : Str)) = false := by decide) : wpAny (model X.prog X.w) X.A (eval (.Name x pos) X.env) Q E s := by
 obtain ⟨mb, h1, h2⟩ := I.mod.blt
 exact Calls.Name_function_global I.ok.kind hg (Calls.loadGlobal_builtin (by rw [I.ok.glob]; exact I.mod.glob.keeps I.bk) hm (by rw [I.ok.blt]; exact h1.keeps I.bk) ((h2 x hn).trans hv) h) hd
theorem V9 {x : Str} {v : V} {u : Value} {pos : Pos} (hg : Gl X x) (hm : X.mg x = none) (hv : bootBuiltins x = some u) (r : RelV v u) (hn : x ≠ "__name__" := by decide) (hd : (x == ("__debug__" : Str)) = false := by decide) : PE X (.Name x pos) (tC v) :=
 fun _ _ _ H _ I h => Vv I hg hm hv ⟨v, H, I, r, h⟩ hn hd
variable {a b : Expr} {ta tb : TE} {pos : Pos}
def PC (X : Cx) (op : CmpOp) (a b : Expr) (t : TE) : Prop :=
 ∀ (pins : List (Addr × Obj)) (s : Shared) (σ : St) (H : Hp) (Q : VK), Inv X pins σ H s -> t σ H Q ->
  wpAny (model X.prog X.w) X.A (eval a X.env) (fun v s₁ => wpAny (model X.prog X.w) X.A (eval b X.env) (fun u s₂ => wpAny (model X.prog X.w) X.A (compareOp op v u) (EP X pins σ Q) X.xe s₂) X.xe s₁) X.xe s
theorem ZcK (b : Expr) {op : CmpOp} (h : op ≠ .In) (h2 : op ≠ .NotIn) : behindInMarks op b = false := by
 have e1 : (op == CmpOp.In) = false := by cases op <;> first | rfl | exact absurd rfl h
 have e2 : (op == CmpOp.NotIn) = false := by cases op <;> first | rfl | exact absurd rfl h2
 cases b <;> simp [behindInMarks, e1, e2]
def JX (ta : TE) : TE := fun σ H Q => ta σ H fun x H1 => Q (.bl (decide (x = .non))) H1
def JY (ta : TE) : TE := fun σ H Q => ta σ H fun x H1 => Q (.bl (!decide (x = .non))) H1
theorem RelV.none_iff {x : V} {v : Value} (r : RelV x v) : (v == Value.none) = decide (x = .non) := by
 cases x with
 | non => cases r; rfl
 | bl _ => cases r; rfl
 | int _ => obtain ⟨t, rfl⟩ := r; rfl
 | str _ => obtain ⟨t, rfl⟩ := r; rfl
 | byt _ => obtain ⟨t, rfl⟩ := r; rfl
 | flt _ => obtain ⟨t, rfl⟩ := r; rfl
 | ref _ => cases r; rfl
 | ty _ => cases r; rfl
theorem Zfd {j pos'} (ha : PE X a ta) : PC X .Is a (.Constant .none j pos') (JX ta) := by
 intro pins s σ H Q I h
 refine thn (ha pins s σ H _ I h) fun v s1 ⟨x, H1, I1, r1, q1⟩ => ?_
 exact Constant_none (is_none_gen ⟨.bl _, H1, I1, by rw [r1.none_iff]; rfl, q1⟩)
theorem Ua {j pos'} (ha : PE X a ta) : PC X .IsNot a (.Constant .none j pos') (JY ta) := by
 intro pins s σ H Q I h
 refine thn (ha pins s σ H _ I h) fun v s1 ⟨x, H1, I1, r1, q1⟩ => ?_
 exact Constant_none (isnot_none_gen ⟨.bl _, H1, I1, by rw [r1.none_iff]; rfl, q1⟩)
def tB (t : TE) : TT := fun σ H Q => t σ H fun x H1 => ∃ c, x = .bl c /\ Q c H1
theorem X5 {op : CmpOp} {t : TE} (h : PC X op a b t) (h1 : behindInMarks op b = false := by first | exact ZcK _ (by decide) (by decide) | rfl) : PT X (.Compare a [op] [b] pos) (tB t) := by
 intro pins s σ H Q I hw
 refine wpAny_isTrue_Compare1 (thn (h pins s σ H _ I hw) fun v s1 h1 => thn h1 fun u s2 h2 => thn h2 fun c s3 ⟨x, H1, I1, r1, q1⟩ => ?_) h1
 obtain ⟨d, rfl, q⟩ := q1
 cases r1
 exact wpAny_truthy_bool ⟨H1, I1, q⟩
theorem Ub {e : Expr} {t : TE} (h : PE X e t) (he : ∀ whole, isTrue e X.env whole = (do let v <- whole; standAt e.pos; holding [v] (truthy v)) := by intro _; rfl) : PT X e (tB t) := by
 intro pins s σ H Q I hw
 refine isTrue_plain (thn (h pins s σ H _ I hw) fun v s1 ⟨x, H1, I1, r1, q1⟩ => ?_) (he _)
 obtain ⟨d, rfl, q⟩ := q1
 cases r1
 exact wpAny_truthy_bool ⟨H1, I1, q⟩
variable {tA tB' : TT} {rest : List Expr}
def JZ (t u : TT) : TT := fun σ H Q => t σ H fun c H1 => if c = true then u σ H1 Q else Q false H1
def tOr (t u : TT) : TT := fun σ H Q => t σ H fun c H1 => if c = true then Q true H1 else u σ H1 Q
def J0 (t : TT) : TT := fun σ H Q => t σ H fun c H1 => Q (!c) H1
theorem Uc (ha : PT X a tA) : PW X (.BoolOp .And [a] pos) tA := by
 intro wh pins s σ H Q I h
 refine isTrue_and (thn (ha pins s σ H Q I h) fun c s1 e => ?_)
 cases c with
 | true => exact isTrue_and_nil e
 | false => exact e
theorem J4 (ha : PT X a tA) : PW X (.BoolOp .Or [a] pos) tA := by
 intro wh pins s σ H Q I h
 refine isTrue_or (thn (ha pins s σ H Q I h) fun c s1 e => ?_)
 cases c with
 | false => exact isTrue_or_nil e
 | true => exact e
theorem Ud (ha : PT X a tA) (hb : PW X (.BoolOp .And (b :: rest) pos) tB') : PW X (.BoolOp .And (a :: b :: rest) pos) (JZ tA tB') := by
 intro wh pins s σ H Q I h
 refine isTrue_and (thn (ha pins s σ H _ I h) fun c s1 ⟨H1, I1, q1⟩ => ?_)
 cases c with
 | true => exact hb wh pins s1 σ H1 Q I1 q1
 | false => exact ⟨H1, I1, q1⟩
theorem Qp (ha : PT X a tA) (hb : PW X (.BoolOp .Or (b :: rest) pos) tB') : PW X (.BoolOp .Or (a :: b :: rest) pos) (tOr tA tB') := by
 intro wh pins s σ H Q I h
 refine isTrue_or (thn (ha pins s σ H _ I h) fun c s1 ⟨H1, I1, q1⟩ => ?_)
 cases c with
 | true => exact ⟨H1, I1, q1⟩
 | false => exact hb wh pins s1 σ H1 Q I1 q1
theorem Ue (ha : PT X a tA) : PT X (.UnaryOp .Not a pos) (J0 tA) := by
 intro pins s σ H Q I h
 exact isTrue_not (ha pins s σ H (fun c H1 => Q (!c) H1) I h)
def J5 (ta tb : TE) : TE := fun σ H Q => ta σ H fun x H1 => ∃ c, x = .bl c /\ if c = true then tb σ H1 Q else Q (.bl false) H1
def J6 (ta : TE) : TE := fun σ H Q => ta σ H fun x H1 => ∃ c, x = .bl c /\ Q (.bl (!c)) H1
theorem J7 {op} {t : TE} (h : PE X a t) : PE X (.BoolOp op [a] pos) t := fun pins s σ H Q I hw => BoolOp_one (h pins s σ H Q I hw)
theorem J8 (ha : PE X a ta) (hb : PE X (.BoolOp .And (b :: rest) pos) tb) : PE X (.BoolOp .And (a :: b :: rest) pos) (J5 ta tb) := by
 intro pins s σ H Q I h
 refine BoolOp_and (thn (ha pins s σ H _ I h) fun v s1 ⟨x, H1, I1, r1, q1⟩ => ?_)
 obtain ⟨c, rfl, q1⟩ := q1
 cases r1
 refine wpAny_truthy_bool ?_
 cases c with
 | true => exact hb pins s1 σ H1 Q I1 q1
 | false => exact ⟨.bl false, H1, I1, rfl, q1⟩
theorem Zfe (ha : PE X a ta) : PE X (.UnaryOp .Not a pos) (J6 ta) := by
 intro pins s σ H Q I h
 refine UnaryOp_ (thn (ha pins s σ H _ I h) fun v s1 ⟨x, H1, I1, r1, q1⟩ => ?_)
 obtain ⟨c, rfl, q1⟩ := q1
 cases r1
 exact not_of (wpAny_truthy_bool ⟨.bl (!c), H1, I1, rfl, q1⟩)
end
end L2
namespace L2
open PySem PySem.Spec PyProof.Rows
def SqL (K : PySem.W.Frag) (H : Hp) (a : Addr) (xs : List V) : Prop :=
 Rd H a (.lst xs) \/
  ∃ (o : Obj) (its : Array Value) (n : Nat), K.lookup a = some o /\ o.cls = .type "list" /\ o.dict = none /\ o.data = .seq its n /\ its.size <= sizeLine /\ Vals xs its.toList
def SqT (K : PySem.W.Frag) (H : Hp) (a : Addr) (xs : List V) : Prop :=
 Rd H a (.tup xs) \/
  ∃ (o : Obj) (its : Array Value) (n : Nat), K.lookup a = some o /\ o.cls = .type "tuple" /\ o.data = .seq its n /\ its.size <= sizeLine /\ Vals xs its.toList
def ZgY : Value -> Option V
 | .none => some .non
 | .bool b => some (.bl b)
 | .int i _ => some (.int i)
 | .str x _ => some (.str x)
 | .bytes b _ => some (.byt b)
 | .float b _ => some (.flt b)
 | .ref a => some (.ref a)
 | .type n => some (.ty n)
 | _ => none
theorem RelV.abs {x : V} {u : Value} (r : RelV x u) : ZgY u = some x := by
 cases x with
 | non => cases r; rfl
 | bl _ => cases r; rfl
 | int _ => obtain ⟨t, rfl⟩ := r; rfl
 | str _ => obtain ⟨t, rfl⟩ := r; rfl
 | byt _ => obtain ⟨t, rfl⟩ := r; rfl
 | flt _ => obtain ⟨t, rfl⟩ := r; rfl
 | ref _ => cases r; rfl
 | ty _ => cases r; rfl
theorem RelV.inj {x y : V} {u : Value} (r : RelV x u) (q : RelV y u) : x = y := Option.some.inj (r.abs.symm.trans q.abs)
theorem Vals.inj : ∀ {xs ys : List V} {us : List Value}, Vals xs us -> Vals ys us -> xs = ys
 | _, _, _, .nil, .nil => rfl
 | _, _, _, .cons r t, .cons r' t' => by rw [r.inj r', Vals.inj t t']
section
variable {X : Cx} {pins : List (Addr × Obj)} {σ : St} {H : Hp} {s : Shared} {a : Addr} {xs ys : List V}
theorem SqL.of {K : PySem.W.Frag} (h : H a = some (.lst xs)) : SqL K H a xs := .inl (.inl h)
theorem SqT.of {K : PySem.W.Frag} (h : H a = some (.tup xs)) : SqT K H a xs := .inl (.inl h)
theorem Inv.list (I : Inv X pins σ H s) (h : SqL X.K H a xs) : ∃ its : List Value, Vals xs its /\ PlainL s.heap a its.toArray /\ xs.length <= sizeLine := by
 rcases h with h | ⟨o, its, n, hk, hc, hd, hs, hz, r⟩
 · obtain ⟨z, its, n, r, e⟩ := h.ok I.hok
   exact ⟨its, r, ⟨_, n, e, rfl, rfl, rfl⟩, z⟩
 · refine ⟨its.toList, r, ⟨o, n, I.kIn a o hk, hc, hd, by simpa using hs⟩, ?_⟩
   have e := r.length
   simp only [Array.length_toList] at e
   omega
theorem Inv.tuple (I : Inv X pins σ H s) (h : SqT X.K H a xs) : ∃ its : List Value, Vals xs its /\ IsTup s.heap a its.toArray /\ xs.length <= sizeLine := by
 rcases h with h | ⟨o, its, n, hk, hc, hs, hz, r⟩
 · obtain ⟨z, its, r, p⟩ := h.ok I.hok
   exact ⟨its, r, p, z⟩
 · refine ⟨its.toList, r, ⟨o, I.kIn a o hk, hc, n, by simpa using hs⟩, ?_⟩
   have e := r.length
   simp only [Array.length_toList] at e
   omega
theorem Inv.list_inj (I : Inv X pins σ H s) (h : SqL X.K H a xs) (h' : SqL X.K H a ys) : xs = ys := by
 obtain ⟨its, r, ⟨o, n, e, _, _, d⟩, _⟩ := I.list h
 obtain ⟨its', r', ⟨o', n', e', _, _, d'⟩, _⟩ := I.list h'
 rw [e] at e'; cases e'
 rw [d] at d'
 injection d' with d1 _
 have : its = its' := by simpa using congrArg Array.toList d1
 subst this
 exact r.inj r'
theorem Inv.tuple_inj (I : Inv X pins σ H s) (h : SqT X.K H a xs) (h' : SqT X.K H a ys) : xs = ys := by
 obtain ⟨its, r, ⟨o, e, _, n, d⟩, _⟩ := I.tuple h
 obtain ⟨its', r', ⟨o', e', _, n', d'⟩, _⟩ := I.tuple h'
 rw [e] at e'; cases e'
 rw [d] at d'
 injection d' with d1 _
 have : its = its' := by simpa using congrArg Array.toList d1
 subst this
 exact r.inj r'
end
abbrev Cx.wish (X : Cx) (E : Value -> Shared -> Prop) : Cx := { X with xe := E }
abbrev Cx.nox (X : Cx) : Cx := X.wish fun _ _ => False
theorem Cx.Ok.wish {X : Cx} (ok : X.Ok) (E : Value -> Shared -> Prop) : (X.wish E).Ok :=
 ⟨ok.mod, ok.kind, ok.glob, ok.blt, ok.above, ok.inj, ok.has, ok.cab, ok.hd, ok.frames, ok.stk, ok.exf, ok.bs, ok.bsz, ok.noex, ok.exfs, ok.funs, ok.frf⟩
theorem Cx.Ok.unwish {X : Cx} {E : Value -> Shared -> Prop} (ok : (X.wish E).Ok) : X.Ok :=
 ⟨ok.mod, ok.kind, ok.glob, ok.blt, ok.above, ok.inj, ok.has, ok.cab, ok.hd, ok.frames, ok.stk, ok.exf, ok.bs, ok.bsz, ok.noex, ok.exfs, ok.funs, ok.frf⟩
section
variable {X : Cx} {pins : List (Addr × Obj)} {σ : St} {H : Hp} {s : Shared} {E : Value -> Shared -> Prop}
theorem Inv.wish (I : Inv X pins σ H s) (E : Value -> Shared -> Prop) : Inv (X.wish E) pins σ H s := ⟨I.ok.wish E, I.os, I.bare, I.base, I.loc, I.cell, I.free, I.freeC, I.pin, I.hok, I.len⟩
theorem Inv.unwish (I : Inv (X.wish E) pins σ H s) : Inv X pins σ H s := ⟨I.ok.unwish, I.os, I.bare, I.base, I.loc, I.cell, I.free, I.freeC, I.pin, I.hok, I.len⟩
theorem SP.unwish {D : Ends} {f : Flow} {s' : Shared} (h : SP (X.wish E) pins D f s') : SP X pins D f s' := by
 cases f with
 | next => obtain ⟨σ', H', I, q⟩ := h; exact ⟨σ', H', I.unwish, q⟩
 | brk => obtain ⟨σ', H', I, q⟩ := h; exact ⟨σ', H', I.unwish, q⟩
 | cont => obtain ⟨σ', H', I, q⟩ := h; exact ⟨σ', H', I.unwish, q⟩
 | ret u => obtain ⟨v, σ', H', I, r, q⟩ := h; exact ⟨v, σ', H', I.unwish, r, q⟩
theorem PSs.nox {st : List Stmt} {t : TS} (h : PSs X.nox st t) : PSs X st t := fun pins s σ H D I hw =>
 wpAny_mono (h pins s σ H D (I.wish _) hw) (fun _ _ q => q.unwish) fun _ _ z => False.elim z
end
section
variable {X : Cx} {st : Stmt} {rest : List Stmt} {t u : TS} {e : Expr} {te : TE} {pos : Pos}
def tNext : TS := fun D σ H => D.nx σ H
def Uf (t u : TS) : TS := fun D σ H => t { D with nx := u D } σ H
theorem Xa : PSs X [] tNext := fun _ _ σ H _ I h => wpAny_execs_nil ⟨σ, H, I, h⟩
theorem Zx (h1 : PS X st t) (h2 : PSs X rest u) : PSs X (st :: rest) (Uf t u) := by
 intro pins s σ H D I h
 refine wpAny_execs_cons (thn (h1 pins s σ H { D with nx := u D } I h) fun f s1 q => ?_)
 cases f with
 | next =>
  obtain ⟨σ', H', I', q⟩ := q
  exact h2 pins s1 σ' H' D I' q
 | ret v => exact q
 | brk => exact q
 | cont => exact q
theorem ZC (h1 : PS X st t) : PSs X [st] t := by
 intro pins s σ H D I h
 refine wpAny_execs_cons (thn (h1 pins s σ H D I h) fun f s1 q => ?_)
 cases f with
 | next => exact wpAny_execs_nil q
 | ret v => exact q
 | brk => exact q
 | cont => exact q
theorem Inv.quiet {pins : List (Addr × Obj)} {σ : St} {H : Hp} {s : Shared} (I : Inv X pins σ H s) : interactive X.env = false := by simp [interactive, I.ok.kind]
def J9 (te : TE) : TS := fun D σ H => te σ H fun _ H1 => D.nx σ H1
theorem ZbE (he : PE X e te) (hs : swapsWith e none pos.line X.env = pure false := by rfl) : PS X (.Expr e pos) (J9 te) := by
 intro pins s σ H D I h
 exact wpAny_Expr_any (thn (he pins s σ H _ I h) fun v s1 ⟨x, H1, I1, r1, q1⟩ => ⟨σ, H1, I1, q1⟩) I.quiet hs
def Qq (te : TE) : TS := fun D σ H => te σ H D.rt
theorem Yi (he : PE X e te) : PS X (.Return (some e) pos) (Qq te) := by
 intro pins s σ H D I h
 exact wpAny_Return_some (thn (he pins s σ H _ I h) fun v s1 ⟨x, H1, I1, r1, q1⟩ => ⟨x, σ, H1, I1, r1, q1⟩)
def Qr (c : TT) (t u : TS) : TS := fun D σ H => c σ H fun b H1 => if b = true then t D σ H1 else u D σ H1
theorem Xb {c : Expr} {a b : List Stmt} {tc : TT} (hc : PT X c tc) (ha : PSs X a t) (hb : PSs X b u) : PS X (.If c a b pos) (Qr tc t u) := by
 intro pins s σ H D I h
 refine wpAny_If (thn (hc pins s σ H _ I h) fun d s1 ⟨H1, I1, q1⟩ => ?_)
 cases d with
 | true => exact ha pins s1 σ H1 D I1 q1
 | false => exact hb pins s1 σ H1 D I1 q1
def tNever : TS := fun _ _ _ => False
theorem ZcL : PS X st tNever := fun _ _ _ _ _ _ h => h.elim
end
abbrev TG := V -> St -> Hp -> (St -> Hp -> Prop) -> Prop
def PG (X : Cx) (target : Expr) (t : TG) : Prop :=
 ∀ (pins : List (Addr × Obj)) (s : Shared) (σ : St) (H : Hp) (v : V) (u : Value) (Q : St -> Hp -> Prop), Inv X pins σ H s -> RelV v u -> t v σ H Q ->
  wpAny (model X.prog X.w) X.A (assign target X.env u) (fun _ s' => ∃ σ' H', Inv X pins σ' H' s' /\ Q σ' H') X.xe s
abbrev TSet := V -> V -> V -> Hp -> (Hp -> Prop) -> Prop
def ZgI (X : Cx) (t : TSet) : Prop :=
 ∀ (pins : List (Addr × Obj)) (s : Shared) (σ : St) (H : Hp) (o i v : V) (ov iv u : Value) (Q : Hp -> Prop), Inv X pins σ H s -> RelV o ov -> RelV i iv -> RelV v u -> t o i v H Q ->
  wpAny (model X.prog X.w) X.A (setItem ov iv u) (fun _ s' => ∃ H', Inv X pins σ H' s' /\ Q H') X.xe s
section
variable {X : Cx} {pos : Pos}
def Xc (i : Nat) : TG := fun v σ H Q => Q (σ.set i (some v)) H
theorem Yj {i : Nat} {x : Str} (hN : X.N.Nodup) (hi : X.N[i]? = some x) (hx : Loc X.env.scope x) (hf : X.fn x = true \/ X.env.scope.names.lookup x = some .local := by first | exact .inl rfl | exact .inr rfl | assumption) : PG X (.Name x pos) (Xc i) := by
 intro pins s σ H v u Q I r h
 exact wpAny_assign_Name (JT I hN hi hx r (fun s' I' => ⟨_, H, I', h⟩) hf)
def Qs (to ti : TE) (t : TSet) : TG := fun v σ H Q => to σ H fun o H1 => ti σ H1 fun i H2 => t o i v H2 fun H3 => Q σ H3
theorem Ug {o i : Expr} {to ti : TE} {t : TSet} (ho : PE X o to) (hi : PE X i ti) (hs : ZgI X t)
 (ha : ∀ v, assign (.Subscript o i pos) X.env v = (do
   let ov <- holding [v] (eval o X.env)
   let iv <- holding [v, ov] (eval i X.env)
   standAt pos
   holding [v, ov, iv] (setItem ov iv v)
   release [v, ov, iv] []) := by intro _; rfl) : PG X (.Subscript o i pos) (Qs to ti t) := by
 intro pins s σ H v u Q I r h
 rw [ha]
 refine wpAny_bind (wpAny_holding (thn (ho pins s σ H _ I h) fun ov s1 ⟨x, H1, I1, r1, q1⟩ => ?_))
 refine wpAny_bind (wpAny_holding (thn (hi pins s1 σ H1 _ I1 q1) fun iv s2 ⟨y, H2, I2, r2, q2⟩ => ?_))
 refine wpAny_bind (wpAny_standAt (wpAny_bind (wpAny_holding (thn (hs pins s2 σ H2 x y v ov iv u _ I2 r1 r2 r q2) fun _ s3 ⟨H3, I3, q3⟩ => ?_))))
 exact wpAny_release ⟨σ, H3, I3, q3⟩
def Xd (te : TE) (g : TG) : TS := fun D σ H => te σ H fun x H1 => g x σ H1 D.nx
theorem Uh {tg e : Expr} {te : TE} {g : TG} (he : PE X e te) (hg : PG X tg g) (hs : swapsWithSole [tg] e pos.line X.env = pure false := by rfl) (hw : swappedStores [tg] e X.env = pure none := by rfl)
 (h1 : (assignEach [tg] X.env).map (·.2) = [assign tg X.env] := by rfl) : PS X (.Assign [tg] e pos) (Xd te g) := by
 intro pins s σ H D I h
 refine wpAny_Assign_stores (thn (he pins s σ H _ I h) fun v s1 ⟨x, H1, I1, r1, q1⟩ => ?_) hs hw
 rw [h1]
 exact thn (hg pins s1 σ H1 x v _ I1 r1 q1) fun _ s2 q => q
theorem ZP {i : Nat} {x : Str} {e : Expr} {te : TE} {pos' : Pos} (hN : X.N.Nodup) (hi : X.N[i]? = some x) (hx : Loc X.env.scope x) (he : PE X e te) (hs : swapsWith e (some (.Name x pos')) pos.line X.env = pure false := by rfl) (hf : X.fn x = true \/ X.env.scope.names.lookup x = some .local := by first | exact .inl rfl | exact .inr rfl | assumption) :
 PS X (.Assign [.Name x pos'] e pos) (Xd te (Xc i)) := by
 intro pins s σ H D I h
 refine wpAny_Assign_Name (thn (he pins s σ H _ I h) fun v s1 ⟨y, H1, I1, r1, q1⟩ => ?_) hs
 exact JT I1 hN hi hx r1 (fun s2 I2 => ⟨_, H1, I2, q1⟩) hf
end
section
variable {X : Cx} {pos : Pos}
def Qt (c : TT) (tb : TS) : TS := fun D σ H => ∃ W : Nat -> St -> Hp -> Prop, (∃ m, W m σ H) /\ ∀ m σ H, W m σ H ->
 c σ H fun b H1 => if b = true then ∃ N : St -> Hp -> Prop, (∀ σ' H', N σ' H' -> ∃ m', m' < m /\ W m' σ' H') /\ tb { D with nx := N, ct := N, bk := D.nx } σ H1 else D.nx σ H1
theorem Qv {c : Expr} {body : List Stmt} {tc : TT} {tb : TS} (hp : PassesOwn (model X.prog X.w) X.A X.env X.xe) (hc : PT X c tc) (hb : PSs X body tb) : PS X (.While c body [] pos) (Qt tc tb) := by
 intro pins s σ H D I h
 obtain ⟨W, ⟨m0, w0⟩, turn⟩ := h
 refine wpAny_While (codeAny_whileLoop (fun n s' => ∃ σ' H', Inv X pins σ' H' s' /\ W n σ' H') ?_ m0 ⟨σ, H, I, w0⟩)
 rintro n s1 ⟨σ1, H1, I1, w1⟩
 refine wpAny_passesOwn hp (thn (hc pins s1 σ1 H1 _ I1 (turn n σ1 H1 w1)) fun b s2 ⟨H2, I2, q2⟩ => ?_)
 cases b with
 | true =>
  obtain ⟨N, hN, q2⟩ := q2
  rw [if_pos rfl]
  refine wpAny_passesOwn hp (thn (hb pins s2 σ1 H2 _ I2 q2) fun f s3 q3 => ?_)
  cases f with
  | next =>
   obtain ⟨σ3, H3, I3, n3⟩ := q3
   obtain ⟨m', hm, w3⟩ := hN σ3 H3 n3
   exact ⟨m', hm, σ3, H3, I3, w3⟩
  | cont =>
   obtain ⟨σ3, H3, I3, n3⟩ := q3
   obtain ⟨m', hm, w3⟩ := hN σ3 H3 n3
   exact ⟨m', hm, σ3, H3, I3, w3⟩
  | brk => exact q3
  | ret v => exact q3
 | false =>
  rw [if_neg Bool.false_ne_true]
  exact wpAny_execs_nil ⟨σ1, H2, I2, q2⟩
end
structure It where
 go : Nat -> Hp -> Prop
 yld : Nat -> Hp -> V -> Hp -> Prop
 stop : Nat -> Hp -> Prop
def Yr (X : Cx) (pins : List (Addr × Obj)) (H : Hp) (b : Addr) : Prop :=
 H b = none /\ b ≠ X.env.locals /\ b ∉ X.fs /\ (b ∈ X.ex \/ X.s₀.heap.objs.size <= b) /\ (∀ x c, X.env.cells.lookup x = some c -> c ≠ b) /\ ∀ p ∈ X.pn ++ pins, p.1 ≠ b
theorem Inv.fpOk {X : Cx} {pins : List (Addr × Obj)} {σ : St} {H H' : Hp} {s : Shared} {b : Addr} (I : Inv X pins σ H s) (hb : s.heap.objs.size <= b) (hn : H' b = none) : Yr X pins H' b := by
 refine ⟨hn, Nat.ne_of_gt (Nat.lt_of_lt_of_le I.lt hb), I.nofs hb, .inr (Nat.le_trans I.sz hb), fun x c e z => ?_, fun p hp z => ?_⟩
 · obtain ⟨v, q⟩ := I.cell x c e
   exact absurd (Nat.lt_of_lt_of_le q.lt (by rw [z]; exact hb)) (Nat.lt_irrefl _)
 · exact absurd (Nat.lt_of_lt_of_le (Heap.lt_size (I.pin p hp).1) (by rw [z]; exact hb)) (Nat.lt_irrefl _)
structure Turn (P : Program) (w : World) (K : PySem.W.Frag) (tg : Expr) (J : It) (fp : List Addr) (it : Addr) (tn : Nat -> Heap -> Prop) : Prop where
 mem : it ∈ fp
 obj : ∀ i h, tn i h -> ∀ b ∈ fp, ∃ o, h.get? b = some o /\ ∀ v, o.data ≠ .cell v
 keep : ∀ i h h', tn i h -> (∀ b ∈ fp, ∀ o, h.get? b = some o -> h'.get? b = some o) -> tn i h'
 item : ∀ (X : Cx), X.prog = P -> X.w = w -> X.K = K -> X.calm = true -> ∀ (i : Nat) (pins : List (Addr × Obj)) (s : Shared) (σ : St) (H : Hp) (E : Value -> Shared -> Prop), Inv X pins σ H s -> (∀ b ∈ fp, Yr X pins H b) -> tn i s.heap -> J.go i H ->
  wpAny (model P w) X.A (pyNext (.ref it)) (fun r s1 => ∃ u, r = some u /\
   wpAny (model P w) X.A (letOwnedTupleGo tg (.ref it) u) (fun _ s2 => ∃ x H', Inv X pins σ H' s2 /\ RelV x u /\ J.yld i H x H' /\ tn (i + 1) s2.heap /\ ∀ b ∈ fp, H' b = none) E s1) E s
 done : ∀ (X : Cx), X.prog = P -> X.w = w -> X.K = K -> X.calm = true -> ∀ (i : Nat) (pins : List (Addr × Obj)) (s : Shared) (σ : St) (H : Hp) (E : Value -> Shared -> Prop), Inv X pins σ H s -> (∀ b ∈ fp, Yr X pins H b) -> tn i s.heap -> J.stop i H ->
  wpAny (model P w) X.A (pyNext (.ref it)) (fun r s1 => r = none /\ Inv X pins σ H s1) E s
 self : ∀ (A : Around) (i : Nat) (s : Shared) (Q : Value -> Shared -> Prop) (E : Value -> Shared -> Prop), tn i s.heap -> Q (.ref it) s -> wpAny (model P w) A (pyIter (.ref it)) Q E s
abbrev TI := St -> Hp -> (It -> Hp -> Prop) -> Prop
def PIE (X : Cx) (pins : List (Addr × Obj)) (σ : St) (tg : Expr) (R : It -> Hp -> Prop) (itv : Value) (s2 : Shared) : Prop :=
 ∃ (it : Addr) (fp : List Addr) (tn : Nat -> Heap -> Prop) (J : It) (H' : Hp), itv = .ref it /\ Inv X pins σ H' s2 /\ Turn X.prog X.w X.K tg J fp it tn /\ tn 0 s2.heap /\ (∀ b ∈ fp, Yr X pins H' b) /\ R J H'
def PI (X : Cx) (tg iter : Expr) (wi : TI) : Prop :=
 ∀ (pins : List (Addr × Obj)) (s : Shared) (σ : St) (H : Hp) (R : It -> Hp -> Prop), Inv X pins σ H s -> wi σ H R ->
  wpAny (model X.prog X.w) X.A (eval iter X.env) (fun v s1 => wpAny (model X.prog X.w) X.A (pyIter v) (PIE X pins σ tg R) X.xe s1) X.xe s
theorem Ui {M : Model} {A : Around} {E : Value -> Shared -> Prop} {s : Shared} {tg : Expr} {it : Addr} {u : Value} {o : Obj} {n : String} {vs : Array Value} {Q : Unit -> Shared -> Prop} (ho : s.heap.get? it = some o) (hc : o.cls = .type n) (hd : o.data = .fields vs)
 (hn : ["enumerate", "zip", "dict_itemiterator", "dict_reverseitemiterator", "odict_iterator", "itertools.zip_longest", "itertools.pairwise"].contains n = false) (hQ : Q () s) : wpAny M A (letOwnedTupleGo tg (.ref it) u) Q E s := by
 unfold letOwnedTupleGo
 cases tg <;> first
  | exact wpAny_pure hQ
  | (cases u <;> first
      | exact wpAny_pure hQ
      | (refine wpAny_bind (wpAny_load ho ?_)
         rw [hc, hd]
         show wpAny M A (if (["enumerate", "zip", "dict_itemiterator", "dict_reverseitemiterator", "odict_iterator", "itertools.zip_longest", "itertools.pairwise"].contains n && vs[0]? == some (rawInt _)) = true then _ else _) Q E s
         rw [if_neg (by intro h; rw [hn, Bool.false_and] at h; cases h)]
         exact wpAny_pure hQ))
def Itl (K : PySem.W.Frag) (a : Addr) : It :=
 ⟨fun i H => ∃ xs x, SqL K H a xs /\ xs[i]? = some x, fun i H x H' => H' = H /\ ∀ xs, SqL K H a xs -> xs[i]? = some x, fun i H => ∃ xs, SqL K H a xs /\ xs.length <= i⟩
def Itt (K : PySem.W.Frag) (a : Addr) : It :=
 ⟨fun i H => ∃ xs x, SqT K H a xs /\ xs[i]? = some x, fun i H x H' => H' = H /\ ∀ xs, SqT K H a xs -> xs[i]? = some x, fun i H => ∃ xs, SqT K H a xs /\ xs.length <= i⟩
def Itr (lo : Int) (n : Nat) : It := ⟨fun i _ => i < n, fun i H x H' => H' = H /\ x = .int (lo + i), fun i _ => n <= i⟩
theorem Zcc {P : Program} {w : World} {K : PySem.W.Frag} {tg : Expr} (a it : Addr) : Turn P w K tg (Itl K a) [it] it (fun i h => h.IsListIter it a i) where
 mem := by simp
 obj := fun i h st b hb => by
  have e : b = it := by simpa using hb
  subst e
  obtain ⟨o, e, c, d⟩ := st
  exact ⟨o, e, fun v z => by rw [d] at z; cases z⟩
 keep := fun i h h' st k => st.at fun o e => k it (by simp) o e
 item := by
  intro X hP hw hK hc i pins s σ H E I hf st hg
  subst hP hw hK
  obtain ⟨xs, x, hq, hx⟩ := hg
  obtain ⟨its, rv, p, hz⟩ := I.list hq
  obtain ⟨u, hu, ru⟩ := rv.get hx
  obtain ⟨f0, f1, f2, f3, f4, f5⟩ := hf it (by simp)
  refine wpAny_pyNext_list_item st p.isList (x := u) (by simpa using hu) fun h' st' sb => ?_
  have I1 : Inv X pins σ H { s with heap := h' } := I.turned (t' := s.toks) (fun b o hb e => (sb.2 b hb).trans e) f0 f1 f3 f4 f5
  obtain ⟨o, e, c, d⟩ := id st'
  exact ⟨u, rfl, Ui (s := { s with heap := h' }) e c d (by decide) ⟨x, H, I1, ru, ⟨rfl, fun ys hy => by rw [I.list_inj hy hq]; exact hx⟩, st', fun b hb => (hf b hb).1⟩⟩
 done := by
  intro X hP hw hK hc i pins s σ H E I hf st hg
  subst hP hw hK
  obtain ⟨xs, hq, hx⟩ := hg
  obtain ⟨its, rv, p, hz⟩ := I.list hq
  obtain ⟨f0, f1, f2, f3, f4, f5⟩ := hf it (by simp)
  have hl := rv.length
  exact wpAny_pyNext_list_end (I.ok.hd hc) st p.isList (by simp; omega) fun h' eb => ⟨rfl, I.turned (t' := s.toks) (fun b o hb e => eb b o hb e) f0 f1 f3 f4 f5⟩
 self := fun _ _ _ _ _ st h => wpAny_pyIter_listiter st h
theorem Zao {P : Program} {w : World} {K : PySem.W.Frag} {tg : Expr} (a it : Addr) : Turn P w K tg (Itt K a) [it] it (fun i h => h.IsTupleIter it a i) where
 mem := by simp
 obj := fun i h st b hb => by
  have e : b = it := by simpa using hb
  subst e
  obtain ⟨o, e, c, d⟩ := st
  exact ⟨o, e, fun v z => by rw [d] at z; cases z⟩
 keep := fun i h h' st k => st.at fun o e => k it (by simp) o e
 item := by
  intro X hP hw hK hc i pins s σ H E I hf st hg
  subst hP hw hK
  obtain ⟨xs, x, hq, hx⟩ := hg
  obtain ⟨its, rv, p, hz⟩ := I.tuple hq
  obtain ⟨u, hu, ru⟩ := rv.get hx
  obtain ⟨f0, f1, f2, f3, f4, f5⟩ := hf it (by simp)
  refine wpAny_pyNext_tuple_item st (show s.heap.IsTuple a its.toArray from p) (x := u) (by simpa using hu) fun h' st' sb => ?_
  have I1 : Inv X pins σ H { s with heap := h' } := I.turned (t' := s.toks) (fun b o hb e => (sb.2 b hb).trans e) f0 f1 f3 f4 f5
  obtain ⟨o, e, c, d⟩ := id st'
  exact ⟨u, rfl, Ui (s := { s with heap := h' }) e c d (by decide) ⟨x, H, I1, ru, ⟨rfl, fun ys hy => by rw [I.tuple_inj hy hq]; exact hx⟩, st', fun b hb => (hf b hb).1⟩⟩
 done := by
  intro X hP hw hK hc i pins s σ H E I hf st hg
  subst hP hw hK
  obtain ⟨xs, hq, hx⟩ := hg
  obtain ⟨its, rv, p, hz⟩ := I.tuple hq
  obtain ⟨f0, f1, f2, f3, f4, f5⟩ := hf it (by simp)
  have hl := rv.length
  exact wpAny_pyNext_tuple_end (I.ok.hd hc) st (show s.heap.IsTuple a its.toArray from p) (by simp; omega) fun h' eb => ⟨rfl, I.turned (t' := s.toks) (fun b o hb e => eb b o hb e) f0 f1 f3 f4 f5⟩
 self := fun _ _ _ _ _ st h => wpAny_pyIter_tupleiter st h
theorem Zbm {P : Program} {w : World} {K : PySem.W.Frag} {tg : Expr} (it : Addr) (lo : Int) (n : Nat) : Turn P w K tg (Itr lo n) [it] it (fun i h => IsRangeIter h it (lo + (i : Nat) * 1) ((n : Int) - (i : Nat)) 1) where
 mem := by simp
 obj := fun i h st b hb => by
  have e : b = it := by simpa using hb
  subst e
  exact ⟨_, st, fun v z => by
   have z' : Data.fields _ = Data.cell v := z
   cases z'⟩
 keep := fun i h h' st k => k it (by simp) _ st
 item := by
  intro X hP hw hK hc i pins s σ H E I hf st hg
  subst hP hw hK
  obtain ⟨f0, f1, f2, f3, f4, f5⟩ := hf it (by simp)
  have W := Walks.range (prog := X.prog) (w := X.w) (I.ok.hd hc) it lo 1 n
  refine W.item i s _ _ hg st fun v h' tk hv st' kk => ?_
  obtain ⟨t, rfl⟩ := hv
  have I1 : Inv X pins σ H { s with heap := h', toks := tk } := I.turned (fun b o hb e => kk b o (by simpa using hb) e) f0 f1 f3 f4 f5
  refine ⟨_, rfl, Ui (s := { s with heap := h', toks := tk }) (n := "range_iterator") st' rfl rfl (by decide) ⟨.int (lo + i), H, I1, ⟨t, ?_⟩, ⟨rfl, rfl⟩, st', fun b hb => (hf b hb).1⟩⟩
  rw [Int.mul_one]
 done := by
  intro X hP hw hK hc i pins s σ H E I hf st hg
  subst hP hw hK
  obtain ⟨f0, f1, f2, f3, f4, f5⟩ := hf it (by simp)
  exact wpAny_pyNext_range_end (I.ok.hd hc) st (by have : n <= i := hg; omega) fun h' eb => ⟨rfl, I.turned (t' := s.toks) (fun b o hb e => eb b o hb e) f0 f1 f3 f4 f5⟩
 self := fun _ _ _ _ _ st h => wpAny_pyIter_rangeiter st h
end L2
namespace L2
open PySem PySem.Spec PyProof.Rows
section
variable {X : Cx} {tg : Expr}
def ZgZ (K : PySem.W.Frag) (tl : TE) : TI := fun σ H R => tl σ H fun x H1 => ∃ a, x = .ref a /\ (∃ xs, SqT K H1 a xs) /\ R (Itt K a) H1
theorem Zff {l : Expr} {tl : TE} (hl : PE X l tl) : PI X tg l (ZgZ X.K tl) := by
 intro pins s σ H R I h
 refine thn (hl pins s σ H _ I h) fun v s1 ⟨x, H1, I1, r1, q1⟩ => ?_
 obtain ⟨a, e, ⟨xs, hq⟩, q⟩ := q1
 subst e
 cases r1
 obtain ⟨its, rv, p, hz⟩ := I1.tuple hq
 refine wpAny_pyIter_tuple (show s1.heap.IsTuple a its.toArray from p) ?_
 refine ⟨s1.heap.objs.size, [s1.heap.objs.size], _, _, H1, rfl, I1.kept (t' := s1.toks) fun b o e => Heap.get?_push_of_some _ e, Zao a _, ⟨_, Heap.get?_push_size _ rfl, rfl, rfl⟩, fun b hb => ?_, q⟩
 have e : b = s1.heap.objs.size := by simpa using hb
 subst e
 exact I1.fpOk (Nat.le_refl _) (I1.hok.fresh (Nat.le_refl _))
theorem Za4 {pins : List (Addr × Obj)} {σ : St} {H : Hp} {s : Shared} {R : It -> Hp -> Prop} {E : Value -> Shared -> Prop} {lo hi : Int} {t u v : Tok} {tk : Nat} (I : Inv X pins σ H s) (h1 : -(2 ^ 62) <= lo) (h2 : lo < 2 ^ 62) (h3 : -(2 ^ 62) <= hi) (h4 : hi < 2 ^ 62)
 (q : R (Itr lo (hi - lo).toNat) H) : wpAny (model X.prog X.w) X.A (pyIter (.ref s.heap.objs.size)) (PIE X pins σ tg R) E { s with heap := s.heap.push { cls := .type "range", data := .fields #[.int lo t, .int hi u, .int 1 v] }, toks := tk } := by
 refine wpAny_pyIter_range (IsRange.new ..) (small_one h1 h2 h3 h4) ?_
 have I1 : Inv X pins σ H { s with heap := s.heap.push { cls := .type "range", data := .fields #[.int lo t, .int hi u, .int 1 v] }, toks := tk } := I.kept fun b o e => Heap.get?_push_of_some _ e
 refine ⟨(s.heap.push { cls := .type "range", data := .fields #[.int lo t, .int hi u, .int 1 v] }).objs.size, [(s.heap.push { cls := .type "range", data := .fields #[.int lo t, .int hi u, .int 1 v] }).objs.size], _, _, H, rfl,
  I1.kept (t' := tk) fun b o e => Heap.get?_push_of_some _ e, Zbm _ lo (hi - lo).toNat, ?_, fun b hb => ?_, q⟩
 · have e1 : lo + ((0 : Nat) : Int) * 1 = lo := by simp
   have e2 : (((hi - lo).toNat : Nat) : Int) - ((0 : Nat) : Int) = Builtin.Range.rangeSize lo hi 1 := by rw [rangeSize_one]; split <;> omega
   show IsRangeIter _ _ (lo + ((0 : Nat) : Int) * 1) ((((hi - lo).toNat : Nat) : Int) - ((0 : Nat) : Int)) 1
   rw [e1, e2]
   exact Heap.get?_push_size _ rfl
 · have e : b = (s.heap.push { cls := .type "range", data := .fields #[.int lo t, .int hi u, .int 1 v] }).objs.size := by simpa using hb
   subst e
   exact I1.fpOk (Nat.le_refl _) (I1.hok.fresh (Nat.le_refl _))
def Qw (ta : TA) : TI := fun σ H R => ta σ H fun vs H1 => ∃ j : Int, vs = [.int j] /\ -(2 ^ 62) <= j /\ j < 2 ^ 62 /\ R (Itr 0 j.toNat) H1
def Qx (ta : TA) : TI := fun σ H R => ta σ H fun vs H1 => ∃ i j : Int, vs = [.int i, .int j] /\ (-(2 ^ 62) <= i /\ i < 2 ^ 62 /\ -(2 ^ 62) <= j /\ j < 2 ^ 62) /\ R (Itr i (j - i).toNat) H1
theorem Xt {a : Expr} {ta : TA} {p pos : Pos} (hg : Gl X "range") (hm : X.mg "range" = none) (ha : PA X [a] ta) (hs : starEach [a] X.env = [(false, eval a X.env)] := by rfl) : PI X tg (.Call (.Name "range" p) [a] [] pos) (Qw ta) := by
 intro pins s σ H R I h
 refine Call_ (Vv I hg hm boot_range (PyProof.Rows.callWith_type1 (thn (ha pos pins s σ H _ I h) fun us s1 ⟨vs, H1, I1, r1, q1⟩ => ?_) hs rfl))
 obtain ⟨j, e, q1, q2, q⟩ := q1
 subst e
 cases r1 with
 | cons r rr =>
  cases rr
  obtain ⟨t, rfl⟩ := r
  exact call_range_1 (Za4 I1 (by omega) (by omega) q1 q2 (by simpa using q))
theorem Zax {a b : Expr} {ta : TA} {p pos : Pos} (hg : Gl X "range") (hm : X.mg "range" = none) (ha : PA X [a, b] ta) (hs : starEach [a, b] X.env = [(false, eval a X.env), (false, eval b X.env)] := by rfl) (hs2 : starEach [b] X.env = [(false, eval b X.env)] := by rfl) :
 PI X tg (.Call (.Name "range" p) [a, b] [] pos) (Qx ta) := by
 intro pins s σ H R I h
 refine Call_ (Vv I hg hm boot_range (PyProof.Rows.callWith_type1 (thn (ha pos pins s σ H _ I h) fun us s1 ⟨vs, H1, I1, r1, q1⟩ => ?_) (by rw [hs, hs2]) (by rw [hs2]; rfl)))
 obtain ⟨i, j, e, ⟨q1, q2, q3, q4⟩, q⟩ := q1
 subst e
 cases r1 with
 | cons r rr =>
  cases rr with
  | cons r' rr =>
   cases rr
   obtain ⟨t, rfl⟩ := r
   obtain ⟨t', rfl⟩ := r'
   exact call_range_2 (Za4 I1 q1 q2 q3 q4 q)
def Qy (wi : TI) (g : TG) (tb : TS) : TS := fun D σ H => wi σ H fun J H1 => ∃ W : Nat -> Nat -> St -> Hp -> Prop, (∃ m, W 0 m σ H1) /\ ∀ i m σ H, W i m σ H ->
 (J.stop i H /\ D.nx σ H) \/ (J.go i H /\ ∃ N : St -> Hp -> Prop, (∀ σ' H', N σ' H' -> ∃ m', m' < m /\ W (i + 1) m' σ' H') /\ ∀ x H', J.yld i H x H' -> g x σ H' fun σ2 H2 => tb { D with nx := N, ct := N, bk := D.nx } σ2 H2)
def YQ (fp : List Addr) (h : Heap) : List (Addr × Obj) := fp.filterMap fun b => (h.get? b).map fun o => (b, o)
theorem Uj {fp : List Addr} {h : Heap} {b : Addr} {o : Obj} (hb : b ∈ fp) (e : h.get? b = some o) : (b, o) ∈ YQ fp h := List.mem_filterMap.mpr ⟨b, hb, by rw [e]; rfl⟩
theorem Zay {fp : List Addr} {h : Heap} {p : Addr × Obj} (hp : p ∈ YQ fp h) : p.1 ∈ fp /\ h.get? p.1 = some p.2 := by
 obtain ⟨b, hb, e⟩ := List.mem_filterMap.mp hp
 cases q : h.get? b with
 | none => rw [q] at e; cases e
 | some o =>
  rw [q] at e
  have e' : (b, o) = p := Option.some.inj e
  subst e'
  exact ⟨hb, q⟩
theorem Inv.pinned {pins : List (Addr × Obj)} {σ : St} {H : Hp} {s : Shared} {fp : List Addr} (I : Inv X pins σ H s) (hf : ∀ b ∈ fp, Yr X pins H b) (ho : ∀ b ∈ fp, ∃ o, s.heap.get? b = some o /\ ∀ v, o.data ≠ .cell v) : Inv X (pins ++ YQ fp s.heap) σ H s :=
 I.pins_of fun p hp => (List.mem_append.mp hp).elim (fun z => I.pin p (List.mem_append_right _ z)) fun z => by
  obtain ⟨hb, e⟩ := Zay z
  obtain ⟨f0, f1, f2, _⟩ := hf p.1 hb
  obtain ⟨o, e', d⟩ := ho p.1 hb
  rw [e] at e'; cases e'
  exact ⟨e, f0, f1, f2, d⟩
theorem Inv.unpinned {pins pl : List (Addr × Obj)} {σ : St} {H : Hp} {s : Shared} (I : Inv X (pins ++ pl) σ H s) : Inv X pins σ H s := I.pins_of fun p hp => I.pin p (List.mem_append_right _ (List.mem_append_left _ hp))
theorem Xu {iter : Expr} {body : List Stmt} {wi : TI} {g : TG} {tb : TS} {pos : Pos} (hp : PassesOwn (model X.prog X.w) X.A X.env X.xe) (hc : X.calm = true) (hi : PI X tg iter wi) (hg : PG X tg g) (hb : PSs X body tb)
 (hs : ∀ x, foldedSetIterable iter X.env x = pure x := by intro _; rfl) : PS X (.For tg iter body [] pos) (Qy wi g tb) := by
 intro pins s σ H D I h
 refine wpAny_For (thn (hi pins s σ H _ I h) fun v s1 h1 => thn h1 fun itv s2 h2 => ?_) hs
 obtain ⟨it, fp, tn, J, H2, e, I2, T, st2, f2, W, ⟨m0, w0⟩, turn⟩ := h2
 subst e
 have stat : ∀ {H' : Hp}, (∀ b ∈ fp, H' b = none) -> ∀ b ∈ fp, Yr X pins H' b := fun hn b hb => ⟨hn b hb, (f2 b hb).2⟩
 refine codeAny_forLoop_any (fun n s' => ∃ i σ' H', Inv X pins σ' H' s' /\ tn i s'.heap /\ (∀ b ∈ fp, H' b = none) /\ W i n σ' H') ?_ m0 ⟨0, σ, H2, I2, st2, fun b hb => (f2 b hb).1, w0⟩
 rintro n s3 ⟨i, σ3, H3, I3, st3, fr3, w3⟩
 rcases turn i n σ3 H3 w3 with ⟨stop, qn⟩ | ⟨go, N, hN, step⟩
 · refine wpAny_passesOwn hp (thn (T.done X rfl rfl rfl hc i pins s3 σ3 H3 X.xe I3 (stat fr3) st3 stop) fun r s4 ⟨hr, I4⟩ => ?_)
   subst hr
   exact wpAny_execs_nil ⟨σ3, H3, I4, qn⟩
 · refine wpAny_passesOwn hp (thn (T.item X rfl rfl rfl hc i pins s3 σ3 H3 X.xe I3 (stat fr3) st3 go) fun r s4 ⟨u, hr, h4⟩ => ?_)
   subst hr
   refine wpAny_passesOwn hp (thn h4 fun _ s5 ⟨x, H5, I5, r5, y5, st5, fr5⟩ => ?_)
   have I5' := I5.pinned (stat fr5) (T.obj _ _ st5)
   refine wpAny_passesOwn hp (thn (hg _ s5 σ3 H5 x u _ I5' r5 (step x H5 y5)) fun _ s6 ⟨σ6, H6, I6, q6⟩ => ?_)
   refine wpAny_passesOwn hp (thn (hb _ s6 σ6 H6 _ I6 q6) fun f s7 q7 => ?_)
   have again : ∀ {σ7 : St} {H7 : Hp}, Inv X (pins ++ YQ fp s5.heap) σ7 H7 s7 -> N σ7 H7 -> ∃ m, m < n /\ ∃ i σ' H', Inv X pins σ' H' s7 /\ tn i s7.heap /\ (∀ b ∈ fp, H' b = none) /\ W i m σ' H' := fun {σ7 H7} I7 n7 => by
    obtain ⟨m', hm, w7⟩ := hN σ7 H7 n7
    refine ⟨m', hm, i + 1, σ7, H7, I7.unpinned, T.keep _ _ _ st5 fun b hb o e => (I7.pin (b, o) (List.mem_append_right _ (List.mem_append_right _ (Uj hb e)))).1, fun b hb => ?_, w7⟩
    obtain ⟨o, e, d⟩ := T.obj _ _ st5 b hb
    exact (I7.pin (b, o) (List.mem_append_right _ (List.mem_append_right _ (Uj hb e)))).2.1
   cases f with
   | next => obtain ⟨σ7, H7, I7, n7⟩ := q7; exact again I7 n7
   | cont => obtain ⟨σ7, H7, I7, n7⟩ := q7; exact again I7 n7
   | brk => obtain ⟨σ7, H7, I7, q7⟩ := q7; exact ⟨σ7, H7, I7.unpinned, q7⟩
   | ret v => obtain ⟨x7, σ7, H7, I7, r7, q7⟩ := q7; exact ⟨x7, σ7, H7, I7.unpinned, r7, q7⟩
end
end L2
namespace L2
open PySem PySem.Spec PyProof.Rows
abbrev R2 := V -> V -> Hp -> VK -> Prop
def OpR (X : Cx) (f : Value -> Value -> Sem Value) (r : R2) : Prop :=
 ∀ (pins : List (Addr × Obj)) (s : Shared) (σ : St) (H : Hp) (x y : V) (v u : Value) (Q : VK), Inv X pins σ H s -> RelV x v -> RelV y u -> r x y H Q ->
  wpAny (model X.prog X.w) X.A (f v u) (EP X pins σ Q) X.xe s
def ZW (X : Cx) (f : Value) (r : List V -> Hp -> VK -> Prop) : Prop :=
 ∀ (pins : List (Addr × Obj)) (s : Shared) (σ : St) (H : Hp) (xs : List V) (us : List Value) (Q : VK), Inv X pins σ H s -> Vals xs us -> r xs H Q ->
  wpAny (model X.prog X.w) X.A (call f us) (EP X pins σ Q) X.xe s
def tOp (r : R2) (ta tb : TE) : TE := fun σ H Q => ta σ H fun x H1 => tb σ H1 fun y H2 => r x y H2 Q
def rI (C : Int -> Int -> Prop) (g : Int -> Int -> V) : R2 := fun x y H Q => ∃ i j, x = .int i /\ y = .int j /\ C i j /\ Q (g i j) H
def rI0 (g : Int -> Int -> V) : R2 := fun x y H Q => ∃ i j, x = .int i /\ y = .int j /\ Q (g i j) H
section
variable {X : Cx} {a b c : Expr} {ta tb tc : TE} {pos : Pos}
theorem Qz (ha : PE X a ta) (hb : PE X b tb) {pins : List (Addr × Obj)} {s : Shared} {σ : St} {H : Hp} {R : V -> V -> Hp -> Prop} (I : Inv X pins σ H s)
 (h : ta σ H fun x H1 => tb σ H1 fun y H2 => R x y H2) {Q : Value -> Shared -> Prop} {f : Value -> Value -> Sem Value}
 (hf : ∀ v u s2 x y H2, Inv X pins σ H2 s2 -> RelV x v -> RelV y u -> R x y H2 -> wpAny (model X.prog X.w) X.A (f v u) Q X.xe s2) :
 wpAny (model X.prog X.w) X.A (eval a X.env) (fun v s₁ => wpAny (model X.prog X.w) X.A (eval b X.env) (fun u s₂ => wpAny (model X.prog X.w) X.A (f v u) Q X.xe s₂) X.xe s₁) X.xe s := by
 refine thn (ha pins s σ H _ I h) fun v s1 ⟨x, H1, I1, r1, q1⟩ => ?_
 refine thn (hb pins s1 σ H1 _ I1 q1) fun u s2 ⟨y, H2, I2, r2, q2⟩ => ?_
 exact hf v u s2 x y H2 I2 r1 r2 q2
theorem Zq {op : Operator} {r : R2} (ho : OpR X (binaryOp op) r) (ha : PE X a ta) (hb : PE X b tb) : PE X (.BinOp a op b pos) (tOp r ta tb) := by
 intro pins s σ H Q I h
 exact wpAny_BinOp (Qz ha hb I h fun v u s2 x y H2 I2 rx ry q => ho pins s2 σ H2 x y v u Q I2 rx ry q)
theorem opI {f : Value -> Value -> Sem Value} {C : Int -> Int -> Prop} {g : Int -> Int -> Int}
 (rule : ∀ (i j : Int) (t u : Tok) (s : Shared) (Q : Value -> Shared -> Prop) (E : Value -> Shared -> Prop), C i j -> Q (.int (g i j) s.toks) { s with toks := s.toks + 1 } -> wpAny (model X.prog X.w) X.A (f (.int i t) (.int j u)) Q E s) :
 OpR X f (rI C fun i j => .int (g i j)) := by
 intro pins s σ H x y v u Q I rx ry h
 obtain ⟨i, j, rfl, rfl, hc, q⟩ := h
 obtain ⟨t, rfl⟩ := rx
 obtain ⟨t', rfl⟩ := ry
 exact rule i j t t' s _ _ hc ⟨.int (g i j), H, I.tok _, ⟨_, rfl⟩, q⟩
theorem ZgJ {f : Value -> Value -> Sem Value} {g : Int -> Int -> Int}
 (rule : ∀ (i j : Int) (t u : Tok) (s : Shared) (Q : Value -> Shared -> Prop) (E : Value -> Shared -> Prop), Q (.int (g i j) s.toks) { s with toks := s.toks + 1 } -> wpAny (model X.prog X.w) X.A (f (.int i t) (.int j u)) Q E s) :
 OpR X f (rI0 fun i j => .int (g i j)) := by
 intro pins s σ H x y v u Q I rx ry h
 obtain ⟨i, j, rfl, rfl, q⟩ := h
 obtain ⟨t, rfl⟩ := rx
 obtain ⟨t', rfl⟩ := ry
 exact rule i j t t' s _ _ ⟨.int (g i j), H, I.tok _, ⟨_, rfl⟩, q⟩
theorem ZgK {f : Value -> Value -> Sem Value} {g : Int -> Int -> Bool}
 (rule : ∀ (i j : Int) (t u : Tok) (s : Shared) (Q : Value -> Shared -> Prop) (E : Value -> Shared -> Prop), Q (.bool (g i j)) s -> wpAny (model X.prog X.w) X.A (f (.int i t) (.int j u)) Q E s) :
 OpR X f (rI0 fun i j => .bl (g i j)) := by
 intro pins s σ H x y v u Q I rx ry h
 obtain ⟨i, j, rfl, rfl, q⟩ := h
 obtain ⟨t, rfl⟩ := rx
 obtain ⟨t', rfl⟩ := ry
 exact rule i j t t' s _ _ ⟨.bl (g i j), H, I, rfl, q⟩
def YR (i j : Int) : Prop := 0 < j /\ j < 1073741824
def ZgL (i j : Int) : Prop := 0 <= j /\ j <= 1000000 /\ i.natAbs < 2 ^ 64
def CMul (i j : Int) : Prop := (-(2 ^ 64) < i /\ i < 2 ^ 64) \/ (-(2 ^ 64) < j /\ j < 2 ^ 64)
theorem CMul.ok {i j : Int} (h : CMul i j) : IntMulOk i j := by
 rcases h with ⟨h1, h2⟩ | ⟨h1, h2⟩
 · exact .of_left (intBits_le_64 h1 h2)
 · exact .of_right (intBits_le_64 h1 h2)
theorem op_add : OpR X (binaryOp .Add) (rI0 fun i j => .int (i + j)) := ZgJ fun _ _ _ _ _ _ _ q => add_int q
theorem Zfg : OpR X (binaryOp .Sub) (rI0 fun i j => .int (i - j)) := ZgJ fun _ _ _ _ _ _ _ q => sub_int q
theorem XJ : OpR X (binaryOp .FloorDiv) (rI YR fun i j => .int (i / j)) := opI fun i j _ _ _ _ _ hc q => by
 have h1 : (0 : Int) < j := hc.1
 have h2 : j < 1073741824 := hc.2
 exact floordiv_int (by omega) (by rw [Int.fdiv_eq_ediv_of_nonneg i (by omega)]; exact q) (.inl (PyProof.noPylong_small (by omega)))
theorem Yb : OpR X (binaryOp .Mod) (rI (fun _ j => 0 < j) fun i j => .int (i % j)) := opI fun i j _ _ _ _ _ hc q => by
 have h1 : (0 : Int) < j := hc
 exact mod_int' (by omega) (by rw [Int.fmod_eq_emod_of_nonneg i (by omega)]; exact q)
end
def scal : V -> V -> Bool
 | .non, .non => true | .non, .int _ => true | .int _, .non => true | .non, .bl _ => true | .bl _, .non => true | .non, .str _ => true | .str _, .non => true
 | .int _, .int _ => true | .bl _, .bl _ => true | .str _, .str _ => true | .byt _, .byt _ => true
 | .int _, .str _ => true | .str _, .int _ => true | .bl _, .str _ => true | .str _, .bl _ => true
 | _, _ => false
def rEq : R2 := fun x y H Q => scal x y = true /\ Q (.bl (decide (x = y))) H
def rNe : R2 := fun x y H Q => scal x y = true /\ Q (.bl (!decide (x = y))) H
theorem ZbF {i j : Int} : decide (V.int i = V.int j) = (i == j) := by
 rw [Bool.eq_iff_iff]
 simp
theorem Zdk {i j : Bool} : decide (V.bl i = V.bl j) = (i == j) := by
 rw [Bool.eq_iff_iff]
 simp
theorem ZbG {i j : Str} : decide (V.str i = V.str j) = (i == j) := by
 rw [Bool.eq_iff_iff]
 simp
theorem ZbH {i j : Array UInt8} : decide (V.byt i = V.byt j) = (i.toList == j.toList) := by
 rw [Bool.eq_iff_iff]
 cases i
 cases j
 simp
section
variable {X : Cx} {a b c : Expr} {ta tb tc : TE} {pos : Pos}
theorem ZD {pins : List (Addr × Obj)} {σ : St} {H : Hp} {s : Shared} {Q : VK} {k k' : Bool} (I : Inv X pins σ H s) (q : Q (.bl k) H) (e : k = k') : EP X pins σ Q (.bool k') s := by
 subst e
 exact ⟨.bl k, H, I, rfl, q⟩
theorem ZfX : OpR X (compareOp .Eq) rEq := by
 intro pins s σ H x y v u Q I rx ry h
 obtain ⟨hs, q⟩ := h
 cases x with
 | non =>
  cases rx
  cases y with
  | non => cases ry; exact PySem.EqNone.eq_none_none (ZD I q (by simp))
  | bl j => cases ry; exact PySem.EqNone.eq_none_bool (ZD I q (by simp))
  | int j => obtain ⟨t', rfl⟩ := ry; exact PySem.EqNone.eq_none_int (ZD I q (by simp))
  | str j => obtain ⟨t', rfl⟩ := ry; exact PySem.EqNone.eq_none_str (ZD I q (by simp))
  | _ => exact absurd (show false = true from hs) Bool.false_ne_true
 | bl i =>
  cases rx
  cases y with
  | non => cases ry; exact PySem.EqNone.eq_bool_none (ZD I q (by simp))
  | bl j => cases ry; exact eq_bool (ZD I q Zdk)
  | str j => obtain ⟨t', rfl⟩ := ry; exact PySem.EqMixed.eq_bool_str (ZD I q (by simp))
  | _ => exact absurd (show false = true from hs) Bool.false_ne_true
 | int i =>
  obtain ⟨t, rfl⟩ := rx
  cases y with
  | non => cases ry; exact PySem.EqNone.eq_int_none (ZD I q (by simp))
  | int j => obtain ⟨t', rfl⟩ := ry; exact eq_int (ZD I q ZbF)
  | str j => obtain ⟨t', rfl⟩ := ry; exact PySem.EqMixed.eq_int_str (ZD I q (by simp))
  | _ => exact absurd (show false = true from hs) Bool.false_ne_true
 | str i =>
  obtain ⟨t, rfl⟩ := rx
  cases y with
  | non => cases ry; exact PySem.EqNone.eq_str_none (ZD I q (by simp))
  | bl j => cases ry; exact PySem.EqMixed.eq_str_bool (ZD I q (by simp))
  | int j => obtain ⟨t', rfl⟩ := ry; exact PySem.EqMixed.eq_str_int (ZD I q (by simp))
  | str j => obtain ⟨t', rfl⟩ := ry; exact eq_str (ZD I q ZbG)
  | _ => exact absurd (show false = true from hs) Bool.false_ne_true
 | byt i =>
  obtain ⟨t, rfl⟩ := rx
  cases y with
  | byt j => obtain ⟨t', rfl⟩ := ry; exact PySem.W.eq_bytes (ZD I q ZbH)
  | _ => exact absurd (show false = true from hs) Bool.false_ne_true
 | _ => cases y <;> exact absurd (show false = true from hs) Bool.false_ne_true
theorem ZfY : OpR X (compareOp .NotEq) rNe := by
 intro pins s σ H x y v u Q I rx ry h
 obtain ⟨hs, q⟩ := h
 cases x with
 | non =>
  cases rx
  cases y with
  | non => cases ry; exact PySem.EqNone.ne_none_none (ZD I q (by simp))
  | bl j => cases ry; exact PySem.EqNone.ne_none_bool (ZD I q (by simp))
  | int j => obtain ⟨t', rfl⟩ := ry; exact PySem.EqNone.ne_none_int (ZD I q (by simp))
  | str j => obtain ⟨t', rfl⟩ := ry; exact PySem.EqNone.ne_none_str (ZD I q (by simp))
  | _ => exact absurd (show false = true from hs) Bool.false_ne_true
 | bl i =>
  cases rx
  cases y with
  | non => cases ry; exact PySem.EqNone.ne_bool_none (ZD I q (by simp))
  | bl j => cases ry; exact ne_bool (ZD I q (congrArg not Zdk))
  | str j => obtain ⟨t', rfl⟩ := ry; exact PySem.EqMixed.ne_bool_str (ZD I q (by simp))
  | _ => exact absurd (show false = true from hs) Bool.false_ne_true
 | int i =>
  obtain ⟨t, rfl⟩ := rx
  cases y with
  | non => cases ry; exact PySem.EqNone.ne_int_none (ZD I q (by simp))
  | int j => obtain ⟨t', rfl⟩ := ry; exact ne_int (ZD I q (congrArg not ZbF))
  | str j => obtain ⟨t', rfl⟩ := ry; exact PySem.EqMixed.ne_int_str (ZD I q (by simp))
  | _ => exact absurd (show false = true from hs) Bool.false_ne_true
 | str i =>
  obtain ⟨t, rfl⟩ := rx
  cases y with
  | non => cases ry; exact PySem.EqNone.ne_str_none (ZD I q (by simp))
  | bl j => cases ry; exact PySem.EqMixed.ne_str_bool (ZD I q (by simp))
  | int j => obtain ⟨t', rfl⟩ := ry; exact PySem.EqMixed.ne_str_int (ZD I q (by simp))
  | str j => obtain ⟨t', rfl⟩ := ry; exact ne_str (ZD I q (congrArg not ZbG))
  | _ => exact absurd (show false = true from hs) Bool.false_ne_true
 | byt i =>
  obtain ⟨t, rfl⟩ := rx
  cases y with
  | byt j => obtain ⟨t', rfl⟩ := ry; exact PySem.W.ne_bytes (ZD I q (congrArg not ZbH))
  | _ => exact absurd (show false = true from hs) Bool.false_ne_true
 | _ => cases y <;> exact absurd (show false = true from hs) Bool.false_ne_true
theorem ZfZ : OpR X (compareOp .Lt) (rI0 fun i j => .bl (decide (i < j))) := ZgK fun _ _ _ _ _ _ _ q => lt_int q
theorem ZeI : OpR X (compareOp .Gt) (rI0 fun i j => .bl (decide (j < i))) := ZgK fun _ _ _ _ _ _ _ q => gt_int q
theorem Zcd : OpR X (compareOp .In) (fun x y H Q => ∃ i j, x = .str i /\ y = .str j /\ Q (.bl (!(Builtin.Str.occurrences j i 0 j.length 1).isEmpty)) H) := by
 intro pins s σ H x y v u Q I rx ry h
 obtain ⟨i, j, rfl, rfl, q⟩ := h
 obtain ⟨t, rfl⟩ := rx
 obtain ⟨t', rfl⟩ := ry
 exact in_str (ZD I q rfl)
theorem ZaQ : OpR X (compareOp .NotIn) (fun x y H Q => ∃ i j, x = .str i /\ y = .str j /\ Q (.bl (!(!(Builtin.Str.occurrences j i 0 j.length 1).isEmpty))) H) := by
 intro pins s σ H x y v u Q I rx ry h
 obtain ⟨i, j, rfl, rfl, q⟩ := h
 obtain ⟨t, rfl⟩ := rx
 obtain ⟨t', rfl⟩ := ry
 exact notIn_str (ZD I q rfl)
theorem OpR.or {f : Value -> Value -> Sem Value} {r r' : R2} (h : OpR X f r) (h' : OpR X f r') : OpR X f (fun x y H Q => r x y H Q \/ r' x y H Q) := by
 intro pins s σ H x y v u Q I rx ry q
 rcases q with q | q
 · exact h pins s σ H x y v u Q I rx ry q
 · exact h' pins s σ H x y v u Q I rx ry q
theorem YS (b : Expr) {op : CmpOp} (h : op ≠ .In := by decide) (h2 : op ≠ .NotIn := by decide) : behindInMarks op b = false := by
 have e1 : (op == CmpOp.In) = false := by cases op <;> first | rfl | exact absurd rfl h
 have e2 : (op == CmpOp.NotIn) = false := by cases op <;> first | rfl | exact absurd rfl h2
 cases b <;> simp [behindInMarks, e1, e2]
theorem Uk {op : CmpOp} {r : R2} (ho : OpR X (compareOp op) r) (ha : PE X a ta) (hb : PE X b tb) (hm : behindInMarks op b = false) : PE X (.Compare a [op] [b] pos) (tOp r ta tb) := by
 intro pins s σ H Q I h
 exact wpAny_Compare1 (Qz ha hb I h fun v u s2 x y H2 I2 rx ry q => ho pins s2 σ H2 x y v u Q I2 rx ry q) hm
def ZeJ (t : TE) : TT := fun σ H Q => t σ H fun x H' => ∃ k, x = .bl k /\ Q k H'
theorem YT {op : CmpOp} {r : R2} (ho : OpR X (compareOp op) r) (ha : PE X a ta) (hb : PE X b tb) (hm : behindInMarks op b = false) : PT X (.Compare a [op] [b] pos) (ZeJ (tOp r ta tb)) := by
 intro pins s σ H Q I h
 refine wpAny_isTrue_Compare1 (thn (ha pins s σ H _ I h) fun v s1 ⟨x, H1, I1, r1, q1⟩ => thn (hb pins s1 σ H1 _ I1 q1) fun u s2 ⟨y, H2, I2, r2, q2⟩ =>
  thn (ho pins s2 σ H2 x y v u _ I2 r1 r2 q2) fun c s3 ⟨z, H3, I3, r3, k, e, q3⟩ => ?_) hm
 subst e
 cases r3
 exact wpAny_truthy_bool ⟨H3, I3, q3⟩
theorem X6 : (sizeLine : Nat) < 2 ^ 63 := by rw [sizeLine_eq]; decide
theorem Zbn : OpR X (binaryOp .Add) (fun x y H Q => ∃ i j, x = .str i /\ y = .str j /\ i.length + j.length <= sizeLine /\ Q (.str (i ++ j)) H) := by
 intro pins s σ H x y v u Q I rx ry h
 obtain ⟨i, j, rfl, rfl, hz, q⟩ := h
 obtain ⟨t, rfl⟩ := rx
 obtain ⟨t', rfl⟩ := ry
 exact add_str (fun t' tk => ⟨.str (i ++ j), H, I.tok _, ⟨_, rfl⟩, q⟩) hz
theorem Yu {x : V} {us : List Value} (r : Vals [x] us) : ∃ u, us = [u] /\ RelV x u := by
 cases r with
 | cons r1 r2 => cases r2; exact ⟨_, rfl, r1⟩
theorem QA {x y : V} {us : List Value} (r : Vals [x, y] us) : ∃ u w', us = [u, w'] /\ RelV x u /\ RelV y w' := by
 cases r with
 | cons r1 r2 =>
  cases r2 with
  | cons r3 r4 => cases r4; exact ⟨_, _, rfl, r1, r3⟩
theorem Zce (hc : X.calm = true) : ZW X (.builtin "min") (fun xs H Q => ∃ i j, xs = [.int i, .int j] /\ Q (.int (if j < i then j else i)) H) := by
 intro pins s σ H xs us Q I r h
 obtain ⟨i, j, rfl, q⟩ := h
 obtain ⟨u, w', rfl, ⟨t, rfl⟩, ⟨t', rfl⟩⟩ := QA r
 refine min_two_ints (I.ok.hd hc) fun h' tk k => ⟨_, H, I.kept k, ?_, q⟩
 by_cases hj : j < i
 · rw [if_pos hj, if_pos hj]; exact ⟨_, rfl⟩
 · rw [if_neg hj, if_neg hj]; exact ⟨_, rfl⟩
theorem Zcf : ZW X (.type "int") (fun xs H Q => (∃ i, xs = [.int i] /\ Q (.int i) H) \/ ∃ k, xs = [.bl k] /\ Q (.int (if k then 1 else 0)) H) := by
 intro pins s σ H xs us Q I r h
 rcases h with ⟨i, rfl, q⟩ | ⟨k, rfl, q⟩
 · obtain ⟨u, rfl, t, rfl⟩ := Yu r
   exact call_int_int ⟨.int i, H, I, ⟨_, rfl⟩, q⟩
 · obtain ⟨u, rfl, r1⟩ := Yu r
   cases r1
   exact call_int_bool ⟨.int (if k then 1 else 0), H, I.tok _, ⟨_, rfl⟩, q⟩
end
end L2
namespace L2
open PySem PySem.Spec PyProof.Rows
structure ObjM (h : Heap) (x dx C : Addr) (mA : Str -> Option Value) : Prop where
 obj : h.get? x = some (PySem.W.instObj C dx)
 ns : h.Ns1 dx mA
 ne : dx ≠ x
theorem Zcg {h : Heap} {dx : Addr} {mA : Str -> Option Value} (n : h.Ns1 dx mA) : ∃ od, h.get? dx = some od /\ ∀ name, PySem.W.lookIn name od = some (mA name) := by
 obtain ⟨o, es, ep, ho, hd, hk, _, hm⟩ := n
 refine ⟨o, ho, fun name => ?_⟩
 have e := hm name
 unfold nsFind findBy at e
 rw [<- Array.find?_toList] at e
 unfold PySem.W.lookIn
 rw [hd]
 dsimp only
 split
 · rename_i y q
   rw [q] at e
   exact congrArg some e
 · rename_i q
   rw [q] at e
   have a : es.toList.any (·.refKey) = false := by
    rw [List.any_eq_false]
    intro y hy
    obtain ⟨z, t, hkey⟩ := hk y (Array.mem_toList_iff.mp hy)
    simp [DictEntry.refKey, hkey]
   have a' : ¬ es.toList.any (·.refKey) = true := by rw [a]; exact Bool.false_ne_true
   rw [if_neg a']
   exact congrArg some e
theorem ObjM.look {h : Heap} {x dx C : Addr} {mA : Str -> Option Value} (I : ObjM h x dx C mA) : ∃ od, PySem.W.InstAt h x (PySem.W.instObj C dx) C (some od) /\ ∀ name, PySem.W.lookIn name od = some (mA name) :=
 let ⟨od, ho, hl⟩ := Zcg I.ns
 ⟨od, ⟨I.obj, rfl, rfl, ho⟩, hl⟩
section
variable {prog : Program} {w : World} {A : Around} {E : Value -> Shared -> Prop} {s : Shared} {K : PySem.W.Frag} {x dx C f : Addr} {mA : Str -> Option Value} {name : Str} {v : Value}
theorem ZdN {expr : Bool} {Q : Value -> Shared -> Prop} (X : K.In s.heap) (I : ObjM s.heap x dx C mA) (hg : PySem.W.plainGet K C name = true) (hh : PySem.W.hasDictIn K C = true)
 (ha : PySem.W.findIn K (.ref C) name = some none) (hv : mA name = some v) (hv' : PySem.W.handedIn v = true) (h : Q v { s with toks := s.toks + 1 }) :
 wpAny (model prog w) A (getAttr (.ref x) name expr) Q E s := by
 obtain ⟨od, J, hl⟩ := I.look
 exact PySem.W.get_value X J (PySem.W.plainGet_of hg).1 (PySem.W.findObj_own hh ha rfl (by rw [hl, hv])) hv' h
theorem ZcM {pl : Sem Bool} {Q : Value × List Value -> Shared -> Prop} (X : K.In s.heap) (I : ObjM s.heap x dx C mA) (hg : PySem.W.plainGet K C name = true)
 (hf : PySem.W.findIn K (.ref C) name = some (some (.ref f))) (ht : PySem.W.isFn K (.ref f) = true) (hv : mA name = none) (h : Q (.ref f, [.ref x]) s) :
 wpAny (model prog w) A (getMethod (.ref x) name pl) Q E s := by
 obtain ⟨od, J, hl⟩ := I.look
 exact PySem.W.method_fn X J (PySem.W.plainGet_of hg).1 (PySem.W.plainGet_of hg).2 hf (beq_iff_eq.mp ht) (by show (PySem.W.lookIn name od).map (·.isSome) = some false; rw [hl, hv]; rfl) h
theorem ZdO {ns : List Str} {Q : Unit -> Shared -> Prop} (X : K.In s.heap) (I : ObjM s.heap x dx C mA)
 (hs : PySem.W.findIn K (.ref C) "__setattr__" = some (some (.builtin "object.__setattr__"))) (hp : PySem.W.plainOver K C = true) (ht : PySem.W.takerIn K C name = some none) (hh : PySem.W.hasDictIn K C = true)
 (hw : PySem.Within mA ns) (hsz : ns.length <= sizeLine)
 (h : ∀ h', ObjM h' x dx C (fun y => if y = name then some v else mA y) -> Heap.SameBut dx s.heap h' -> Q () { s with heap := h', toks := s.toks + 2 }) :
 wpAny (model prog w) A (setAttr (.ref x) name v) Q E s := by
 obtain ⟨od, J, hl⟩ := I.look
 refine PySem.W.set_plain X J hs (PySem.W.osa_open (s := { s with toks := s.toks + 1 }) (r := none) X J hp ht fun b => ?_)
 obtain ⟨cd, hc, hd'⟩ := PySem.W.any_some hh
 have hx : s.heap.get? x = some ⟨.ref C, some dx, .plain, #[]⟩ := I.obj
 refine wpAny_bind (wpAny_pure (wpAny_bind (wpAny_bind (wpAny_loadPart hx (wpAny_bind (PySem.W.Looks.here (s := { s with toks := s.toks + 1 }) (PySem.W.looks_clsIn X hc) ?_))))))
 rw [hd']
 refine wpAny_pure (a := some dx) (wpAny_bind (wpAny_pure (wpAny_bind ?_)))
 refine wpAny_nsSet1 (s := { s with toks := s.toks + 1 }) I.ns fun h' hn2 hs2 => ?_
 obtain ⟨oD, esD, epD, hoD, hdD, hcD⟩ := hn2.count (PySem.Within.cons name v hw)
 refine wpAny_bind (wpAny_lookBehind hoD (by rw [hdD]; exact pastItsLine_dict (Nat.le_trans hcD (by rw [List.length_cons]; omega))) ?_)
 exact wpAny_pure (h _ ⟨(hs2.2 _ (Ne.symm I.ne)).trans I.obj, hn2, I.ne⟩ hs2)
theorem ZcN {R : Result -> Shared -> Prop} {vs : List Value} {kw : List (Str × Value)} (X : K.In s.heap) (hm : PySem.W.makesIn K C = true)
 (hi : PySem.W.findIn K (.ref C) "__init__" = some (some (.ref f))) (hf : PySem.W.typeIn K (.ref f) = some (.type "function"))
 (h : codeAny (model prog w) (A.under (.builtin "type.__call__" ⟨.ref C :: vs, kw⟩)) (.call (.ref f) ⟨.ref (s.heap.objs.size + 1) :: vs, kw⟩) (PySem.W.InitBack (s.heap.objs.size + 1) R)
   { s with heap := (s.heap.push PySem.W.emptyDict).push (PySem.W.instObj C s.heap.objs.size) }) :
 codeAny (model prog w) A (.call (.ref C) ⟨vs, kw⟩) R s := by
 obtain ⟨hh, g, d, t, os⟩ := s
 exact PySem.W.make_core (PySem.W.makes_of X hm) (PySem.W.looks_findIn X hi) (fun self => PySem.W.bind_fn X self hf) (.inl rfl) h
end
def ZS (f : Str) (v : V) : List (Str × V) -> List (Str × V)
 | [] => [(f, v)]
 | (g, x) :: r => if g = f then (g, v) :: r else (g, x) :: ZS f v r
theorem Zag (f g : Str) (v : V) : ∀ fs : List (Str × V), (ZS f v fs).lookup g = if g = f then some v else fs.lookup g
 | [] => by
  show List.lookup g [(f, v)] = _
  by_cases h : g = f
  · have hb : (g == f) = true := beq_iff_eq.mpr h
    simp only [List.lookup, hb, if_pos h]
  · have hb : (g == f) = false := beq_eq_false_iff_ne.mpr h
    simp only [List.lookup, hb, if_neg h]
 | (k, x) :: r => by
  have ih := Zag f g v r
  rw [show ZS f v ((k, x) :: r) = (if k = f then (k, v) :: r else (k, x) :: ZS f v r) from rfl]
  by_cases hk : k = f
  · rw [if_pos hk]
    by_cases h : g = k
    · have hb : (g == k) = true := beq_iff_eq.mpr h
      simp only [List.lookup, hb, if_pos (h.trans hk)]
    · have hb : (g == k) = false := beq_eq_false_iff_ne.mpr h
      simp only [List.lookup, hb, if_neg (fun e : g = f => h (e.trans hk.symm))]
  · rw [if_neg hk]
    by_cases h : g = k
    · have hb : (g == k) = true := beq_iff_eq.mpr h
      simp only [List.lookup, hb, if_neg (fun e : g = f => hk (h.symm.trans e))]
    · have hb : (g == k) = false := beq_eq_false_iff_ne.mpr h
      simp only [List.lookup, hb]
      exact ih
theorem QB (f : Str) (v : V) : ∀ fs : List (Str × V), f ∈ (ZS f v fs).map (·.1) /\ ∀ g, g ∈ fs.map (·.1) -> g ∈ (ZS f v fs).map (·.1)
 | [] => ⟨by simp [ZS], fun g h => by simp at h⟩
 | (k, x) :: r => by
  obtain ⟨i1, i2⟩ := QB f v r
  rw [show ZS f v ((k, x) :: r) = (if k = f then (k, v) :: r else (k, x) :: ZS f v r) from rfl]
  by_cases hk : k = f
  · rw [if_pos hk]
    subst hk
    exact ⟨by simp, fun g h => by simpa using h⟩
  · rw [if_neg hk]
    refine ⟨?_, fun g h => ?_⟩
    · rw [List.map_cons]
      exact List.mem_cons_of_mem _ i1
    · rw [List.map_cons] at h ⊢
      rcases List.mem_cons.mp h with e | e
      · exact List.mem_cons.mpr (.inl e)
      · exact List.mem_cons_of_mem _ (i2 g e)
theorem Zah (f : Str) (v : V) : ∀ fs : List (Str × V), (ZS f v fs).length <= fs.length + 1
 | [] => by simp [ZS]
 | (k, x) :: r => by
  have ih := Zah f v r
  rw [show ZS f v ((k, x) :: r) = (if k = f then (k, v) :: r else (k, x) :: ZS f v r) from rfl]
  by_cases hk : k = f
  · rw [if_pos hk, List.length_cons, List.length_cons]; omega
  · rw [if_neg hk, List.length_cons, List.length_cons]; omega
theorem RelO.some_of {v : V} {o : Option Value} (r : RelO (some v) o) : ∃ u, o = some u /\ RelV v u := by
 cases o with
 | none => exact (show False from r).elim
 | some u => exact ⟨u, rfl, r⟩
theorem RelO.none_of {o : Option Value} (r : RelO none o) : o = none := by
 cases o with
 | none => rfl
 | some u => exact (show False from r).elim
theorem Zch {v : V} {u : Value} (r : RelV v u) : PySem.W.handedIn u = true := by
 cases v with
 | non => cases (show u = Value.none from r); rfl
 | bl b => cases (show u = Value.bool b from r); rfl
 | int i => obtain ⟨t, e⟩ := (show ∃ t, u = Value.int i t from r); cases e; rfl
 | str x => obtain ⟨t, e⟩ := (show ∃ t, u = Value.str x t from r); cases e; rfl
 | byt b => obtain ⟨t, e⟩ := (show ∃ t, u = Value.bytes b t from r); cases e; rfl
 | flt b => obtain ⟨t, e⟩ := (show ∃ t, u = Value.float b t from r); cases e; rfl
 | ref a => cases (show u = Value.ref a from r); rfl
 | ty n => cases (show u = Value.type n from r); rfl
section
variable {P : Program} {w : World} {H H' : Hp} {h h' : Heap} {a C dx : Addr} {fs fs' : List (Str × V)}
theorem Ul (hok : HOk P w H h) (e : H a = some (.ins C dx fs)) : ∃ mA, ObjM h a dx C mA /\ (∀ f, RelO (fs.lookup f) (mA f)) /\ PySem.Within mA (fs.map (·.1)) /\ fs.length <= 1000 /\ H dx = some (.own a) := by
 obtain ⟨d, z, ne, ob, mA, n, r, q⟩ := (show ObjOk P w H h a (.ins C dx fs) from hok a _ e)
 exact ⟨mA, ⟨ob, n, ne⟩, r, q, z, d⟩
end
structure Cls (K : PySem.W.Frag) (C : Addr) : Prop where
 pg : PySem.W.plainGet K C Str.empty = true
 hd : PySem.W.hasDictIn K C = true
 po : PySem.W.plainOver K C = true
 sa : PySem.W.findIn K (.ref C) "__setattr__" = some (some (.builtin "object.__setattr__"))
theorem Cls.get {K : PySem.W.Frag} {C : Addr} (c : Cls K C) (f : Str) : PySem.W.plainGet K C f = true := c.pg
def NoAttr (K : PySem.W.Frag) (C : Addr) (f : Str) : Prop := PySem.W.findIn K (.ref C) f = some none
theorem NoAttr.taker {K : PySem.W.Frag} {C : Addr} {f : Str} (n : NoAttr K C f) : PySem.W.takerIn K C f = some none := by
 unfold PySem.W.takerIn
 rw [show PySem.W.findIn K (.ref C) f = some none from n]
 rfl
structure Con (K : PySem.W.Frag) (C : Addr) (f : Str) (v : V) (u : Value) : Prop where
 at_ : PySem.W.findIn K (.ref C) f = some (some u)
 rel : RelV v u
 get : PySem.W.specialIn K u "__get__" = some none
 cp : PySem.W.copiedNames.contains f = false
structure Meth (K : PySem.W.Frag) (C : Addr) (m : Str) (f : Addr) : Prop where
 at_ : PySem.W.findIn K (.ref C) m = some (some (.ref f))
 fn : PySem.W.isFn K (.ref f) = true
 kp : PySem.W.keepIn K (.ref f) = true
section
variable {X : Cx} {pins : List (Addr × Obj)} {σ : St} {H : Hp} {s : Shared} {a C dx : Addr} {fs : List (Str × V)} {f : Str} {v : V} {A : Around} {E : Value -> Shared -> Prop}
theorem Zbo {b : Bool} {Q : Value -> Shared -> Prop} (I : Inv X pins σ H s) (e : H a = some (.ins C dx fs)) (c : Cls X.K C) (n : NoAttr X.K C f) (l : fs.lookup f = some v)
 (h : ∀ u s', Inv X pins σ H s' -> RelV v u -> Q u s') : wpAny (model X.prog X.w) A (getAttr (.ref a) f b) Q E s := by
 obtain ⟨mA, O, r, _, _, _⟩ := Ul I.hok e
 obtain ⟨u, hu, ru⟩ := RelO.some_of (v := v) (o := mA f) (by rw [<- l]; exact r f)
 exact ZdN I.kIn O (c.get f) c.hd n hu (Zch ru) (h u _ (I.tok _) ru)
theorem Zbp {m : Str} {g : Addr} {pl : Sem Bool} {Q : Value × List Value -> Shared -> Prop} (I : Inv X pins σ H s) (e : H a = some (.ins C dx fs)) (c : Cls X.K C) (k : Meth X.K C m g) (l : fs.lookup m = none)
 (h : Q (.ref g, [.ref a]) s) : wpAny (model X.prog X.w) A (getMethod (.ref a) m pl) Q E s := by
 obtain ⟨mA, O, r, _, _, _⟩ := Ul I.hok e
 have hn : mA m = none := RelO.none_of (by rw [<- l]; exact r m)
 exact ZcM I.kIn O (c.get m) k.at_ k.fn hn h
theorem Zbq {y : V} {u : Value} {Q : Unit -> Shared -> Prop} (I : Inv X pins σ H s) (e : H a = some (.ins C dx fs)) (c : Cls X.K C) (n : NoAttr X.K C f) (hl : fs.length < 1000) (ry : RelV y u)
 (h : ∀ s', Inv X pins σ (upd H a (.ins C dx (ZS f y fs))) s' -> Q () s') : wpAny (model X.prog X.w) A (setAttr (.ref a) f u) Q E s := by
 obtain ⟨mA, O, r, wi, _, ho⟩ := Ul I.hok e
 have hz : (fs.map (·.1)).length <= sizeLine := by rw [List.length_map, sizeLine_eq]; omega
 refine ZdO I.kIn O c.sa c.po n.taker c.hd wi hz fun h' O' sb => h _ ?_
 have hd : ∃ o, h'.get? dx = some o := let ⟨o, _, _, e', _⟩ := O'.ns; ⟨o, e'⟩
 refine I.write (x := a) (e := dx) (by rw [e]; exact True.intro) (.inr ho) (fun b q hb z => (sb.2 b hb).trans z) hd ?_
 refine ⟨by rw [Zs O.ne]; exact ho, ?_, O.ne, O'.obj, _, O'.ns, fun g => ?_, fun g hg => ?_⟩
 · have := Zah f y fs; omega
 · show RelO ((ZS f y fs).lookup g) (if g = f then some u else mA g)
   rw [Zag]
   by_cases q : g = f
   · rw [if_pos q, if_pos q]; exact ry
   · rw [if_neg q, if_neg q]; exact r g
 · by_cases q : g = f
   · rw [q]; exact (QB f y fs).1
   · refine (QB f y fs).2 g (wi g fun z => hg ?_)
     show (if g = f then some u else mA g) = none
     rw [if_neg q]; exact z
theorem Inv.made (I : Inv X pins σ H s) : Inv X pins σ (upd (upd H s.heap.objs.size (.own (s.heap.objs.size + 1))) (s.heap.objs.size + 1) (.ins C s.heap.objs.size []))
 { s with heap := (s.heap.push PySem.W.emptyDict).push (PySem.W.instObj C s.heap.objs.size) } := by
 have e1 : (s.heap.push PySem.W.emptyDict).get? s.heap.objs.size = some PySem.W.emptyDict := Heap.get?_push_size s.heap rfl
 have e2 : ((s.heap.push PySem.W.emptyDict).push (PySem.W.instObj C s.heap.objs.size)).get? (s.heap.objs.size + 1) = some (PySem.W.instObj C s.heap.objs.size) := by
  have := Heap.get?_push_size (s.heap.push PySem.W.emptyDict) (o := PySem.W.instObj C s.heap.objs.size) rfl
  rwa [Heap.size_push] at this
 have e3 : (s.heap.push PySem.W.emptyDict).Ns s.heap.objs.size (fun _ => none) := ⟨PySem.W.emptyDict, #[], _, e1, rfl, (fun e he => absurd he (by simp)), fun _ => rfl⟩
 have I1 := I.laid (a := s.heap.objs.size) (o := .own (s.heap.objs.size + 1)) (h' := s.heap.push PySem.W.emptyDict) (t' := s.toks) (fun b u q => Heap.get?_push_of_some _ q) (Nat.le_refl _) ⟨_, e1⟩
 refine I1.laid (a := s.heap.objs.size + 1) (o := .ins C s.heap.objs.size []) (t' := s.toks) (fun b u q => Heap.get?_push_of_some _ q) (Nat.le_of_eq (Heap.size_push _ _)) ?_
 have ne : s.heap.objs.size ≠ s.heap.objs.size + 1 := Nat.ne_of_lt (Nat.lt_succ_self _)
 refine ⟨by rw [Zs ne, ZJ], Nat.zero_le _, ne, e2, fun _ => none, (Heap.Ns1.of_empty e3).at fun o q => Heap.get?_push_of_some _ q, fun _ => True.intro, fun y hy => absurd rfl hy⟩
theorem ZdP {prog : Program} {w : World} {env : Env} {e : Expr} {f : Str} {pos : Pos} {s : Shared} {Q : Value -> Shared -> Prop} (hb : attributeBase e f env (eval e env) = eval e env)
 (h : wpAny (model prog w) A (eval e env) (fun o s₁ => wpAny (model prog w) A (getAttr o f true) Q E s₁) E s) : wpAny (model prog w) A (eval (.Attribute e f pos) env) Q E s :=
 Attribute_any_ h (by rw [arm_eval_Attribute, hb])
end
def QC (K : PySem.W.Frag) (ta : TE) (f : Str) : TE := fun σ H Q => ta σ H fun x H1 => ∃ a C dx fs v, x = .ref a /\ H1 a = some (.ins C dx fs) /\ Cls K C /\ NoAttr K C f /\ fs.lookup f = some v /\ Q v H1
def ZgM (K : PySem.W.Frag) (ta tv : TE) (f : Str) : TS := fun D σ H => tv σ H fun y H1 => ta σ H1 fun x H2 => ∃ a C dx fs, x = .ref a /\ H2 a = some (.ins C dx fs) /\ Cls K C /\ NoAttr K C f /\ fs.length < 1000 /\
 D.nx σ (upd H2 a (.ins C dx (ZS f y fs)))
section
variable {X : Cx} {o e value : Expr} {f : Str} {pos pos' tpos : Pos} {ta tv : TE}
theorem Zfh (he : PE X e ta) (hb : attributeBase e f X.env (eval e X.env) = eval e X.env) : PE X (.Attribute e f pos) (QC X.K ta f) := by
 intro pins s σ H Q I h
 refine ZdP hb (thn (he pins s σ H _ I h) fun u s1 ⟨x, H1, I1, rx, a, C, dx, fs, v, ex, ea, c, n, l, q⟩ => ?_)
 subst ex
 obtain rfl : u = Value.ref a := rx
 exact Zbo I1 ea c n l fun u' s2 I2 ru => ⟨v, H1, I2, ru, q⟩
theorem Zdl (ha : PE X o ta) (hv : PE X value tv) (hs : swapsWith value (some (.Attribute o f pos')) pos.line X.env = pure false) : PS X (.Assign [.Attribute o f pos'] value pos) (ZgM X.K ta tv f) := by
 intro pins s σ H D I h
 refine plainObj_wpAny_Assign_Attribute (thn (hv pins s σ H _ I h) fun u s1 ⟨y, H1, I1, ry, q⟩ => thn (ha pins s1 σ H1 _ I1 q) fun ov s2 ⟨x, H2, I2, rx, a, C, dx, fs, ex, ea, c, n, l, q2⟩ => ?_) hs
 subst ex
 obtain rfl : ov = Value.ref a := rx
 exact Zbq I2 ea c n l ry fun s3 I3 => ⟨σ, _, I3, q2⟩
end
section
variable {X : Cx} {pins : List (Addr × Obj)} {σ : St} {H : Hp} {s : Shared} {A : Around} {E : Value -> Shared -> Prop} {Q : Value -> Shared -> Prop} {c : Value} {b : Bool}
inductive TyOf (K : PySem.W.Frag) (H : Hp) : V -> Value -> Prop where
 | non : TyOf K H .non (.type "NoneType")
 | bl (x : Bool) : TyOf K H (.bl x) (.type "bool")
 | int (i : Int) : TyOf K H (.int i) (.type "int")
 | str (x : Str) : TyOf K H (.str x) (.type "str")
 | flt (x : UInt64) : TyOf K H (.flt x) (.type "float")
 | lst {a : Addr} {xs : List V} (e : H a = some (.lst xs)) : TyOf K H (.ref a) (.type "list")
 | frz {a : Addr} {o : Obj} {xs : List V} (e : H a = some (.frz o (.lst xs))) : TyOf K H (.ref a) (.type "list")
 | tup {a : Addr} {xs : List V} (e : H a = some (.tup xs)) : TyOf K H (.ref a) (.type "tuple")
 | dK {a : Addr} {kvs : List (Key × V)} (e : H a = some (.dK kvs)) : TyOf K H (.ref a) (.type "dict")
 | dT {a : Addr} {kvs : List (List Key × V)} (e : H a = some (.dT kvs)) : TyOf K H (.ref a) (.type "dict")
 | ins {a C dx : Addr} {fs : List (Str × V)} (e : H a = some (.ins C dx fs)) (cl : Cls K C) (ha : PySem.W.findIn K (.ref C) "__class__" = some (some (.builtin "object.__class__")))
  (hn : PySem.W.specialIn K (.builtin "object.__class__") "__get__" = some (some (.builtin "getset_descriptor.__get__"))) (htk : PySem.W.takesIn K (.builtin "object.__class__") = some true)
  (hm : PySem.W.mroIn K C (.type "object") = some true) : TyOf K H (.ref a) (.ref C)
theorem Zci {x : V} {u t : Value} (I : Inv X pins σ H s) (rx : RelV x u) (ty : TyOf X.K H x t) (e : PySem.W.kitOne X.K t c = some b) (h : ∀ tk, Q (.bool b) { s with toks := tk }) :
 wpAny (model X.prog X.w) A (call (.builtin "isinstance") [u, c]) Q E s := by
 cases ty with
 | non => cases (show u = Value.none from rx); exact PySem.W.kia_one PySem.W.kitx_none I.kIn True.intro e (fun z => nomatch z) h
 | bl y => cases (show u = Value.bool y from rx); exact PySem.W.kia_one PySem.W.kitx_bool I.kIn True.intro e (fun z => nomatch z) h
 | int i => obtain ⟨t, q⟩ := (show ∃ t, u = Value.int i t from rx); cases q; exact PySem.W.kia_one PySem.W.kitx_int I.kIn True.intro e (fun z => nomatch z) h
 | str y => obtain ⟨t, q⟩ := (show ∃ t, u = Value.str y t from rx); cases q; exact PySem.W.kia_one PySem.W.kitx_str I.kIn True.intro e (fun z => nomatch z) h
 | flt y => obtain ⟨t, q⟩ := (show ∃ t, u = Value.float y t from rx); cases q; exact PySem.W.kia_one PySem.W.kitx_float I.kIn True.intro e (fun z => nomatch z) h
 | @lst a xs ea =>
  cases (show u = Value.ref a from rx)
  obtain ⟨_, _, n, _, h1⟩ := (show ObjOk X.prog X.w H s.heap a (.lst xs) from I.hok a _ ea)
  exact PySem.W.kia_one PySem.W.kitx_list I.kIn ⟨_, h1, rfl⟩ e (fun z => nomatch z) h
 | @frz a ob xs ea =>
  cases (show u = Value.ref a from rx)
  obtain ⟨_, _, _, n, _, h1⟩ := (show ObjOk X.prog X.w H s.heap a (.frz ob (.lst xs)) from I.hok a _ ea)
  exact PySem.W.kia_one PySem.W.kitx_list I.kIn ⟨_, h1, rfl⟩ e (fun z => nomatch z) h
 | @tup a xs ea =>
  cases (show u = Value.ref a from rx)
  obtain ⟨_, _, _, p⟩ := (show ObjOk X.prog X.w H s.heap a (.tup xs) from I.hok a _ ea)
  obtain ⟨o, h1, h2, _⟩ := p
  exact PySem.W.kia_one PySem.W.kitx_tuple I.kIn ⟨o, h1, h2⟩ e (fun z => nomatch z) h
 | @dK a kvs ea =>
  cases (show u = Value.ref a from rx)
  obtain ⟨_, _, vs, _, p⟩ := (show ObjOk X.prog X.w H s.heap a (.dK kvs) from I.hok a _ ea)
  obtain ⟨o, es, ep, h1, h2, _⟩ := p
  exact PySem.W.kia_one PySem.W.kitx_dict I.kIn ⟨o, h1, h2.1⟩ e (fun z => nomatch z) h
 | @dT a kvs ea =>
  cases (show u = Value.ref a from rx)
  obtain ⟨_, _, xs, _, o, es, ep, h1, h2, _⟩ := (show ObjOk X.prog X.w H s.heap a (.dT kvs) from I.hok a _ ea)
  exact PySem.W.kia_one PySem.W.kitx_dict I.kIn ⟨o, h1, h2.1⟩ e (fun z => nomatch z) h
 | @ins a C dx fs ea cl ha hn htk hm =>
  cases (show u = Value.ref a from rx)
  obtain ⟨mA, O, _⟩ := Ul I.hok ea
  obtain ⟨od, J, _⟩ := O.look
  exact PySem.W.kia_one (PySem.W.kitx_own (cl.get _) cl.hd ha hn htk hm) I.kIn J e (fun z => nomatch z) h
end
end L2
namespace L2
open PySem PySem.Spec PyProof.Rows
structure Room (k : Nat) (A : Around) : Prop where
 hd : A.handled = none
 dp : A.depth + 3 * k + 5 < recursionLimit
 un : A.units + 16 * k + 200 < cLine
theorem Room.mono {j k : Nat} {A : Around} (r : Room k A) (h : j <= k) : Room j A := ⟨r.hd, by have := r.dp; omega, by have := r.un; omega⟩
theorem Room.deeper {k : Nat} {A : Around} (r : Room (k + 1) A) (env : Env) : Room k (A.deeper env) :=
 ⟨r.hd, by have := r.dp; show A.depth + 1 + 3 * k + 5 < _; omega, by have := r.un; show A.units + 3 + 16 * k + 200 < _; omega⟩
theorem Zbr {A : Around} {C : Addr} {us : List Value} {kw : List (Str × Value)} : (A.under (.builtin "type.__call__" ⟨.ref C :: us, kw⟩)).depth = A.depth + 1 := by
 first | rfl | simp [Around.under, Code.weight, Code.isCreation, Code.isGuard, Code.isCaller, Code.frames, Code.isFrame, guardIds]
theorem Zbs {A : Around} {C : Addr} {us : List Value} {kw : List (Str × Value)} : (A.under (.builtin "type.__call__" ⟨.ref C :: us, kw⟩)).units = A.units + 1 := by
 first | rfl | simp [Around.under, Code.cUnits, Code.frames, Code.isFrame]
theorem Room.make {k : Nat} {A : Around} (r : Room (k + 1) A) (C : Addr) (us : List Value) (kw : List (Str × Value)) : Room k (A.under (.builtin "type.__call__" ⟨.ref C :: us, kw⟩)) :=
 ⟨r.hd, by have := r.dp; rw [Zbr]; omega, by have := r.un; rw [Zbs]; omega⟩
theorem Room.depth {k : Nat} {A : Around} (r : Room k A) : A.depth < recursionLimit := by have := r.dp; omega
theorem Room.units {k : Nat} {A : Around} (r : Room k A) : A.units + 64 < cLine := by have := r.un; omega
def tNil : TA := fun _ H Q => Q [] H
def Vw (ta : TE) (tr : TA) : TA := fun σ H Q => ta σ H fun x H1 => tr σ H1 fun xs H2 => Q (x :: xs) H2
section
variable {X : Cx} {e : Expr} {es : List Expr} {te : TE} {t : TA} {pos : Pos}
theorem Zk : PA X [] tNil := fun _ _ _ _ H Q I h => Calls.spliced_nil ⟨[], H, I, .nil, h⟩
theorem Zf (ha : PE X e te) (hr : PA X es t) (hs : starEach (e :: es) X.env = (false, eval e X.env) :: starEach es X.env := by rfl) : PA X (e :: es) (Vw te t) := by
 intro pos pins s σ H Q I h
 rw [hs]
 show wpAny _ _ (spliced ((false, eval e X.env) :: backTo pos (starEach es X.env))) _ _ s
 refine Calls.spliced_cons (thn (ha pins s σ H _ I h) fun u s1 ⟨x, H1, I1, r1, q1⟩ => ?_)
 exact thn (hr pos pins s1 σ H1 _ I1 q1) fun us s2 ⟨xs, H2, I2, r2, q2⟩ => ⟨x :: xs, H2, I2, .cons r1 r2, q2⟩
def ZgN (t : TA) : TE := fun σ H Q => t σ H fun xs H1 => xs.length <= sizeLine /\ ∀ p, H1 p = none -> Q (.ref p) (upd H1 p (.tup xs))
def ZgO (t : TA) : TE := fun σ H Q => t σ H fun xs H1 => xs.length <= sizeLine /\ ∀ p, H1 p = none -> Q (.ref p) (upd H1 p (.lst xs))
theorem Zdm {x1} (h : PA X es t) : PE X (.Tuple es x1 pos) (ZgN t) := by
 intro pins s σ H Q I hq
 refine wpAny_Tuple_spliced (thn (h pos pins s σ H _ I hq) fun us s1 ⟨xs, H1, I1, r, z, q⟩ => ⟨by rw [<- r.length]; exact z, ?_⟩)
 have hf : H1 s1.heap.objs.size = none := I1.hok.fresh (Nat.le_refl _)
 refine ⟨.ref s1.heap.objs.size, upd H1 s1.heap.objs.size (.tup xs), I1.laid (t' := s1.toks) (fun b u e => Heap.get?_push_of_some _ e) (Nat.le_refl _) ?_, rfl, q _ hf⟩
 exact ⟨z, us, r, ⟨_, Heap.get?_push_size _ rfl, rfl, _, rfl⟩⟩
theorem Vx (h : PA X es t) : PE X (.List es pos) (ZgO t) := by
 intro pins s σ H Q I hq
 refine wpAny_List_spliced (thn (h pos pins s σ H _ I hq) fun us s1 ⟨xs, H1, I1, r, z, q⟩ => ⟨by rw [<- r.length]; exact z, ?_⟩)
 have hf : H1 s1.heap.objs.size = none := I1.hok.fresh (Nat.le_refl _)
 refine ⟨.ref s1.heap.objs.size, upd H1 s1.heap.objs.size (.lst xs), I1.laid (t' := s1.toks) (fun b u e => Heap.get?_push_of_some _ e) (Nat.le_refl _) ?_, rfl, q _ hf⟩
 exact ⟨z, us, 0, r, Heap.get?_push_size _ rfl⟩
end
abbrev Sp := List V -> Hp -> VK -> XK -> Prop
abbrev CXT := List Env -> Hp -> Shared -> XK -> Value -> Shared -> Prop
structure Env0 (P : Program) (w : World) (K : PySem.W.Frag) (mg : Str -> Option Value) (base : Heap) (A : Around) (outer : List Env) (s : Shared) (H : Hp) : Prop where
 frames : A.frames = some outer
 mod : Mod K mg base
 bs : ∀ b o, base.get? b = some o -> s.heap.get? b = some o /\ H b = none
 bsz : base.objs.size <= s.heap.objs.size
 funs : s.heap.FunFrames base outer
 frf : ∀ b ∈ frs outer, H b = none
 hok : HOk P w H s.heap
 bare : AllBare s.gens
def CE (outer : List Env) (P : Program) (w : World) (H : Hp) (s : Shared) (Q : VK) (u : Value) (s' : Shared) : Prop :=
 ∃ v H', s'.os = s.os /\ AllBare s'.gens /\ Un (frs outer) [] H H' s.heap s'.heap /\ HOk P w H' s'.heap /\ RelV v u /\ Q v H'
def CR (CX : CXT) (outer : List Env) (P : Program) (w : World) (H : Hp) (s : Shared) (Q : VK) (E : XK) (r : Result) (s' : Shared) : Prop :=
 match r with
 | .ok (.ret u) => CE outer P w H s Q u s'
 | .ok _ => False
 | .error e => CX outer H s E e s'
structure FnOk (P : Program) (w : World) (K : PySem.W.Frag) (mg : Str -> Option Value) (base : Heap) (CX : CXT) (k : Nat) (f : Addr) (fd : FuncData) (ps : List Str) (sp : Sp) : Prop where
 len : ∀ vs H Q E, sp vs H Q E -> vs.length = ps.length
 run : ∀ (A : Around) (outer : List Env) (s : Shared) (H : Hp) (args : Args) (us : List Value) (vs : List V) (Q : VK) (E : XK), Room k A -> Env0 P w K mg base A outer s H -> BindsTo s fd args (ps.zip us) -> Vals vs us -> sp vs H Q E ->
  codeAny (model P w) A (.call (.ref f) args) (CR CX outer P w H s Q E) s
theorem FnOk.mono {P : Program} {w : World} {K : PySem.W.Frag} {mg : Str -> Option Value} {base : Heap} {CX : CXT} {j k : Nat} {f : Addr} {fd : FuncData} {ps : List Str} {sp : Sp} (F : FnOk P w K mg base CX j f fd ps sp) (h : j <= k) :
 FnOk P w K mg base CX k f fd ps sp := ⟨F.len, fun A outer s H args us vs Q E hr => F.run A outer s H args us vs Q E (hr.mono h)⟩
theorem FnOk.imp {P : Program} {w : World} {K : PySem.W.Frag} {mg : Str -> Option Value} {base : Heap} {CX : CXT} {k : Nat} {f : Addr} {fd : FuncData} {ps : List Str} {sp sp' : Sp} (F : FnOk P w K mg base CX k f fd ps sp)
 (h : ∀ vs H Q E, sp' vs H Q E -> sp vs H Q E) : FnOk P w K mg base CX k f fd ps sp' :=
 ⟨fun vs H Q E q => F.len vs H Q E (h _ _ _ _ q), fun A outer s H args us vs Q E hr he hb hv hs => F.run A outer s H args us vs Q E hr he hb hv (h _ _ _ _ hs)⟩
theorem Env0.make {P : Program} {w : World} {K : PySem.W.Frag} {mg : Str -> Option Value} {base : Heap} {A : Around} {outer : List Env} {s : Shared} {H : Hp} (e : Env0 P w K mg base A outer s H) (C : Addr) (us : List Value) (kw : List (Str × Value)) :
 Env0 P w K mg base (A.under (.builtin "type.__call__" ⟨.ref C :: us, kw⟩)) outer s H := ⟨by first | exact e.frames | (simpa [Around.under, Code.envs, Code.isFrame, pushEnvs] using e.frames), e.mod, e.bs, e.bsz, e.funs, e.frf, e.hok, e.bare⟩
section
variable {X : Cx} {pins : List (Addr × Obj)} {σ : St} {H : Hp} {s s' : Shared}
theorem Inv.env0 (I : Inv X pins σ H s) : Env0 X.prog X.w X.K X.mg X.base X.A X.stack s H :=
 ⟨I.ok.frames, I.ok.mod, I.bs, Nat.le_trans I.ok.bsz I.sz, I.stack, I.stkFree, I.hok, I.bare⟩
theorem Inv.after {Q : VK} {u : Value} (I : Inv X pins σ H s) (h : CE X.stack X.prog X.w H s Q u s') : EP X pins σ Q u s' := by
 obtain ⟨v, H', os, bare, un, hok, r, q⟩ := h
 obtain ⟨hh, g, d, t, os'⟩ := s'
 obtain rfl : os' = s.os := os
 exact ⟨v, H', I.call (h' := hh) (g' := g) (d' := d) (t' := t) (ch := []) un hok bare (fun b z => absurd z (by simp)), r, q⟩
end
def ZeK (sp : Sp) (dvs : List V) (E : XK) (t : TA) : TE := fun σ H Q => t σ H fun vs H1 => sp (vs ++ dvs) H1 Q E
def ZeL (C : Addr) (sp : Sp) (dvs : List V) (E : XK) (t : TA) : TE := fun σ H Q => t σ H fun vs H1 => ∀ x dx, H1 x = none -> H1 dx = none -> dx ≠ x ->
 sp (.ref x :: (vs ++ dvs)) (upd (upd H1 dx (.own x)) x (.ins C dx [])) (fun v H2 => v = .non /\ Q (.ref x) H2) E
def Binds (K : PySem.W.Frag) (fd : FuncData) (ps : List Str) (ds : List Value) : Prop :=
 ∀ (s : Shared) (us : List Value), K.In s.heap -> (us ++ ds).length = ps.length -> BindsTo s fd ⟨us, []⟩ (ps.zip (us ++ ds))
theorem Binds.all {K : PySem.W.Frag} {fd : FuncData} {ps : List Str} (h : ∀ us : List Value, us.length = ps.length -> bindArgs fd ⟨us, []⟩ = pure (ps.zip us)) : Binds K fd ps [] := fun s us _ hl => by
 rw [List.append_nil] at hl ⊢
 exact .of_eq (h us hl)
def Vy (CX : CXT) (X : Cx) (E : XK) : Prop := ∀ (pins : List (Addr × Obj)) (σ : St) (H : Hp) (s : Shared) (e : Value) (s' : Shared), Inv X pins σ H s -> CX X.stack H s E e s' -> X.xe e s'
section
variable {X : Cx} {CX : CXT} {k : Nat} {f C : Addr} {fd : FuncData} {ps : List Str} {sp : Sp} {dvs : List V} {ds : List Value} {E : XK} {x m : Str} {p pos apos : Pos} {e o : Expr} {es : List Expr} {ta : TE} {t : TA}
theorem Zdn {pins : List (Addr × Obj)} {σ : St} {H : Hp} {s : Shared} {Q : VK} {us : List Value} {vs : List V} (F : FnOk X.prog X.w X.K X.mg X.base CX k f fd ps sp) (hr : Room k X.A) (hb : Binds X.K fd ps ds) (hd : Vals dvs ds) (hx : Vy CX X E)
 (I : Inv X pins σ H s) (r : Vals vs us) (h : sp (vs ++ dvs) H Q E) : wpAny (model X.prog X.w) X.A (call (.ref f) us) (EP X pins σ Q) X.xe s := by
 have r2 : Vals (vs ++ dvs) (us ++ ds) := r.append hd
 have hl : (us ++ ds).length = ps.length := by rw [<- r2.length]; exact F.len _ _ _ _ h
 refine wpAny_call (codeAny_mono (F.run X.A X.stack s H ⟨us, []⟩ (us ++ ds) (vs ++ dvs) Q E hr I.env0 (hb s us I.kIn hl) r2 h) fun r s' hq => ?_)
 cases r with
 | error e => exact hx pins σ H s e s' I hq
 | ok fl =>
  cases fl with
  | ret u => exact I.after hq
  | next => exact False.elim hq
  | brk => exact False.elim hq
  | cont => exact False.elim hq
theorem Yc (F : FnOk X.prog X.w X.K X.mg X.base CX k f fd ps sp) (hr : Room k X.A) (hg : Gl X x) (hm : X.mg x = some (.ref f)) (hk : PySem.W.keepIn X.K (.ref f) = true) (hb : Binds X.K fd ps ds) (hd : Vals dvs ds) (hx : Vy CX X E)
 (ha : PA X (e :: es) t) (hdb : (x == ("__debug__" : Str)) = false := by decide) (he : starEach (e :: es) X.env = (false, eval e X.env) :: starEach es X.env := by rfl) (hpl : (backTo pos (starEach es X.env)).any (·.1) = false := by rfl) :
 PE X (.Call (.Name x p) (e :: es) [] pos) (ZeK sp dvs E t) := by
 intro pins s σ H Q I h
 refine wpAny_Call_Name_kw (JW I hg hm ?_ hdb)
 refine PySem.W.callWith_K (h₀ := X.base) I.ok.mod.kin hk (thn (ha pos pins s σ H _ I h) fun us s1 ⟨vs, H1, I1, r, q⟩ => ⟨I1.kIn, ?_⟩) he hpl
 exact Zdn F hr hb hd hx I1 r q
structure Mk (K : PySem.W.Frag) (C f : Addr) : Prop where
 makes : PySem.W.makesIn K C = true
 init : PySem.W.findIn K (.ref C) "__init__" = some (some (.ref f))
 fn : PySem.W.isFn K (.ref f) = true
 kp : PySem.W.keepIn K (.ref C) = true
theorem ZcO {pins : List (Addr × Obj)} {σ : St} {H : Hp} {s : Shared} {Q : VK} {us : List Value} {vs : List V} (M : Mk X.K C f) (F : FnOk X.prog X.w X.K X.mg X.base CX k f fd ps sp) (hr : Room (k + 1) X.A) (hb : Binds X.K fd ps ds) (hd : Vals dvs ds)
 (hx : Vy CX X E) (I : Inv X pins σ H s) (r : Vals vs us)
 (h : ∀ x dx, H x = none -> H dx = none -> dx ≠ x -> sp (.ref x :: (vs ++ dvs)) (upd (upd H dx (.own x)) x (.ins C dx [])) (fun v H2 => v = .non /\ Q (.ref x) H2) E) :
 wpAny (model X.prog X.w) X.A (call (.ref C) us) (EP X pins σ Q) X.xe s := by
 have hq := h (s.heap.objs.size + 1) s.heap.objs.size (I.hok.fresh (Nat.le_succ _)) (I.hok.fresh (Nat.le_refl _)) (Nat.ne_of_lt (Nat.lt_succ_self _))
 have I2 := Inv.made (C := C) I
 have r2 : Vals (V.ref (s.heap.objs.size + 1) :: (vs ++ dvs)) (Value.ref (s.heap.objs.size + 1) :: (us ++ ds)) := .cons rfl (r.append hd)
 have hl : (Value.ref (s.heap.objs.size + 1) :: us ++ ds).length = ps.length := by
  have e := r2.length
  rw [F.len _ _ _ _ hq] at e
  exact e.symm
 refine wpAny_call (ZcN (f := f) I.kIn M.makes M.init (beq_iff_eq.mp M.fn) (codeAny_mono (F.run _ X.stack _ _ ⟨Value.ref (s.heap.objs.size + 1) :: us, []⟩ (Value.ref (s.heap.objs.size + 1) :: (us ++ ds)) _ _ E (hr.make C us [])
  (I2.env0.make C us []) (hb _ (Value.ref (s.heap.objs.size + 1) :: us) I2.kIn hl) r2 hq) fun r s' hq' => ?_))
 cases r with
 | error e => exact hx pins σ _ _ e s' I2 hq'
 | ok fl =>
  cases fl with
  | ret u =>
   obtain ⟨v, H', I3, rv, ev, q3⟩ := I2.after hq'
   subst ev
   exact ⟨rv, ⟨V.ref (s.heap.objs.size + 1), H', I3, rfl, q3⟩⟩
  | next => exact False.elim hq'
  | brk => exact False.elim hq'
  | cont => exact False.elim hq'
theorem ZdQ (M : Mk X.K C f) (F : FnOk X.prog X.w X.K X.mg X.base CX k f fd ps sp) (hr : Room (k + 1) X.A) (hg : Gl X x) (hm : X.mg x = some (.ref C)) (hb : Binds X.K fd ps ds) (hd : Vals dvs ds) (hx : Vy CX X E)
 (ha : PA X (e :: es) t) (hdb : (x == ("__debug__" : Str)) = false := by decide) (he : starEach (e :: es) X.env = (false, eval e X.env) :: starEach es X.env := by rfl) (hpl : (backTo pos (starEach es X.env)).any (·.1) = false := by rfl) :
 PE X (.Call (.Name x p) (e :: es) [] pos) (ZeL C sp dvs E t) := by
 intro pins s σ H Q I h
 refine wpAny_Call_Name_kw (JW I hg hm ?_ hdb)
 refine PySem.W.callWith_K (h₀ := X.base) I.ok.mod.kin M.kp (thn (ha pos pins s σ H _ I h) fun us s1 ⟨vs, H1, I1, r, q⟩ => ⟨I1.kIn, ?_⟩) he hpl
 exact ZcO M F hr hb hd hx I1 r q
end
section
variable {X : Cx} {CX : CXT} {k : Nat} {f C : Addr} {fd : FuncData} {ps ks : List Str} {sp : Sp} {E : XK} {x m : Str} {p pos apos kpos : Pos} {e o : Expr} {es : List Expr} {kws : List Keyword} {te ta : TE} {t tk : TA} {nm : Option Str}
structure KBinds (K : PySem.W.Frag) (fd : FuncData) (ps ks : List Str) (g : List Value -> List Value -> List Value) (gV : List V -> List V -> List V) : Prop where
 to : ∀ (s : Shared) (us ws : List Value), K.In s.heap -> (g us ws).length = ps.length -> BindsTo s fd ⟨us, ks.zip ws⟩ (ps.zip (g us ws))
 rel : ∀ {vs : List V} {us : List Value} {zs : List V} {ws : List Value}, Vals vs us -> Vals zs ws -> Vals (gV vs zs) (g us ws)
variable {g : List Value -> List Value -> List Value} {gV : List V -> List V -> List V}
end
structure FnScope (N P : List Str) (sc : Scope) : Prop where
 kind : sc.kind = .function
 co : sc.isCoroutine = false
 gen : sc.isGenerator = false
 nd : N.Nodup
 pre : N.take P.length = P
 par : ∀ x ∈ P, sc.names.lookup x = some .local \/ sc.names.lookup x = some .cell
 nofree : ∀ y ∈ sc.names, y.2 ≠ .free
theorem Zaz {kindOf : Str -> Option NameKind} {x : Str} : ∀ {binds : List (Str × Value)} {m : Str -> Option Value}, (∀ v, (x, v) ∉ binds) -> bindL kindOf binds m x = m x
 | [], _, _ => rfl
 | (n, v) :: r, m, h => by
  unfold bindL
  rw [Zaz fun w hw => h w (List.mem_cons_of_mem _ hw)]
  split
  · have : x ≠ n := by rintro rfl; exact h v List.mem_cons_self
    simp [this]
  · rfl
theorem ZaA {kindOf : Str -> Option NameKind} {x : Str} : ∀ {binds : List (Str × Value)} {m : Str -> Option Value}, (∀ v, (x, v) ∉ binds) -> bindC kindOf binds m x = m x
 | [], _, _ => rfl
 | (n, v) :: r, m, h => by
  unfold bindC
  rw [ZaA fun w hw => h w (List.mem_cons_of_mem _ hw)]
  split
  · rfl
  · have : x ≠ n := by rintro rfl; exact h v List.mem_cons_self
    simp [this]
theorem ZaB {kindOf : Str -> Option NameKind} {x : Str} {v : Value} : ∀ {P : List Str} {vs : List Value} {i : Nat} {m : Str -> Option Value}, P.Nodup -> P[i]? = some x -> vs[i]? = some v -> kindOf x = some .local ->
 bindL kindOf (P.zip vs) m x = some v
 | [], _, _, _, _, h, _, _ => by simp at h
 | _ :: _, [], _, _, _, _, h, _ => by simp at h
 | p :: P, w :: vs, 0, m, nd, h1, h2, hk => by
  simp at h1 h2; subst h1; subst h2
  show bindL kindOf ((p, w) :: P.zip vs) m p = _
  unfold bindL
  rw [Zaz fun v hv => (List.nodup_cons.mp nd).1 (List.of_mem_zip hv).1, if_pos hk]
  simp
 | p :: P, w :: vs, i + 1, m, nd, h1, h2, hk => by
  show bindL kindOf ((p, w) :: P.zip vs) m x = _
  unfold bindL
  exact ZaB (i := i) (List.nodup_cons.mp nd).2 (by simpa using h1) (by simpa using h2) hk
theorem ZaC {kindOf : Str -> Option NameKind} {x : Str} {v : Value} : ∀ {P : List Str} {vs : List Value} {i : Nat} {m : Str -> Option Value}, P.Nodup -> P[i]? = some x -> vs[i]? = some v -> kindOf x ≠ some .local ->
 bindC kindOf (P.zip vs) m x = some v
 | [], _, _, _, _, h, _, _ => by simp at h
 | _ :: _, [], _, _, _, _, h, _ => by simp at h
 | p :: P, w :: vs, 0, m, nd, h1, h2, hk => by
  simp at h1 h2; subst h1; subst h2
  show bindC kindOf ((p, w) :: P.zip vs) m p = _
  unfold bindC
  rw [ZaA fun v hv => (List.nodup_cons.mp nd).1 (List.of_mem_zip hv).1, if_neg hk]
  simp
 | p :: P, w :: vs, i + 1, m, nd, h1, h2, hk => by
  show bindC kindOf ((p, w) :: P.zip vs) m x = _
  unfold bindC
  exact ZaC (i := i) (List.nodup_cons.mp nd).2 (by simpa using h1) (by simpa using h2) hk
def start (N : List Str) (vs : List V) : St := vs.map some ++ List.replicate (N.length - vs.length) none
def YD (CX : CXT) (P : Program) (w : World) (K : PySem.W.Frag) (mg : Str -> Option Value) (base : Heap) (N : List Str) (qual : Str) (scope : Scope) (f : Addr) (cd : Value) (A : Around) (outer : List Env) (s : Shared) (H : Hp) (E : XK) : Cx where
 prog := P
 w := w
 K := K
 mg := mg
 base := base
 A := A.deeper (envOfC qual scope s.heap.objs.size f cd)
 N := N
 s₀ := s
 H₀ := H
 env := envOfC qual scope s.heap.objs.size f cd
 outer := outer
 stack := envOfC qual scope s.heap.objs.size f cd :: outer
 ex := []
 calm := true
 fn := fun _ => true
 pn := []
 xe := fun e s' => wpAny (model P w) (A.deeper (envOfC qual scope s.heap.objs.size f cd)) (leaving (envOfC qual scope s.heap.objs.size f cd) e) (fun _ s'' => CX outer H s E e s'') (fun e' s'' => CX outer H s E e' s'') s'
theorem Za5 {sc : Scope} {n : Nat} {x : Str} (h : sc.names.lookup x = some .cell) : ∃ c, (cellsFrom n sc.names []).lookup x = some c := by
 have q := PySem.W.cellsFrom_some sc.names n [] (.inl h)
 exact Option.isSome_iff_exists.mp q
theorem Zcj {CX : CXT} {P : Program} {w : World} {K : PySem.W.Frag} {mg : Str -> Option Value} {base : Heap} {N ps : List Str} {qual : Str} {scope : Scope} {f : Addr} {cd : Value} {A : Around} {outer : List Env} {s s1 : Shared} {H : Hp} {E : XK} {us : List Value} {vs : List V}
 (S : FnScope N ps scope) (hd : A.handled = none) (e0 : Env0 P w K mg base A outer s H) (hl : vs.length = ps.length) (r : Vals vs us)
 (x : InCallC s s.heap.objs.size (bindL (envOfC qual scope s.heap.objs.size f cd).kindOf (ps.zip us) fun _ => none) (cellsFrom (s.heap.objs.size + 1) scope.names []) (bindC (envOfC qual scope s.heap.objs.size f cd).kindOf (ps.zip us) fun _ => none) s1) :
 Inv (YD CX P w K mg base N qual scope f cd A outer s H E) [] (start N vs) H s1 := by
 have hpl : ps.length <= N.length := by have := congrArg List.length S.pre; rw [List.length_take] at this; omega
 obtain ⟨h1, tk, rfl, hk⟩ := x.done
 have noA : ∀ b : Addr, b ∉ (YD CX P w K mg base N qual scope f cd A outer s H E).ex := fun b z => absurd (show b ∈ ([] : List Addr) from z) (by simp)
 refine ⟨⟨e0.mod, S.kind, rfl, rfl, Nat.le_refl _, fun y z c h1 h2 => ?_, fun y hy => ?_, fun y c _ h => ?_, fun _ => hd, Around.frames_deeper e0.frames, .inr ⟨rfl, rfl⟩, fun b z => absurd z (noA b), e0.bs, e0.bsz, fun b _ _ => noA b, fun b z => absurd z (noA b), e0.funs, e0.frf⟩,
  rfl, e0.bare, Un.kept hk, ⟨_, x.toInCall.ns, fun i y v h1 h2 h3 => ?_⟩, fun y c h => ⟨_, x.cell y c h⟩, e0.hok.fresh (Nat.le_refl _), fun y c h => ?_, fun p hp => absurd (show p ∈ ([] : List (Addr × Obj)) from hp) (by simp), e0.hok.kept hk, ?_⟩
 · exact name_of_addr x.apart (PySem.mem_of_lookup h1) (PySem.mem_of_lookup h2)
 · have hy : scope.names.lookup y = some .cell \/ scope.names.lookup y = some .free := hy
   rcases hy with hy | hy
   · exact Za5 hy
   · exact absurd rfl (S.nofree _ (PySem.mem_of_lookup hy))
 · exact Nat.le_of_lt (x.above y c (PySem.mem_of_lookup h))
 · have hi : i < vs.length := by
    unfold start at h2
    by_cases hi : i < vs.length
    · exact hi
    · rw [List.getElem?_append_right (by simpa using hi)] at h2
      rw [List.getElem?_replicate] at h2
      split at h2 <;> cases h2
   have ha : vs[i]? = some v := by
    unfold start at h2
    rw [List.getElem?_append_left (by simpa using hi), List.getElem?_map] at h2
    cases e : vs[i]? with
    | none => rw [e] at h2; cases h2
    | some a => rw [e] at h2; cases h2; rfl
   obtain ⟨u, hu, rv⟩ := r.get ha
   have hp : ps[i]? = some y := by
    rw [<- S.pre, List.getElem?_take_of_lt (by omega)]; exact h1
   have ndP : ps.Nodup := by rw [<- S.pre]; exact S.nd.sublist (List.take_sublist _ _)
   refine ⟨u, rv, ?_⟩
   rcases S.par y (List.mem_of_getElem? hp) with k | k
   · exact .inl ⟨k, ZaB ndP hp hu k⟩
   · obtain ⟨c, e⟩ := Za5 (n := s.heap.objs.size + 1) k
     refine .inr ⟨.inl k, c, e, ?_⟩
     have q := x.cell y c e
     rw [ZaC ndP hp hu (by show scope.names.lookup y ≠ _; rw [k]; decide)] at q
     exact q
 · exact e0.hok.fresh (Nat.le_of_lt (x.above y c (PySem.mem_of_lookup h)))
 · unfold start
   show _ = N.length
   rw [List.length_append, List.length_map, List.length_replicate]
   omega
theorem ZeM {CX : CXT} {P : Program} {w : World} {K : PySem.W.Frag} {mg : Str -> Option Value} {base : Heap} {k : Nat} {f : Addr} {name qual : Str} {params : Arguments} {body : List Stmt} {scope : Scope} {dV kV doc pm cdv ct oc : Value} {an od : Option Addr}
 {osl : Array (Option Value)} {N ps : List Str} {sp : Sp} (lk : K.lookup f = some ⟨oc, od, .func (PySem.W.fnOf name qual params body scope dV kV doc pm an cdv ct), osl⟩) (hcd : PySem.W.codeIn K cdv qual = true) (S : FnScope N ps scope)
 (len : ∀ vs H Q E, sp vs H Q E -> vs.length = ps.length)
 (hbody : ∀ (A : Around) (outer : List Env) (s : Shared) (H : Hp) (vs : List V) (Q : VK) (E : XK), Room k (A.deeper (envOfC qual scope s.heap.objs.size f cdv)) -> sp vs H Q E ->
   ∃ t, PSs (YD CX P w K mg base N qual scope f cdv A outer s H E) body t /\ t { nx := fun _ H' => Q .non H', rt := Q } (start N vs) H) :
 FnOk P w K mg base CX (k + 1) f (PySem.W.fnOf name qual params body scope dV kV doc pm an cdv ct) ps sp := by
 refine ⟨len, fun A outer s H args us vs Q E hr e0 hb r hsp => ?_⟩
 have hl := len _ _ _ _ hsp
 have KX : K.In s.heap := e0.mod.kin.keeps fun b o e => (e0.bs b o e).1
 have lim : s.heap.NoLimit := e0.mod.nolimit.keeps fun b o e => (e0.bs b o e).1
 have hkind : ∀ y ∈ ps.zip us, scope.names.lookup y.1 = some .local \/ (scope.names.lookup y.1 = some .cell /\ ((cellsFrom (s.heap.objs.size + 1) scope.names []).lookup y.1).isSome = true) := fun ⟨n, v⟩ hy => by
  rcases S.par n (List.of_mem_zip hy).1 with q | q
  · exact .inl q
  · exact .inr ⟨q, PySem.W.cellsFrom_some _ _ _ (.inl q)⟩
 refine codeAny_call_function hr.depth (KX _ _ lk) rfl S.co S.gen rfl (PySem.W.codeRec_of KX hcd) (hb _ _ _ _ ?_)
 refine wpAny_newFunctionEnv_cells S.kind hkind fun env he s1 x => ?_
 subst he
 refine ⟨lim.keeps x.toInCall.keep, codeAny_func ?_⟩
 obtain ⟨t, ht, hq⟩ := hbody A outer s H vs Q E (hr.deeper _) hsp
 have I : Inv (YD CX P w K mg base N qual scope f cdv A outer s H E) [] (start N vs) H s1 := Zcj S hr.hd e0 hl r x
 refine wpAny_mono (ht [] s1 (start N vs) H _ I hq) (fun fl s' hs => ?_) fun e s' hs => hs
 have fin : ∀ {σ' : St} {H' : Hp} {v : V} {u : Value}, Inv (YD CX P w K mg base N qual scope f cdv A outer s H E) [] σ' H' s' -> RelV v u -> Q v H' -> CE outer P w H s Q u s' :=
  fun {σ' H' v u} J rv q => ⟨v, H', J.os, J.bare, J.base, J.hok, rv, q⟩
 cases fl with
 | ret u =>
  obtain ⟨v, σ', H', J, rv, q⟩ := hs
  exact fin J rv q
 | next =>
  obtain ⟨σ', H', J, q⟩ := hs
  exact fin (v := V.non) (u := Value.none) J rfl q
 | brk =>
  obtain ⟨_, _, _, q⟩ := hs
  exact False.elim q
 | cont =>
  obtain ⟨_, _, _, q⟩ := hs
  exact False.elim q
end L2
namespace L2
open PySem PySem.Spec PyProof.Rows
section
variable {X : Cx} {x : Str} {p pos : Pos} {e : Expr} {es : List Expr} {t : TA} {id T : String} {r : List V -> Hp -> VK -> Prop}
def tCB (r : List V -> Hp -> VK -> Prop) (t : TA) : TE := fun σ H Q => t σ H fun vs H1 => r vs H1 Q
theorem Z0 (hc : ZW X (.builtin id) r) (hg : Gl X x) (hm : X.mg x = none) (hv : bootBuiltins x = some (.builtin id)) (ha : PA X (e :: es) t) (hn : x ≠ "__name__" := by decide) (hdb : (x == ("__debug__" : Str)) = false := by decide)
 (he : starEach (e :: es) X.env = (false, eval e X.env) :: starEach es X.env := by rfl) (hpl : (backTo pos (starEach es X.env)).any (·.1) = false := by rfl) : PE X (.Call (.Name x p) (e :: es) [] pos) (tCB r t) := by
 intro pins s σ H Q I h
 refine wpAny_Call_Name_kw (Vv I hg hm hv ?_ hn hdb)
 exact PyProof.Rows.callWith_builtin1 (thn (ha pos pins s σ H _ I h) fun us s1 ⟨vs, H1, I1, r1, q1⟩ => hc pins s1 σ H1 vs us Q I1 r1 q1) he hpl
theorem X7 (hc : ZW X (.type T) r) (hg : Gl X x) (hm : X.mg x = none) (hv : bootBuiltins x = some (.type T)) (ha : PA X (e :: es) t) (hn : x ≠ "__name__" := by decide) (hdb : (x == ("__debug__" : Str)) = false := by decide)
 (he : starEach (e :: es) X.env = (false, eval e X.env) :: starEach es X.env := by rfl) (hpl : (backTo pos (starEach es X.env)).any (·.1) = false := by rfl) : PE X (.Call (.Name x p) (e :: es) [] pos) (tCB r t) := by
 intro pins s σ H Q I h
 refine wpAny_Call_Name_kw (Vv I hg hm hv ?_ hn hdb)
 exact PyProof.Rows.callWith_type1 (thn (ha pos pins s σ H _ I h) fun us s1 ⟨vs, H1, I1, r1, q1⟩ => hc pins s1 σ H1 vs us Q I1 r1 q1) he hpl
end
end L2
namespace HT
open PySem PyProof.Rows
section
open PySem.SeqAt
open PySem.AutoSeq1 (wpAny_loadPart')
open PySem.MeetsSeq PySem.MeetsSeq2 PySem.MeetsSeq3
end
section
variable {prog : Program} {w : World} {A : Around} {E : Value -> Shared -> Prop} {s : Shared}
end
end HT
namespace L2
open PySem PySem.Spec PyProof.Rows
section
variable {X : Cx} {e : Expr} {te : TE} {lo hi : Option Expr} {tl th : TO} {pos p2 : Pos}
end
end L2
namespace L2
open PySem PySem.Spec PyProof.Rows
def ixN (n : Nat) (i : Int) : Option Nat := if 0 <= i then (if i < n then some i.toNat else none) else if -(n : Int) <= i then some (i + n).toNat else none
def atI {α : Type} (xs : List α) (i : Int) : Option α := (ixN xs.length i).bind fun j => xs[j]?
theorem ZbI {n : Nat} {i : Int} {j : Nat} (h : ixN n i = some j) : seqIndex? i n = some j /\ j < n /\ -(n : Int) <= i /\ i < n := by
 unfold ixN at h
 by_cases h0 : 0 <= i
 · rw [if_pos h0] at h
   by_cases h1 : i < n
   · rw [if_pos h1] at h
     have e : i.toNat = j := Option.some.inj h
     exact ⟨by rw [seqIndex_of h0 h1, e], by omega, by omega, h1⟩
   · rw [if_neg h1] at h; cases h
 · rw [if_neg h0] at h
   by_cases h1 : -(n : Int) <= i
   · rw [if_pos h1] at h
     have e : (i + n).toNat = j := Option.some.inj h
     exact ⟨by rw [seqIndex_neg (by omega) h1, e], by omega, h1, by omega⟩
   · rw [if_neg h1] at h; cases h
theorem QD {α : Type} {xs : List α} {i : Int} {v : α} (h : atI xs i = some v) : ∃ j, seqIndex? i xs.length = some j /\ xs[j]? = some v /\ j < xs.length /\ -(xs.length : Int) <= i /\ i < xs.length := by
 unfold atI at h
 cases e : ixN xs.length i with
 | none => rw [e] at h; cases h
 | some j =>
  rw [e] at h
  obtain ⟨h1, h2, h3, h4⟩ := ZbI e
  exact ⟨j, h1, h, h2, h3, h4⟩
theorem Vz {α : Type} {xs : List α} {j : Nat} {v : α} (h : xs[j]? = some v) : atI xs (j : Int) = some v := by
 have hj : j < xs.length := (List.getElem?_eq_some_iff.mp h).1
 have e : ixN xs.length (j : Int) = some j := by
  unfold ixN
  rw [if_pos (by omega), if_pos (by omega)]; simp
 unfold atI; rw [e]; exact h
def ZdR (b : Expr) : Prop := ∀ o i, subscripted b false o i = operate [o, i] (getItem o i)
def IxR (X : Cx) (r : R2) : Prop :=
 ∀ (value slice : Expr) (pins : List (Addr × Obj)) (s : Shared) (σ : St) (H : Hp) (x y : V) (v u : Value) (Q : VK), Inv X pins σ H s -> RelV x v -> RelV y u -> r x y H Q ->
  subscripted slice false v u = operate [v, u] (getItem v u) -> wpAny (model X.prog X.w) X.A (subscriptTail value slice v u) (EP X pins σ Q) X.xe s
def MtR (X : Cx) (id : String) (r : V -> List V -> Hp -> VK -> Prop) : Prop :=
 ∀ (pins : List (Addr × Obj)) (s : Shared) (σ : St) (H : Hp) (x : V) (xs : List V) (v : Value) (us : List Value) (Q : VK), Inv X pins σ H s -> RelV x v -> Vals xs us -> r x xs H Q ->
  wpAny (model X.prog X.w) X.A (call (.builtin id) (v :: us)) (EP X pins σ Q) X.xe s
section
variable {X : Cx} {a b : Expr} {ta tb : TE} {pos : Pos}
theorem IxR.or {r r' : R2} (h : IxR X r) (h' : IxR X r') : IxR X (fun x y H Q => r x y H Q \/ r' x y H Q) := by
 intro value slice pins s σ H x y v u Q I rx ry q hs
 rcases q with q | q
 · exact h value slice pins s σ H x y v u Q I rx ry q hs
 · exact h' value slice pins s σ H x y v u Q I rx ry q hs
theorem Zz {r : R2} (hr : IxR X r) (ha : PE X a ta) (hb : PE X b tb) (hs : ZdR b) : PE X (.Subscript a b pos) (tOp r ta tb) := by
 intro pins s σ H Q I h
 exact Subscript_ (Qz ha hb I h fun v u s2 x y H2 I2 rx ry q => hr a b pins s2 σ H2 x y v u Q I2 rx ry q (hs _ _))
def ZgP (K : PySem.W.Frag) : R2 := fun x y H Q => ∃ p xs i v, x = .ref p /\ y = .int i /\ SqL K H p xs /\ atI xs i = some v /\ Q v H
def ZgQ (K : PySem.W.Frag) : R2 := fun x y H Q => ∃ p xs i v, x = .ref p /\ y = .int i /\ SqT K H p xs /\ atI xs i = some v /\ Q v H
def rIxS : R2 := fun x y H Q => ∃ z i c, x = .str z /\ y = .int i /\ z.length <= sizeLine /\ atI z.cps.toList i = some c /\ Q (.str ⟨#[c]⟩) H
theorem ix_list : IxR X (ZgP X.K) := by
 intro value slice pins s σ H x y v u Q I rx ry h hs
 obtain ⟨p, xs, i, z, rfl, rfl, hq, he, q⟩ := h
 cases rx
 obtain ⟨t, rfl⟩ := ry
 obtain ⟨its, r, pl, hz⟩ := I.list hq
 obtain ⟨j, h1, h2, h3, h4, h5⟩ := QD he
 obtain ⟨w, ew, rw'⟩ := r.get h2
 have hl := r.length
 have hn := X6
 have fin : EP X pins σ Q w s := ⟨z, H, I, rw', q⟩
 by_cases h0 : 0 <= i
 · have hj : i.toNat = j := by
    rw [seqIndex_of h0 h5] at h1
    exact Option.some.inj h1
   exact item_listR pl.isList h0 (by omega) (by rw [hj]; simpa using ew) fin hs
 · have hj : (i + (its.toArray.size : Int)).toNat = j := by
    rw [seqIndex_neg (by omega) h4] at h1
    rw [List.size_toArray, <- hl]
    exact Option.some.inj h1
   exact subscriptTail_builtinR (x := w) pl.isList.typeIs slot_list_getitem.lookup
    (wpAny_getItem_list_neg (Q := fun r s' => r = w /\ EP X pins σ Q r s') pl.isList (by omega) (by rw [List.size_toArray] <;> omega) (by omega) (by rw [hj]; simpa using ew) ⟨rfl, fin⟩) hs
theorem ix_tup : IxR X (ZgQ X.K) := by
 intro value slice pins s σ H x y v u Q I rx ry h hs
 obtain ⟨p, xs, i, z, rfl, rfl, hq, he, q⟩ := h
 cases rx
 obtain ⟨t, rfl⟩ := ry
 obtain ⟨its, r, pl, hz⟩ := I.tuple hq
 obtain ⟨j, h1, h2, h3, h4, h5⟩ := QD he
 obtain ⟨w, ew, rw'⟩ := r.get h2
 have hl := r.length
 have hn := X6
 have fin : EP X pins σ Q w s := ⟨z, H, I, rw', q⟩
 exact subscriptTail_builtinR (x := w) pl.typeIs slot_tuple_getitem.lookup
  (getItem_tuple (j := j) (Q := fun r s' => r = w /\ EP X pins σ Q r s') pl (by omega) (by omega) (by rw [List.size_toArray, <- hl]; exact h1) (by simpa using ew) ⟨rfl, fin⟩) hs
theorem ix_str : IxR X rIxS := by
 intro value slice pins s σ H x y v u Q I rx ry h hs
 obtain ⟨z, i, c, rfl, rfl, hz, he, q⟩ := h
 obtain ⟨t, rfl⟩ := rx
 obtain ⟨t', rfl⟩ := ry
 obtain ⟨j, h1, h2, h3, h4, h5⟩ := QD he
 have hl : z.cps.toList.length = z.length := by simp [Str.length]
 rw [hl] at h1 h4 h5
 have hn := X6
 exact tail_any (typeIs_str s z t) slot_str_getitem.lookup (getItem_str (c := c) (by
  have e1 : decide (i < -(2 ^ 63 : Int)) = false := decide_eq_false (by omega)
  have e2 : decide (i ≥ 2 ^ 63) = false := decide_eq_false (by omega)
  rw [e1, e2, Bool.or_false]) (by rw [h1]; simpa using h2) ⟨.str ⟨#[c]⟩, H, I.tok _, ⟨_, rfl⟩, q⟩) hs
theorem Zbt (its : List Value) (n j : Nat) (u : Value) : Obj.mapSeq (·.setIfInBounds j u) { cls := .type "list", data := .seq its.toArray n } = { cls := .type "list", data := .seq (its.set j u).toArray n } := by
 simp [Obj.mapSeq]
theorem Inv.lst {pins : List (Addr × Obj)} {σ : St} {H : Hp} {s : Shared} {p : Addr} {xs : List V} (I : Inv X pins σ H s) (h : H p = some (.lst xs)) :
 ∃ (its : List Value) (n : Nat), Vals xs its /\ s.heap.get? p = some { cls := .type "list", data := .seq its.toArray n } /\ xs.length <= sizeLine := by
 obtain ⟨z, its, n, r, e⟩ := I.hok p _ h
 exact ⟨its, n, r, e, z⟩
theorem Inv.lstUpd {pins : List (Addr × Obj)} {σ : St} {H : Hp} {s : Shared} {p : Addr} {xs ys : List V} {its its' : List Value} {n n' : Nat} {f : Obj -> Obj} (I : Inv X pins σ H s) (h : H p = some (.lst xs))
 (ho : s.heap.get? p = some { cls := .type "list", data := .seq its.toArray n }) (hf : f { cls := .type "list", data := .seq its.toArray n } = { cls := .type "list", data := .seq its'.toArray n' }) (r : Vals ys its') (hz : ys.length <= sizeLine) (t : Nat) :
 Inv X pins σ (upd H p (.lst ys)) { s with heap := s.heap.update p f, toks := t } := by
 have e : (s.heap.update p f).get? p = some { cls := .type "list", data := .seq its'.toArray n' } := by
  rw [Heap.get?_update_self f ho (by rw [hf] <;> rfl), hf]
 refine I.write (x := p) (e := p) (by rw [h]; trivial) (.inl rfl) (fun b u hb q => (Heap.get?_update_other _ _ (Ne.symm hb)).trans q) ⟨_, e⟩ ?_
 exact ⟨hz, its', n', r, e⟩
def rSetL : V -> V -> V -> Hp -> (Hp -> Prop) -> Prop := fun o i v H Q => ∃ p xs k j, o = .ref p /\ i = .int k /\ H p = some (.lst xs) /\ ixN xs.length k = some j /\ Q (upd H p (.lst (xs.set j v)))
theorem Um : ZgI X rSetL := by
 intro pins s σ H o i v ov iv u Q I ro ri rv h
 obtain ⟨p, xs, k, j, rfl, rfl, hp, hj, q⟩ := h
 cases ro
 obtain ⟨t, rfl⟩ := ri
 obtain ⟨its, n, r, ho, hz⟩ := I.lst hp
 obtain ⟨h1, h2, h3, h4⟩ := ZbI hj
 have hl := r.length
 have hn := X6
 have I' : Inv X pins σ (upd H p (.lst (xs.set j v))) { s with heap := s.heap.update p (Obj.mapSeq (·.setIfInBounds j u)) } :=
  I.lstUpd hp ho (Zbt its n j u) (r.set rv j) (by rw [List.length_set]; exact hz) s.toks
 by_cases h0 : 0 <= k
 · have hk : k.toNat = j := by
    rw [seqIndex_of h0 h4] at h1
    exact Option.some.inj h1
   exact PySem.W.ki_setAt ho h0 (by omega) (by rw [List.size_toArray, <- hl]; exact h4) (by rw [hk]; exact ⟨_, I', q⟩)
 · have hk : (k + (its.toArray.size : Int)).toNat = j := by
    rw [seqIndex_neg (by omega) h3] at h1
    rw [List.size_toArray, <- hl]
    exact Option.some.inj h1
   exact PySem.W.ki_setBack ho (by omega) (by rw [List.size_toArray, <- hl]; exact h3) (by omega) (by rw [hk]; exact ⟨_, I', q⟩)
def YU : V -> Bool
 | .non => true
 | .bl _ => true
 | .int _ => true
 | .str _ => true
 | _ => false
def eqV : V -> V -> Bool
 | .non, .non => true
 | .bl a, .bl b => a == b
 | .bl a, .int b => (if a then 1 else 0) == b
 | .int a, .bl b => a == (if b then 1 else 0)
 | .int a, .int b => a == b
 | .str a, .str b => a == b
 | _, _ => false
theorem Zfi {A : Around} {s : Shared} {y x : V} {u v : Value} (ry : RelV y u) (rx : RelV x v) (fy : YU y = true) (fx : YU x = true) : SeqAt.EqAt A s u v (eqV y x) := by
 cases y with
 | non =>
  cases ry
  cases x with
  | non => cases rx; exact SeqAt.EqAt.same _
  | bl b => cases rx; exact SeqAt.EqAt.none_bool b
  | int b => obtain ⟨t, rfl⟩ := rx; exact SeqAt.EqAt.none_int b t
  | str b => obtain ⟨t, rfl⟩ := rx; exact SeqAt.EqAt.none_str b t
  | _ => exact absurd (show false = true from fx) Bool.false_ne_true
 | bl a =>
  cases ry
  cases x with
  | non => cases rx; exact SeqAt.EqAt.bool_none a
  | bl b => cases rx; exact SeqAt.EqAt.bool_bool a b
  | int b => obtain ⟨t, rfl⟩ := rx; exact SeqAt.EqAt.bool_int a b t
  | str b => obtain ⟨t, rfl⟩ := rx; exact SeqAt.EqAt.bool_str a b t
  | _ => exact absurd (show false = true from fx) Bool.false_ne_true
 | int a =>
  obtain ⟨t', rfl⟩ := ry
  cases x with
  | non => cases rx; exact SeqAt.EqAt.int_none a t'
  | bl b => cases rx; exact SeqAt.EqAt.int_bool a t' b
  | int b => obtain ⟨t, rfl⟩ := rx; exact SeqAt.EqAt.int_int a t' b t
  | str b => obtain ⟨t, rfl⟩ := rx; exact SeqAt.EqAt.int_str a t' b t
  | _ => exact absurd (show false = true from fx) Bool.false_ne_true
 | str a =>
  obtain ⟨t', rfl⟩ := ry
  cases x with
  | non => cases rx; exact SeqAt.EqAt.str_none a t'
  | bl b => cases rx; exact SeqAt.EqAt.str_bool a t' b
  | int b => obtain ⟨t, rfl⟩ := rx; exact SeqAt.EqAt.str_int a t' b t
  | str b => obtain ⟨t, rfl⟩ := rx; exact SeqAt.EqAt.str_str a t' b t
  | _ => exact absurd (show false = true from fx) Bool.false_ne_true
 | _ => exact absurd (show false = true from fy) Bool.false_ne_true
def eqU (x : V) (u : Value) : Bool := match u with
 | .none => eqV .non x
 | .bool b => eqV (.bl b) x
 | .int i _ => eqV (.int i) x
 | .str z _ => eqV (.str z) x
 | _ => false
theorem Zdo {x y : V} {u : Value} (r : RelV y u) (f : YU y = true) : eqU x u = eqV y x := by
 cases y with
 | non => cases r; rfl
 | bl b => cases r; rfl
 | int i => obtain ⟨t, rfl⟩ := r; rfl
 | str z => obtain ⟨t, rfl⟩ := r; rfl
 | _ => exact absurd (show false = true from f) Bool.false_ne_true
theorem VB {x : V} : ∀ {xs : List V} {us : List Value}, Vals xs us -> xs.all YU = true -> us.any (eqU x) = xs.any fun y => eqV y x
 | _, _, .nil, _ => rfl
 | y :: xs, u :: us, .cons r t, f => by
  rw [List.all_cons, Bool.and_eq_true] at f
  rw [List.any_cons, List.any_cons, Zdo r f.1, VB t f.2]
theorem VC {A : Around} {s : Shared} {x : V} {v : Value} (rx : RelV x v) (fx : YU x = true) : ∀ {xs : List V} {us : List Value}, Vals xs us -> xs.all YU = true -> ∀ u ∈ us, SeqAt.EqAt A s u v (eqU x u)
 | _, _, .nil, _ => fun u hu => by cases hu
 | y :: xs, u :: us, .cons r t, f => fun u' hu => by
  rw [List.all_cons, Bool.and_eq_true] at f
  rcases List.mem_cons.mp hu with rfl | hu
  · rw [Zdo r f.1]; exact Zfi r rx f.1 fx
  · exact VC rx fx t f.2 u' hu
def inV (x : V) (xs : List V) : Bool := xs.any fun y => eqV y x
def rIn (K : PySem.W.Frag) (neg : Bool) : R2 := fun x y H Q => ∃ p xs, y = .ref p /\ (SqL K H p xs \/ SqT K H p xs) /\ YU x = true /\ xs.all YU = true /\ Q (.bl (if neg then !inV x xs else inV x xs)) H
theorem Zck : OpR X (compareOp .In) (rIn X.K false) := by
 intro pins s σ H x y v u Q I rx ry h
 obtain ⟨p, xs, rfl, hq, fx, fs, q⟩ := h
 cases ry
 rcases hq with hq | hq
 · obtain ⟨its, r, pl, hz⟩ := I.list hq
   refine SeqAt.in_listAt (eqU x) pl.isList (fun w hw => VC rx fx r fs w (by simpa using hw)) ⟨.bl _, H, I, rfl, ?_⟩
   rw [show its.toArray.any (eqU x) = its.any (eqU x) by simp, VB r fs]
   exact q
 · obtain ⟨its, r, pl, hz⟩ := I.tuple hq
   refine SeqAt.in_tupleAt (eqU x) pl (fun w hw => VC rx fx r fs w (by simpa using hw)) ⟨.bl _, H, I, rfl, ?_⟩
   rw [show its.toArray.any (eqU x) = its.any (eqU x) by simp, VB r fs]
   exact q
theorem ZaR : OpR X (compareOp .NotIn) (rIn X.K true) := by
 intro pins s σ H x y v u Q I rx ry h
 obtain ⟨p, xs, rfl, hq, fx, fs, q⟩ := h
 cases ry
 rcases hq with hq | hq
 · obtain ⟨its, r, pl, hz⟩ := I.list hq
   refine SeqAt.notIn_listAt (eqU x) pl.isList (fun w hw => VC rx fx r fs w (by simpa using hw)) ⟨.bl _, H, I, rfl, ?_⟩
   rw [show its.toArray.any (eqU x) = its.any (eqU x) by simp, VB r fs]
   exact q
 · obtain ⟨its, r, pl, hz⟩ := I.tuple hq
   refine SeqAt.notIn_tupleAt (eqU x) pl (fun w hw => VC rx fx r fs w (by simpa using hw)) ⟨.bl _, H, I, rfl, ?_⟩
   rw [show its.toArray.any (eqU x) = its.any (eqU x) by simp, VB r fs]
   exact q
theorem ZaS : ZW X (.builtin "len") (fun xs H Q => ∃ p ys, xs = [.ref p] /\ (SqL X.K H p ys \/ SqT X.K H p ys) /\ Q (.int ys.length) H) := by
 intro pins s σ H xs us Q I r h
 obtain ⟨p, ys, rfl, hq, q⟩ := h
 obtain ⟨u, rfl, rx⟩ := Yu r
 cases rx
 have hn := X6
 rcases hq with hq | hq
 · obtain ⟨its, r', pl, hz⟩ := I.list hq
   have hlen := r'.length
   exact Calls.call_len_list pl.isList (by simp only [List.size_toArray] <;> omega) ⟨.int ys.length, H, I.tok _, ⟨s.toks + 1, by rw [List.size_toArray, hlen]⟩, q⟩
 · obtain ⟨its, r', pl, hz⟩ := I.tuple hq
   have hlen := r'.length
   exact len_tuple pl (by simp only [List.size_toArray] <;> omega) ⟨.int ys.length, H, I.tok _, ⟨s.toks + 1, by rw [List.size_toArray, hlen]⟩, q⟩
theorem ZaT : ZW X (.builtin "len") (fun xs H Q => ∃ z, xs = [.str z] /\ z.length <= sizeLine /\ Q (.int z.length) H) := by
 intro pins s σ H xs us Q I r h
 obtain ⟨z, rfl, hz, q⟩ := h
 obtain ⟨u, rfl, t, rfl⟩ := Yu r
 have hn := X6
 exact len_str (by omega) ⟨.int z.length, H, I.tok _, ⟨_, rfl⟩, q⟩
theorem ZaU : ZW X (.type "list") (fun xs H Q => ∃ p ys, xs = [.ref p] /\ (SqL X.K H p ys \/ SqT X.K H p ys) /\ ∀ l, H l = none -> Q (.ref l) (upd H l (.lst ys))) := by
 intro pins s σ H xs us Q I r h
 obtain ⟨p, ys, rfl, hq, q⟩ := h
 obtain ⟨u, rfl, rx⟩ := Yu r
 cases rx
 have fin : ∀ (its : List Value), Vals ys its -> ys.length <= sizeLine -> ∀ (h' : Heap) (c' : Nat), (∀ b o', s.heap.get? b = some o' -> h'.get? b = some o') ->
  h'.get? s.heap.objs.size = some { cls := .type "list", dict := none, data := .seq its.toArray c', slots := #[] } -> EP X pins σ Q (.ref s.heap.objs.size) { s with heap := h' } := fun its r' hz h' c' kp e =>
  ⟨.ref s.heap.objs.size, _, I.laid (t' := s.toks) kp (Nat.le_refl _) (show ObjOk X.prog X.w _ h' _ (.lst ys) from ⟨hz, its, c', r', e⟩), rfl, q _ (I.hok.fresh (Nat.le_refl _))⟩
 rcases hq with hq | hq
 · obtain ⟨its, r', pl, hz⟩ := I.list hq
   have hlen := r'.length
   obtain ⟨o, ho, hc, n, hd⟩ := pl.isList
   exact call_list_seq p (.inl rfl) ho hc hd (fun h' c' kp e => fin its r' hz h' c' kp e) (by simp only [List.size_toArray] <;> omega)
 · obtain ⟨its, r', pl, hz⟩ := I.tuple hq
   have hlen := r'.length
   obtain ⟨o, ho, hc, n, hd⟩ := pl
   exact call_list_seq p (.inr rfl) ho hc hd (fun h' c' kp e => fin its r' hz h' c' kp e) (by simp only [List.size_toArray] <;> omega)
theorem Zaw : ZW X (.type "tuple") (fun xs H Q => ∃ p ys, xs = [.ref p] /\ ((SqL X.K H p ys /\ ∀ l, H l = none -> Q (.ref l) (upd H l (.tup ys))) \/ (SqT X.K H p ys /\ Q (.ref p) H))) := by
 intro pins s σ H xs us Q I r h
 obtain ⟨p, ys, rfl, h⟩ := h
 obtain ⟨u, rfl, rx⟩ := Yu r
 cases rx
 rcases h with ⟨hq, q⟩ | ⟨hq, q⟩
 · obtain ⟨its, r', pl, hz⟩ := I.list hq
   have hlen := r'.length
   refine call_tuple_list pl.isList (fun h' kp => ?_) (by simp only [List.size_toArray] <;> omega)
   have I1 : Inv X pins σ H { s with heap := h' } := I.kept (t' := s.toks) kp
   have I2 : Inv X pins σ (upd H h'.objs.size (.tup ys)) { s with heap := h'.push { cls := .type "tuple", data := .seq its.toArray } } :=
    I1.laid (t' := s.toks) (fun b o e => Heap.get?_push_of_some _ e) (Nat.le_refl _) (show ObjOk X.prog X.w _ _ _ (.tup ys) from ⟨hz, its, r', IsTup.new _ _⟩)
   exact ⟨.ref h'.objs.size, _, I2, rfl, q _ (I1.hok.fresh (Nat.le_refl _))⟩
 · obtain ⟨its, r', pl, hz⟩ := I.tuple hq
   exact call_tuple_same pl ⟨.ref p, H, I, rfl, q⟩
def tyV (K : PySem.W.Frag) (T : String) (x : V) (H : Hp) : Prop := match x with
 | .str _ => T = "str"
 | .int _ => T = "int"
 | .ref p => (T = "list" /\ ∃ xs, SqL K H p xs) \/ (T = "tuple" /\ ∃ o, K.lookup p = some o /\ o.cls = .type "tuple" /\ o.dict = none) \/
  (T = "dict" /\ ((∃ kvs, H p = some (.dK kvs)) \/ ∃ kvs, H p = some (.dT kvs))) \/ (T = "set" /\ ∃ S n, H p = some (.set S n))
 | _ => False
theorem Zfj {pins : List (Addr × Obj)} {σ : St} {H : Hp} {s : Shared} {T : String} {x : V} {v : Value} (I : Inv X pins σ H s) (r : RelV x v) (ty : tyV X.K T x H) :
 s.TypeIs v T /\ ∀ a, v = .ref a -> ∃ ob, s.heap.get? a = some ob /\ ob.dict = none := by
 cases x with
 | str z =>
  obtain ⟨t, rfl⟩ := r
  cases (show T = "str" from ty)
  exact ⟨typeIs_str s z t, fun _ e => nomatch e⟩
 | int i =>
  obtain ⟨t, rfl⟩ := r
  cases (show T = "int" from ty)
  exact ⟨typeIs_int s i t, fun _ e => nomatch e⟩
 | ref p =>
  cases r
  rcases ty with ⟨rfl, xs, hq⟩ | ⟨rfl, o, hk, hc, hd⟩ | ⟨rfl, hk⟩ | ⟨rfl, S, n, hk⟩
  · obtain ⟨its, _, pl, _⟩ := I.list hq
    refine ⟨pl.isList.typeIs, fun a e => ?_⟩
    cases e
    obtain ⟨o, n, e, c, hd, _⟩ := pl
    exact ⟨o, e, hd⟩
  · refine ⟨⟨o, I.kIn p o hk, hc⟩, fun a e => ?_⟩
    cases e
    exact ⟨o, I.kIn _ o hk, hd⟩
  · have z : ∃ o, s.heap.get? p = some o /\ o.ExactDict := by
     rcases hk with ⟨kvs, hk⟩ | ⟨kvs, hk⟩
     · obtain ⟨_, _, _, _, o, _, _, e, ex, _⟩ := I.hok p _ hk
       exact ⟨o, e, ex⟩
     · obtain ⟨_, _, _, _, o, _, _, e, ex, _⟩ := I.hok p _ hk
       exact ⟨o, e, ex⟩
    obtain ⟨o, e, ex⟩ := z
    refine ⟨⟨o, e, ex.1⟩, fun a e2 => ?_⟩
    cases e2
    exact ⟨o, e, ex.2.1⟩
  · obtain ⟨o, _, _, _, e, ex, _⟩ := I.hok p _ hk
    refine ⟨⟨o, e, ex.1⟩, fun a e2 => ?_⟩
    cases e2
    exact ⟨o, e, ex.2.1⟩
 | _ => exact False.elim ty
def tBM (K : PySem.W.Frag) (T : String) (r : V -> List V -> Hp -> VK -> Prop) (to : TE) (t : TA) : TE := fun σ H Q => to σ H fun x H1 => tyV K T x H1 /\ t σ H1 fun xs H2 => r x xs H2 Q
variable {o e : Expr} {es : List Expr} {to : TE} {t : TA} {name : Str} {apos cpos : Pos} {T id : String} {r : V -> List V -> Hp -> VK -> Prop}
theorem Zf0 (pa : PlainAttrs T) (slot : Slot T name id) (hty : typeOf (.builtin id) = pure (.type "method_descriptor")) (hm : MtR X id r) (ho : PE X o to) (ha : PA X (e :: es) t)
 (hbase : attributeBase o name X.env (eval o X.env) = eval o X.env := by rfl)
 (hfew : ((backTo cpos (starEach (e :: es) X.env)).all (fun x => !x.1) && (backToKw cpos (keywordEach [] X.env)).all (fun x => x.1.isSome)
   && decide ((e :: es).length + ([] : List Keyword).length + (if ([] : List Keyword).isEmpty then 0 else 1) < 30)) = true := by rfl)
 (hline : (apos.endLine == cpos.line) = true := by rfl) (hs : starEach (e :: es) X.env = (false, eval e X.env) :: starEach es X.env := by rfl) (hplain : (backTo cpos (starEach es X.env)).any (·.1) = false := by rfl) :
 PE X (.Call (.Attribute o name apos) (e :: es) [] cpos) (tBM X.K T r to t) := by
 intro pins s σ H Q I h
 refine wpAny_Call_method_late hbase hfew hline rfl (thn (ho pins s σ H _ I h) fun v s1 ⟨x, H1, I1, r1, ty, q1⟩ => ?_)
 obtain ⟨h1, h2⟩ := Zfj I1 r1 ty
 refine ⟨T, id, pa, slot, hty, h1, h2, ?_⟩
 have hA := ha cpos pins s1 σ H1 _ I1 q1
 rw [hs] at hA ⊢
 refine Calls.callWith_builtin (by show (false || (backTo cpos (starEach es X.env)).any (·.1)) = false; rw [hplain] <;> rfl) (Calls.evalArgs_plain ?_)
 exact thn hA fun us s2 ⟨vs, H2, I2, r2, q2⟩ => hm pins s2 σ H2 x vs v us Q I2 r1 r2 q2
end
end L2
namespace L2
open PySem PySem.Spec PyProof.Rows
def MtM (X : Cx) (id : String) (r : V -> List V -> Hp -> VK -> Prop) : Prop :=
 ∀ (pins : List (Addr × Obj)) (s : Shared) (σ : St) (H : Hp) (x : V) (xs : List V) (v : Value) (us : List Value) (Q : VK), Inv X pins σ H s -> RelV x v -> Vals xs us -> r x xs H Q ->
  wpAny (model X.prog X.w) X.A (call (.builtin id) (v :: us)) (EP X pins σ Q) X.xe s
theorem Vals.one : ∀ {x : V} {us : List Value}, Vals [x] us -> ∃ u, us = [u] /\ RelV x u
 | _, _, .cons r .nil => ⟨_, rfl, r⟩
theorem Vals.rep {xs : List V} {us : List Value} (h : Vals xs us) : ∀ k : Nat, Vals (List.replicate k xs).flatten (List.replicate k us).flatten
 | 0 => .nil
 | k + 1 => by
  rw [List.replicate_succ, List.replicate_succ, List.flatten_cons, List.flatten_cons]
  exact Vals.append h (Vals.rep h k)
theorem ZaD (its : List Value) : ∀ (k : Nat) (acc : List Value),
 List.foldl (fun x1 x2 => x1 ++ x2) acc.toArray (List.replicate k its.toArray) = (acc ++ (List.replicate k its).flatten).toArray
 | 0, acc => by simp
 | k + 1, acc => by
  have e : acc.toArray ++ its.toArray = (acc ++ its).toArray := by simp
  have e2 : (acc ++ its) ++ (List.replicate k its).flatten = acc ++ (List.replicate (k + 1) its).flatten := by
   rw [List.replicate_succ, List.flatten_cons, List.append_assoc]
  rw [<- e2, <- ZaD its k (acc ++ its), <- e, List.replicate_succ, List.foldl_cons]
section
variable {X : Cx} {pins : List (Addr × Obj)} {σ : St} {H : Hp} {s : Shared} {l b : Addr} {xs ys zs : List V}
theorem Inv.lset {its its' : List Value} {n : Nat} {f : Array Value -> Array Value} {t' : Nat} (I : Inv X pins σ H s) (hH : H l = some (.lst xs))
 (e : s.heap.get? l = some { cls := .type "list", data := .seq its.toArray n }) (hf : f its.toArray = its'.toArray) (hv : Vals ys its') (hz : ys.length <= sizeLine) :
 Inv X pins σ (upd H l (.lst ys)) { s with heap := s.heap.update l (Obj.mapSeq f), toks := t' } := by
 have q := PySem.IsL.update e f
 rw [hf] at q
 refine I.write (x := l) (e := l) (by rw [hH]; exact trivial) (.inl rfl) (fun b' u hb hu => (Heap.get?_update_other s.heap (Obj.mapSeq f) (Ne.symm hb)).trans hu) ⟨_, q⟩ ?_
 exact ⟨hz, its', _, hv, q⟩
theorem Inv.lnew {its : List Value} {t' : Nat} (I : Inv X pins σ H s) (hv : Vals ys its) (hz : ys.length <= sizeLine) :
 Inv X pins σ (upd H s.heap.objs.size (.lst ys)) { s with heap := s.heap.push { cls := .type "list", data := .seq its.toArray }, toks := t' } :=
 I.laid (fun _ _ q => Heap.get?_push_of_some _ q) (Nat.le_refl _) ⟨hz, its, 0, hv, Heap.get?_push_size _ rfl⟩
theorem Inv.fresh (I : Inv X pins σ H s) : H s.heap.objs.size = none := I.hok.fresh (Nat.le_refl _)
theorem Inv.lstM (I : Inv X pins σ H s) (hH : H l = some (.lst xs)) : xs.length <= sizeLine /\ ∃ (its : List Value) (n : Nat), Vals xs its /\ xs.length = its.length /\ s.heap.get? l = some { cls := .type "list", data := .seq its.toArray n } := by
 obtain ⟨z, its, n, r, e⟩ := I.hok l _ hH
 exact ⟨z, its, n, r, r.length, e⟩
theorem ZcP {n : Nat} (h : n <= sizeLine) : Builtin.List.listTooLong n = false := by
 unfold Builtin.List.listTooLong
 exact decide_eq_false (by omega)
end
section
variable {X : Cx}
def rAppend : V -> List V -> Hp -> VK -> Prop := fun x vs H Q => ∃ l xs y, x = .ref l /\ vs = [y] /\ H l = some (.lst xs) /\ xs.length < sizeLine /\ Q .non (upd H l (.lst (xs ++ [y])))
theorem ZaE : MtM X "list.append" rAppend := by
 intro pins s σ H x vs v us Q I rx rv h
 obtain ⟨l, xs, y, rfl, rfl, hH, hz, q⟩ := h
 cases rx
 obtain ⟨u, rfl, ru⟩ := rv.one
 obtain ⟨z, its, n, r, hl, e⟩ := I.lstM hH
 refine call_meets F.slot_list_append ⟨_, e, rfl⟩ F.entry_list_append (F.args_list_append_2 _ _) (PySem.list_append l its.toArray n u (by rw [List.size_toArray]; omega)) ⟨e, ?_⟩
 refine ⟨.non, _, I.lset (its' := its ++ [u]) hH e (by simp) (r.append (.cons ru .nil)) ?_, rfl, q⟩
 rw [List.length_append, List.length_singleton]
 omega
def Zg0 : R2 := fun x y H Q => ∃ l b xs zs, x = .ref l /\ y = .ref b /\ H l = some (.lst xs) /\ H b = some (.lst zs) /\ xs.length + zs.length <= sizeLine /\ ∀ p, H p = none -> Q (.ref p) (upd H p (.lst (xs ++ zs)))
theorem ZdS {α : Type} (xs : List α) (k : Nat) : (List.replicate k xs).flatten.length = k * xs.length := by
 induction k with
 | zero => simp
 | succ k ih => rw [List.replicate_succ, List.flatten_cons, List.length_append, ih, Nat.succ_mul, Nat.add_comm]
end
section
variable {prog : Program} {w : World} {A : Around} {E : Value -> Shared -> Prop} {s : Shared}
set_option maxRecDepth 100000 in
end
section
variable {X : Cx}
end
end L2
namespace Att
open PySem PySem.W PySem.Calls PyProof.Rows
theorem Zan {P : Params} {h : Heap} : ∀ (ns : List Int) (vs : List Value), WellAll P h vs (ns.map WData.int) -> IntsAre vs ns := by
 intro ns
 induction ns with
 | nil =>
  intro vs w
  rw [List.map_nil] at w
  cases w
  exact .nil
 | cons n ns ih =>
  intro vs w
  rw [List.map_cons] at w
  cases w with
  | cons a b =>
   cases a
   exact .cons _ _ (ih _ b)
theorem Zcl {l : OpenLaw} {n : Nat} (hn : l.most = some n) {P : Params} {h : Heap} {args : List WData} {vals : List Value}
 (hpre : l.row.toRowW.claim.pre args = true) (hwl : WellAll P h vals args) :
 ∃ a vs ns, vals = [Value.ref a] /\ args = [WData.list (ns.map WData.int)] /\ h.get? a = some { cls := .type "list", data := .seq vs.toArray } /\ IntsAre vs ns /\ ns.length <= n := by
 have hsh : WShape.hasAll [] args [.list .int] = true := (pre_splitW hpre).1
 have hc : l.pre.holds [] { args := args } = true := (pre_splitW hpre).2
 obtain ⟨d, r, rfl, h1, h2⟩ := hasAllW_cons hsh
 obtain rfl := hasAllW_nil h2
 obtain ⟨xs, rfl, h3⟩ := hasW_list h1
 obtain ⟨ns, rfl⟩ := items_int h3
 have hlen : ns.length <= n := by
  unfold OpenLaw.pre at hc
  have h4 : (WTm.not (.lt (.lit (.int (n : Int))) (.len (.arg 0)))).holds [] { args := [.list (ns.map .int)] } = true := by
   have h4 := (holds_andW hc).1
   rw [hn] at h4
   exact h4
  have h5 := condW_of h4 (w_not (w_lt w_lit (w_len_list (w_arg rfl))))
  rw [List.length_map] at h5
  refine Nat.le_of_not_lt fun q => ?_
  have q' : (n : Int) < ((ns.length : Nat) : Int) := by omega
  first
   | (rw [decide_eq_true q'] at h5; exact absurd h5 (by decide))
   | (simp at h5; omega)
 cases hwl with
 | cons w1 w2 =>
  cases w2
  cases w1 with
  | list ho hall => exact ⟨_, _, ns, rfl, rfl, ho, Zan ns _ hall, hlen⟩
theorem Zcm (l : OpenLaw) (args : List WData) : l.row.toRowW.claim.post args (.bool true) args = true :=
 postW_of (r := l.row.toRowW) (X := (true == true))
  (show WShape.has [] (.bool true) .bool = true by first | rfl | decide | simp [WShape.has, WShape.arms, WShape.armsAll])
  (show (WTm.eq .res (.lit (.bool true))).value [] { args := args, res := some (.bool true), after := args } = some (.bool (true == true)) from w_eq_bool (w_res rfl) w_lit) rfl
theorem attach_call {l : OpenLaw} {n : Nat} {q : Program} {loose : List Str} {XP : (Str -> Option Value) -> Heap -> Prop} {YP : World -> Heap -> Prop} {d : DefRec}
 (hn : l.most = some n) (hdf : d.params.defaults = [])
 (call : ∀ (w : World) (s₀ s₁ : Shared) (mg mb : Str -> Option Value) (fa : Addr) (o : Obj) (pm cd doc : Value) (a : Addr) (vs : List Value) (ns : List Int),
   Ground q loose [] XP w s₀ mg mb s₁.heap -> YP w s₁.heap ->
   s₁.heap.get? fa = some o -> o.data = .func (docDef d.name d.params d.body d.scope pm cd doc) -> s₁.heap.CodeRec cd d.name -> mg d.name = some (.ref fa) ->
   s₁.heap.get? a = some { cls := .type "list", data := .seq vs.toArray } -> IntsAre vs ns -> ns.length <= n -> s₁.gens = #[] ->
   codeAny (model l.prog w) callerA (.call (.ref fa) ⟨[.ref a], []⟩) (fun r s' => r = .ok (.ret (.bool true)) /\ OldK s₁.heap s'.heap /\ s'.os = s₁.os /\ AllBare s'.gens) s₁) :
 WalkO q loose XP YP l.row.toRowW d [] (fun f vs => PySem.call f vs) := by
 intro w s₀ s₁ mg mb G Y fa o pm cd doc dV kV ho hd hcd hD hmg hg args vals as hpre hlay hrd hwl hlo
 obtain rfl : dV = .none := Dflts.none hD hdf
 obtain rfl : kV = .none := Dflts.noKw hD
 obtain ⟨a, vs, ns, rfl, rfl, hobj, hints, hlen⟩ := Zcl hn hpre hwl
 refine enter_call (codeAny_mono (call w s₀ s₁ mg mb fa o pm cd doc a vs ns G Y ho (fd_plain hd) hcd hmg hobj hints hlen hg) fun r s' hq => ?_)
 obtain ⟨rfl, h2, h3, h4⟩ := hq
 exact ⟨.inl ⟨.bool true, .bool true, [], rfl, fun _ => rfl, .bool true, Zcm l _, fun _ => ⟨List.Pairwise.nil, fun _ hm => (nomatch hm)⟩⟩, h2, h3, h4⟩
section
variable {prog : Program} {w : World} {A : Around} {E : Value -> Shared -> Prop} {s : Shared} {K : Frag}
end
end Att
namespace L2
open PySem PySem.Spec PyProof.Rows
theorem ZaF : ∀ {vs : List Value} {ns : List Int}, IntsAre vs ns -> Vals (ns.map V.int) vs
 | _, _, .nil => .nil
 | _, _, .cons n t h => .cons ⟨t, rfl⟩ (ZaF h)
def QE (H : Hp) : Prop := ∀ b, H b = none \/ ∃ o xs, H b = some (.frz o (.lst xs))
theorem ZcQ {P : Program} {w : World} {K : PySem.W.Frag} {mg mb : Str -> Option Value} {CX : CXT} {k : Nat} {fa a : Addr} {fd : FuncData} {x : Str} {sp : Sp} {s₁ : Shared} {vs : List Value} {ns : List Int}
 (KX : K.In s₁.heap) (hns : s₁.heap.Ns mainGlobals mg) (hb : s₁.heap.Ns builtinsNs mb) (hbb : ∀ x : Str, x ≠ "__name__" -> mb x = bootBuiltins x) (hlim : s₁.heap.NoLimit) (hg : s₁.gens = #[])
 (ha : s₁.heap.get? a = some { cls := .type "list", data := .seq vs.toArray }) (hi : IntsAre vs ns) (hl : ns.length <= sizeLine) (hr : Room k callerA)
 (F : ∀ base : Heap, K.In base -> base.Ns mainGlobals mg -> FnOk P w K mg base CX k fa fd [x] sp) (hbind : ∀ (s : Shared) (u : Value), BindsTo s fd ⟨[u], []⟩ [(x, u)])
 (hsp : ∀ H : Hp, QE H -> SqL K H a (ns.map V.int) -> sp [.ref a] H (fun v _ => v = .bl true) fun _ _ _ => False)
 (hCX : ∀ H e s', CX [] H s₁ (fun _ _ _ => False) e s' -> False) :
 codeAny (model P w) callerA (.call (.ref fa) ⟨[.ref a], []⟩) (fun r s' => r = .ok (.ret (.bool true)) /\ OldK s₁.heap s'.heap /\ s'.os = s₁.os /\ AllBare s'.gens) s₁ := by
 have rv := ZaF hi
 have lenV := hi.length
 have core : ∀ H : Hp, QE H -> SqL K H a (ns.map V.int) -> HOk P w H s₁.heap -> (∀ b, H b ≠ none -> b = a) -> (H a ≠ none -> K.lookup a = none) ->
  codeAny (model P w) callerA (.call (.ref fa) ⟨[.ref a], []⟩) (fun r s' => r = .ok (.ret (.bool true)) /\ OldK s₁.heap s'.heap /\ s'.os = s₁.os /\ AllBare s'.gens) s₁ := by
  intro H hO hS hok hA hK
  have base_of : ∀ {b : Addr} {o : Obj}, s₁.heap.get? b = some o -> H b = none -> (Y8 s₁.heap H).get? b = some o := fun e n => ZcJ e n
  have noA : ∀ {b : Addr} {o : Obj} {es : Array DictEntry} {ep : Nat}, s₁.heap.get? b = some o -> o.data = .dict es ep -> H b = none := fun {b o es ep} e d => by
   cases q : H b with
   | none => rfl
   | some u =>
    have e' : b = a := hA b (by rw [q]; simp)
    subst e'
    rw [ha] at e; cases e
    have d' : Data.seq vs.toArray _ = Data.dict es ep := d
    cases d'
  have nsK : ∀ {b : Addr} {m : Str -> Option Value}, s₁.heap.Ns b m -> (Y8 s₁.heap H).Ns b m := fun {b m} ⟨o, es, ep, e, d, r⟩ => ⟨o, es, ep, base_of e (noA e d), d, r⟩
  have hKb : K.In (Y8 s₁.heap H) := fun b o e => base_of (KX b o e) (by
   cases q : H b with
   | none => rfl
   | some u =>
    have e' : b = a := hA b (by rw [q]; simp)
    subst e'
    rw [hK (by rw [q]; simp)] at e; cases e)
  have hM : Mod K mg (Y8 s₁.heap H) := ⟨hKb, nsK hns, ⟨mb, nsK hb, hbb⟩, let ⟨mc, h1, h2⟩ := hlim; ⟨mc, nsK h1, h2⟩⟩
  have e0 : Env0 P w K mg (Y8 s₁.heap H) callerA [] s₁ H := ⟨rfl, hM, fun b o e => ZdM e, Nat.le_of_eq (Zcb _ _), trivial, fun b hb => absurd (show b ∈ ([] : List Addr) from hb) (by simp), hok, .of_eq hg⟩
  refine codeAny_mono ((F _ hKb (nsK hns)).run callerA [] s₁ H ⟨[.ref a], []⟩ [.ref a] [.ref a] _ _ hr e0 (hbind s₁ (.ref a)) (.cons rfl .nil) (hsp H hO hS)) fun r s' h => ?_
  cases r with
  | error e => exact (hCX H e s' h).elim
  | ok fl =>
   cases fl with
   | next => exact False.elim h
   | brk => exact False.elim h
   | cont => exact False.elim h
   | ret u =>
    obtain ⟨v, H', os, bare, un, hok', r', q⟩ := h
    have q' : v = .bl true := q
    subst q'
    obtain rfl : u = Value.bool true := r'
    refine ⟨rfl, OldK.of_keep fun b o e => ?_, os, bare⟩
    cases q : H b with
    | none => exact un.keep b o e q (by intro z; exact absurd (show b ∈ ([] : List Addr) from z) (by simp)) (by simp)
    | some u =>
     rcases hO b with z | ⟨ob, xs, z⟩
     · rw [q] at z; cases z
     · have z2 := un.frzs b ob _ z
       obtain ⟨e1, _⟩ := hok b _ z
       obtain ⟨e2, _⟩ := hok' b _ z2
       rw [e] at e1; cases e1
       exact e2
 cases hk : K.lookup a with
 | some o =>
  have e := KX a o hk
  rw [ha] at e
  cases e
  refine core (fun _ => none) (fun _ => .inl rfl) (.inr ⟨_, vs.toArray, _, hk, rfl, rfl, rfl, by rw [List.size_toArray, lenV]; exact hl, by simpa using rv⟩) (fun b u z => by have z' : (none : Option HO) = some u := z; cases z') (fun b z => absurd rfl z) fun z => absurd rfl z
 | none =>
  refine core (fun b => if b = a then some (.frz { cls := .type "list", data := .seq vs.toArray } (.lst (ns.map V.int))) else none) (fun b => ?_) (.inl (.inr ⟨{ cls := .type "list", data := .seq vs.toArray }, if_pos rfl⟩)) (fun b u z => ?_) (fun b z => ?_) fun _ => hk
  · by_cases hb : b = a
    · exact .inr ⟨_, _, if_pos hb⟩
    · exact .inl (if_neg hb)
  · by_cases hb : b = a
    · have z' := (if_pos hb).symm.trans z
      cases z'
      subst hb
      exact ⟨ha, by rw [List.length_map]; exact hl, vs, _, rv, ha⟩
    · have z' := (if_neg hb).symm.trans z
      cases z'
  · by_cases hb : b = a
    · exact hb
    · exact absurd (if_neg hb) z
end L2
namespace L2
open PySem PySem.Spec PyProof.Rows
theorem walk_of {l : PySem.W.OpenLaw} {n k : Nat} {q : Program} {loose : List Str} {XP : (Str -> Option Value) -> Heap -> Prop} {YP : World -> Heap -> Prop} {d : DefRec} {K : Params -> PySem.W.Frag} {CX : World -> CXT} {sp : World -> Sp} {x : Str}
 (hn : l.most = some n) (hn2 : n <= sizeLine) (hdf : d.params.defaults = []) (hr : Room k callerA)
 (hY : ∀ (w : World) (h : Heap), YP w h -> (K w.params).In h)
 (F : ∀ (w : World) (mg : Str -> Option Value) (fa : Addr) (h : Heap), (K w.params).In h -> h.Ns mainGlobals mg -> mg d.name = some (.ref fa) ->
   ∃ fd : FuncData, (∀ (s : Shared) (u : Value), BindsTo s fd ⟨[u], []⟩ [(x, u)]) /\
    ∀ base : Heap, (K w.params).In base -> base.Ns mainGlobals mg -> FnOk l.prog w (K w.params) mg base (CX w) k fa fd [x] (sp w))
 (hsp : ∀ (w : World) (H : Hp) (a : Addr) (ns : List Int), ns.length <= n -> QE H -> SqL (K w.params) H a (ns.map V.int) -> sp w [.ref a] H (fun v _ => v = .bl true) fun _ _ _ => False)
 (hCX : ∀ (w : World) (H : Hp) (s : Shared) (e : Value) (s' : Shared), CX w [] H s (fun _ _ _ => False) e s' -> False) :
 PySem.W.WalkO q loose XP YP l.row.toRowW d [] (fun f vs => PySem.call f vs) := by
 refine Att.attach_call hn hdf fun w s₀ s₁ mg mb fa o pm cd doc a vs ns G Y ho hd hcd hmg hobj hints hlen hg => ?_
 have KX := hY w _ Y
 obtain ⟨fd, hb, hF⟩ := F w mg fa _ KX G.T.g hmg
 exact ZcQ KX G.T.g G.T.b G.T.builtins G.T.nolimit hg hobj hints (Nat.le_trans hlen hn2) hr hF hb (fun H hO hS => hsp w H a ns hlen hO hS) fun H e s' => hCX w H s₁ e s'
end L2
namespace L2
open PySem PySem.Spec PyProof.Rows
def Uo (s : Stmt) (j : Nat) : Stmt := match s with
 | .ClassDef _ _ _ body _ _ _ _ _ _ _ => body.getD j (.Pass ⟨0, 0, 0, 0⟩)
 | _ => .Pass ⟨0, 0, 0, 0⟩
def ZR (s : Stmt) : Arguments := match s with
 | .FunctionDef _ a _ _ _ _ _ _ _ _ => a
 | _ => { posonlyargs := [], args := [], vararg := none, kwonlyargs := [], kw_defaults := [], kwarg := none, defaults := [] }
def ZK (s : Stmt) : List Stmt := match s with
 | .FunctionDef _ _ b _ _ _ _ _ _ _ => b
 | _ => []
def Zp (s : Stmt) : Scope := match s with
 | .FunctionDef _ _ _ _ _ _ sc _ _ _ => sc
 | _ => { kind := .function, names := [], isGenerator := false, isCoroutine := false }
abbrev CX0 : CXT := fun _ _ _ _ _ _ => False
abbrev E0 : XK := fun _ _ _ => False
theorem Z4 {X : Cx} : Vy CX0 X E0 := fun _ _ _ _ _ _ _ h => h.elim
structure Fun (K : PySem.W.Frag) (x qual : Str) (st : Stmt) (f : Addr) (fd : FuncData) : Prop where
 ex : ∃ (oc : Value) (od : Option Addr) (kV doc pm : Value) (an : Option Addr) (cdv ct : Value) (osl : Array (Option Value)),
  fd = PySem.W.fnOf x qual (ZR st) (ZK st) (Zp st) .none kV doc pm an cdv ct /\ K.lookup f = some ⟨oc, od, .func fd, osl⟩ /\ PySem.W.codeIn K cdv qual = true
 kp : PySem.W.keepIn K (.ref f) = true
section
variable {P : Program} {w : World} {K : PySem.W.Frag} {mg : Str -> Option Value} {base : Heap}
theorem Fun.ok {x qual : Str} {st : Stmt} {f : Addr} {fd : FuncData} {N ps : List Str} {k : Nat} {sp : Sp} (F : Fun K x qual st f fd) (S : FnScope N ps (Zp st)) (len : ∀ vs H Q E, sp vs H Q E -> vs.length = ps.length)
 (hbody : ∀ (cdv : Value) (A : Around) (outer : List Env) (s : Shared) (H : Hp) (vs : List V) (Q : VK) (E : XK), Room k (A.deeper (envOfC qual (Zp st) s.heap.objs.size f cdv)) -> sp vs H Q E ->
   ∃ t, PSs (YD CX0 P w K mg base N qual (Zp st) f cdv A outer s H E).nox (ZK st) t /\ t { nx := fun _ H' => Q .non H', rt := Q } (start N vs) H) : FnOk P w K mg base CX0 (k + 1) f fd ps sp := by
 obtain ⟨oc, od, kV, doc, pm, an, cdv, ct, osl, rfl, lk, hcd⟩ := F.ex
 refine ZeM lk hcd S len fun A outer s H vs Q E hr hsp => ?_
 obtain ⟨t, h, q⟩ := hbody cdv A outer s H vs Q E hr hsp
 exact ⟨t, h.nox, q⟩
theorem Fun.binds {x qual : Str} {st : Stmt} {f : Addr} {fd : FuncData} {ps : List Str} (F : Fun K x qual st f fd)
 (h : ∀ (kV doc pm : Value) (an : Option Addr) (cdv ct : Value) (us : List Value), us.length = ps.length -> bindArgs (PySem.W.fnOf x qual (ZR st) (ZK st) (Zp st) .none kV doc pm an cdv ct) ⟨us, []⟩ = pure (ps.zip us)) : Binds K fd ps [] := by
 obtain ⟨oc, od, kV, doc, pm, an, cdv, ct, osl, rfl, lk, hcd⟩ := F.ex
 exact .all (h kV doc pm an cdv ct)
theorem ZF {x qual : Str} {st : Stmt} {f : Addr} {oc : Value} {od an : Option Addr} {osl : Array (Option Value)} {kV doc pm cdv ct : Value} (l : K.lookup f = some ⟨oc, od, .func (PySem.W.fnOf x qual (ZR st) (ZK st) (Zp st) .none kV doc pm an cdv ct), osl⟩)
 (c : PySem.W.codeIn K cdv qual = true) (k : PySem.W.keepIn K (.ref f) = true) : Fun K x qual st f (PySem.W.fnOf x qual (ZR st) (ZK st) (Zp st) .none kV doc pm an cdv ct) := ⟨⟨oc, od, kV, doc, pm, an, cdv, ct, osl, rfl, l, c⟩, k⟩
end
section
variable {X : Cx}
theorem pv (i : Nat) {x : Str} {pos : Pos} (hN : X.N[i]? = some x := by rfl) (hv : Vis X.env.scope x := by first | exact Or.inl rfl | exact Or.inr (Or.inl rfl) | exact Or.inr (Or.inr rfl)) (hd : (x == ("__debug__" : Str)) = false := by decide)
 (hcd : (x == ("__classdict__" : Str)) = false := by decide) : PE X (.Name x pos) (Y9 i) := Zfb hN hv hd hcd
end
theorem Xe {A B : Prop} (h : B) : if false = true then A else B := by
 rw [if_neg Bool.false_ne_true]
 exact h
theorem Xf {A B : Prop} (h : A) : if true = true then A else B := by
 rw [if_pos rfl]
 exact h
def Same (H H' : Hp) : Prop := ∀ b o, H b = some o -> H' b = some o
theorem Same.refl (H : Hp) : Same H H := fun _ _ h => h
theorem Same.trans {H H1 H2 : Hp} (a : Same H H1) (b : Same H1 H2) : Same H H2 := fun c o h => b c o (a c o h)
theorem Same.free {H H' : Hp} (e : Same H H') {l : Addr} (h : H' l = Option.none) : H l = Option.none := by
 cases q : H l with
 | none => rfl
 | some o =>
  rw [e l o q] at h
  cases h
theorem Same.seq {K : PySem.W.Frag} {H H' : Hp} {a : Addr} {xs : List V} (e : Same H H') (h : SqL K H a xs) : SqL K H' a xs := by
 rcases h with (h | ⟨o, h⟩) | h
 · exact .inl (.inl (e _ _ h))
 · exact .inl (.inr ⟨o, e _ _ h⟩)
 · exact .inr h
end L2
namespace L2
open PySem Builtin Builtin.Str
abbrev tx (cs : List Nat) : Str := ⟨cs.toArray⟩
theorem tx_inj {a b : List Nat} : tx a = tx b ↔ a = b := by
 constructor
 · intro h
   have h2 : a.toArray = b.toArray := congrArg Str.cps h
   simpa using h2
 · rintro rfl; rfl
theorem XL (cs : List Nat) : (tx cs).cps.toList = cs := by simp [tx]
theorem Yv (cs : List Nat) : (tx cs).length = cs.length := by simp [tx, Str.length]
theorem QF (a b : List Nat) : tx a ++ tx b = tx (a ++ b) := by
 show Str.mk (a.toArray ++ b.toArray) = Str.mk (a ++ b).toArray
 simp
def VD (n d : Nat) : Option Int -> Nat
 | none => d
 | some v => if v < 0 then (v + (n : Int)).toNat else min v.toNat n
def cutL {α : Type} (xs : List α) (lo hi : Option Int) : List α := (xs.drop (VD xs.length 0 lo)).take (VD xs.length xs.length hi - VD xs.length 0 lo)
end L2
namespace L2
open PySem Builtin Builtin.Str
def Uq (c : Nat) : Bool := decide (48 <= c) && decide (c <= 57)
def QG (cs : List Nat) : Nat := cs.foldl (fun acc c => acc * 10 + (c - 48)) 0
theorem QH (cs : List Nat) (c i : Nat) : StrLaws.At (tx cs) (tx [c]) (tx cs).length i ↔ cs[i]? = some c := by
 have := StrLaws.subAt_one (tx cs) c i
 rw [XL] at this
 exact this
def Yk (c : Nat) (cs : List Nat) : Int := match cs.findIdx? (· == c) with
 | some i => (i : Int)
 | none => -1
theorem ZdT (cs : List Nat) (c : Nat) : Txt.find (tx cs) (tx [c]) = Yk c cs := by
 unfold Yk
 rcases PyProof.Rows.find_whole (tx cs) (tx [c]) with ⟨e, h⟩ | ⟨i, e, h, hk⟩
 · rw [e]
   have hn : cs.findIdx? (· == c) = none := by
    rw [List.findIdx?_eq_none_iff]
    intro x hx
    simp only [beq_eq_false_iff_ne]
    rintro rfl
    obtain ⟨j, hj⟩ := List.getElem?_of_mem hx
    exact h j ((QH cs x j).mpr hj)
   rw [hn]
 · rw [e]
   have hi := (QH cs c i).mp h
   have hs : cs.findIdx? (· == c) = some i := by
    rw [List.findIdx?_eq_some_iff_getElem]
    have hl : i < cs.length := (List.getElem?_eq_some_iff.mp hi).1
    refine ⟨hl, by simpa using (List.getElem?_eq_some_iff.mp hi).2, fun j hj => ?_⟩
    have hjl : j < cs.length := by omega
    have := hk j hj
    rw [QH, List.getElem?_eq_getElem hjl] at this
    simpa using this
   rw [hs]
def Xg (sep : List Nat) : List (List Nat) -> List Nat
 | [] => []
 | [x] => x
 | x :: y :: r => x ++ sep ++ Xg sep (y :: r)
theorem QI (sep : List Nat) : ∀ l : List (List Nat), Str.join (tx sep) (l.map tx) = tx (Xg sep l)
 | [] => rfl
 | [x] => rfl
 | x :: y :: r => by
  show tx x ++ tx sep ++ Str.join (tx sep) ((y :: r).map tx) = _
  rw [QI sep (y :: r), QF, QF]
  rfl
theorem ZaG : ∀ l : List (List Nat), Xg [] l = l.flatten
 | [] => rfl
 | [x] => by simp [Xg]
 | x :: y :: r => by
  show x ++ [] ++ Xg [] (y :: r) = _
  rw [ZaG (y :: r)]
  simp
end L2
namespace L2
open PySem PySem.Spec PyProof.Rows
section
variable {prog : Program} {w : World} {A : Around} {R : Result -> Shared -> Prop} {s : Shared}
theorem ZaV {elt target iter : Expr} {ifs : List Expr} {scope : Scope} {pos : Pos} {it acc : Value} {env : Env} (I : Nat -> Shared -> Prop)
 (turn : ∀ n s, I n s -> wpAny (model prog w) A (pyNext it) (fun r s₁ => match r with
   | none => R (.ok .next) s₁
   | some v => wpAny (model prog w) A (letOwnedTupleGo target it v) (fun _ s₀ => wpAny (model prog w) A (assign target env v) (fun _ s₂ =>
    wpAny (model prog w) A (forIn ifs true fun c r => if r = true then do let ok <- isTrue c env (eval c env); pure (ForInStep.yield ok) else pure (ForInStep.yield r)) (fun ok s₃ =>
     if ok = true then wpAny (model prog w) A (eval elt env) (fun x s₄ =>
      wpAny (model prog w) A (call (.builtin "list.append") [acc, x]) (fun _ s₅ => ∃ m, m < n /\ I m s₅) (notedBy (model prog w) A env fun e s' => R (.error e) s') s₄) (notedBy (model prog w) A env fun e s' => R (.error e) s') s₃
     else ∃ m, m < n /\ I m s₃) (notedBy (model prog w) A env fun e s' => R (.error e) s') s₂) (notedBy (model prog w) A env fun e s' => R (.error e) s') s₀) (notedBy (model prog w) A env fun e s' => R (.error e) s') s₁) (notedBy (model prog w) A env fun e s' => R (.error e) s') s)
 (n : Nat) (h : I n s) :
 codeAny (model prog w) A (.compLoop (.ListComp elt [⟨target, iter, ifs, 0⟩] scope pos) 0 it acc env) R s := by
 refine codeAny_loop rfl I (fun n s hI => ?_) n h
 show wpAny _ A ((compTurn (.ListComp elt [⟨target, iter, ifs, 0⟩] scope pos) 0 it acc env).onRaise (fun x => do noteFrame x env; theTreesLotGoes x)) _ _ s
 refine wpAny_noted ?_
 rw [compTurn_list]
 refine wpAny_bind (wpAny_standAt (wpAny_bind (wpAny_mono (turn n s hI) (fun r s₁ h₁ => ?_) fun _ _ h' => h')))
 cases r with
 | none => exact wpAny_pure h₁
 | some v =>
  refine wpAny_bind (wpAny_mono h₁ (fun _ s₀ h₀ => ?_) fun _ _ h' => h')
  refine wpAny_bind (wpAny_mono h₀ (fun _ s₂ h₂ => wpAny_bind (wpAny_mono h₂ (fun ok s₃ h₃ => ?_) fun _ _ h' => h')) fun _ _ h' => h')
  cases ok with
  | false => exact wpAny_pure ⟨rfl, h₃⟩
  | true =>
   exact wpAny_bind (wpAny_bind (wpAny_mono h₃ (fun x s₄ h₄ => wpAny_bind (wpAny_mono h₄ (fun _ s₅ h₅ => wpAny_pure (wpAny_pure ⟨rfl, h₅⟩)) fun _ _ h' => h')) fun _ _ h' => h'))
end
def Z7 (cells : List (Str × Addr)) : List (Str × NameKind) -> List (Str × Addr) -> List (Str × Addr)
 | [], acc => acc
 | (n, k) :: r, acc => Z7 cells r (if (k == .free) = true then (n, (cells.lookup n).getD 0) :: acc else acc)
theorem QJ {env : Env} : ∀ (names : List (Str × NameKind)) (acc : List (Str × Addr)), (∀ x ∈ names, x.2 = .free -> ∃ c, env.cells.lookup x.1 = some c) ->
 (forIn names acc fun (x : Str × NameKind) (r : List (Str × Addr)) => match x with
   | (name, kind) => if (kind == .free) = true then (do let c <- cellOf env name; pure (ForInStep.yield ((name, c) :: r))) else pure (ForInStep.yield r)) = (pure (Z7 env.cells names acc) : Sem _)
 | [], acc, _ => rfl
 | (n, k) :: r, acc, h => by
  rw [List.forIn_cons]
  show ((if (k == .free) = true then (do let c <- cellOf env n; pure (ForInStep.yield ((n, c) :: acc))) else pure (ForInStep.yield acc)) >>= _) = _
  by_cases hk : (k == .free) = true
  · obtain ⟨c, hc⟩ := h (n, k) List.mem_cons_self (by simpa using hk)
    have e : cellOf env n = pure c := by
     unfold cellOf
     rw [hc]
    rw [if_pos hk, e]
    show (forIn r ((n, c) :: acc) _ : Sem _) = _
    rw [QJ r _ fun x hx => h x (List.mem_cons_of_mem _ hx)]
    conv => rhs; unfold Z7
    rw [if_pos hk, hc]
    rfl
  · rw [if_neg hk]
    show (forIn r acc _ : Sem _) = _
    rw [QJ r _ fun x hx => h x (List.mem_cons_of_mem _ hx)]
    conv => rhs; unfold Z7
    rw [if_neg hk]
theorem Zab {scope : Scope} {env : Env} (h : ∀ x ∈ scope.names, x.2 = .free -> ∃ c, env.cells.lookup x.1 = some c) : closureFor scope env = pure (Z7 env.cells scope.names []) := by
 have e := QJ (env := env) scope.names [] h
 unfold closureFor
 show ((forIn scope.names ([] : List (Str × Addr)) _ : Sem _) >>= fun cs => pure cs) = _
 have e2 : (forIn scope.names ([] : List (Str × Addr)) fun (x : Str × NameKind) (r : List (Str × Addr)) => match x with
  | (name, kind) => if (kind == .free) = true then (do let c <- cellOf env name; pure (ForInStep.yield ((name, c) :: r))) else pure (ForInStep.yield r)) = (pure (Z7 env.cells scope.names []) : Sem _) := e
 rw [e2]
 rfl
theorem Xh {cells : List (Str × Addr)} {x : Str} {c : Addr} : ∀ (names : List (Str × NameKind)) (acc : List (Str × Addr)), (∀ y ∈ names, y.2 = .free -> ∃ c, cells.lookup y.1 = some c) ->
 (∀ c, acc.lookup x = some c -> cells.lookup x = some c) -> (Z7 cells names acc).lookup x = some c -> cells.lookup x = some c
 | [], acc, _, ha, h => ha c h
 | (n, k) :: r, acc, hf, ha, h => by
  unfold Z7 at h
  refine Xh r _ (fun y hy => hf y (List.mem_cons_of_mem _ hy)) (fun c' h' => ?_) h
  by_cases hk : (k == .free) = true
  · rw [if_pos hk] at h'
    obtain ⟨c0, hc0⟩ := hf (n, k) List.mem_cons_self (by simpa using hk)
    rw [List.lookup_cons] at h'
    cases hx : x == n with
    | true =>
     rw [hx] at h'
     have e : x = n := eq_of_beq hx
     subst e
     have h'' : (cells.lookup x).getD 0 = c' := Option.some.inj h'
     have hc0' : cells.lookup x = some c0 := hc0
     rw [hc0'] at h'' ⊢
     exact congrArg some h''
    | false =>
     rw [hx] at h'
     exact ha c' h'
  · rw [if_neg hk] at h'
    exact ha c' h'
theorem QK {cells : List (Str × Addr)} {x : Str} : ∀ (names : List (Str × NameKind)) (acc : List (Str × Addr)), ((x, NameKind.free) ∈ names \/ ∃ c, acc.lookup x = some c) -> ∃ c, (Z7 cells names acc).lookup x = some c
 | [], acc, h => by
  rcases h with h | h
  · cases h
  · exact h
 | (n, k) :: r, acc, h => by
  unfold Z7
  refine QK r _ ?_
  rcases h with h | ⟨c, h⟩
  · rcases List.mem_cons.mp h with e | e
    · cases e
      refine .inr ⟨(cells.lookup x).getD 0, ?_⟩
      rw [if_pos (by rfl), List.lookup_cons]
      simp
    · exact .inl e
  · refine .inr ?_
    by_cases hk : (k == .free) = true
    · rw [if_pos hk, List.lookup_cons]
      cases hx : x == n with
      | true => exact ⟨_, rfl⟩
      | false => exact ⟨c, h⟩
    · rw [if_neg hk]
      exact ⟨c, h⟩
structure CompSc (X : Cx) (scope : Scope) (tn cn : List Str) (js : List Nat) : Prop where
 kind : scope.kind = .function
 nocell : ∀ y ∈ scope.names, y.2 ≠ .cell
 names : ∀ y ∈ scope.names, y.2 = .local -> scope.names.lookup y.1 = some .local
 free : ∀ y ∈ scope.names, y.2 = .free -> X.env.kindOf y.1 = some .cell \/ X.env.kindOf y.1 = some .free
 cap : ∀ (k : Nat) (x : Str), cn[k]? = some x -> ∃ j, js[k]? = some j /\ X.N[j]? = some x /\ (X.env.kindOf x = some .cell \/ X.env.kindOf x = some .free) /\ scope.names.lookup x = some .free
 len : cn.length = js.length
def ZbJ (onames : List (Str × NameKind)) (oN : List Str) (names : List (Str × NameKind)) (cn : List Str) (js : List Nat) : Bool :=
 names.all (fun y => !(y.2 == .cell)) && names.all (fun y => !(y.2 == .local) || (names.lookup y.1 == some .local)) &&
 names.all (fun y => !(y.2 == .free) || (onames.lookup y.1 == some .cell || onames.lookup y.1 == some .free)) &&
 ((cn.zip js).all fun p => oN[p.2]? == some p.1 && (onames.lookup p.1 == some .cell || onames.lookup p.1 == some .free) && names.lookup p.1 == some .free) && (cn.length == js.length)
theorem CompSc.mk' {X : Cx} {scope : Scope} {tn cn : List Str} {js : List Nat} {osc : Scope} {oN : List Str} (hk : scope.kind = .function) (ho : X.env.scope = osc) (hN : X.N = oN) (h : ZbJ osc.names oN scope.names cn js = true) : CompSc X scope tn cn js := by
 unfold ZbJ at h
 simp only [Bool.and_eq_true] at h
 obtain ⟨⟨⟨⟨h1, h2⟩, h3⟩, h4⟩, h5⟩ := h
 rw [List.all_eq_true] at h1 h2 h3 h4
 have hlen : cn.length = js.length := by simpa using h5
 refine ⟨hk, fun y hy => ?_, fun y hy e => ?_, fun y hy e => ?_, fun k x e => ?_, hlen⟩
 · have := h1 y hy
   simpa using this
 · have := h2 y hy
   simpa [e] using this
 · have := h3 y hy
   unfold Env.kindOf
   rw [ho]
   simpa [e] using this
 · have hkl : k < cn.length := (List.getElem?_eq_some_iff.mp e).1
   have hkj : k < js.length := by omega
   refine ⟨js[k], by simp [hkj], ?_⟩
   have hz : (x, js[k]) ∈ cn.zip js := by
    have e2 : (cn.zip js)[k]? = some (x, js[k]) := by
     rw [List.getElem?_zip_eq_some]
     exact ⟨e, by simp [hkj]⟩
    exact List.mem_of_getElem? e2
   have := h4 _ hz
   unfold Env.kindOf
   rw [ho, hN]
   simp only [Bool.and_eq_true, Bool.or_eq_true, beq_iff_eq] at this
   exact ⟨this.1.1, this.1.2, this.2⟩
def VH (σ : St) (js : List Nat) : St := js.map fun j => (σ[j]?).getD none
def blk (n : Nat) (σ : St) (js : List Nat) : St := List.replicate n none ++ VH σ js
def X8 (X : Cx) (scope : Scope) (N' : List Str) (C : Addr) (s₂ : Shared) (H₂ : Hp) (fp : List Addr) (xe : Value -> Shared -> Prop) : Cx :=
 { X with N := N', s₀ := s₂, H₀ := H₂, env := compEnvC scope (Z7 X.env.cells scope.names []) C X.env, outer := X.stack, ex := fp, fn := fun _ => false, pn := [], xe := xe }
section
variable {X : Cx} {pins : List (Addr × Obj)} {σ : St} {H₂ : Hp} {s₂ : Shared} {scope : Scope} {tn cn : List Str} {js : List Nat}
theorem CompSc.clos (S : CompSc X scope tn cn js) (ok : X.Ok) : ∀ y ∈ scope.names, y.2 = .free -> ∃ c, X.env.cells.lookup y.1 = some c := fun y hy e => ok.has y.1 (S.free y hy e)
theorem QL {env : Env} : ∀ {names : List (Str × NameKind)} {x : Str} {k : NameKind}, (names.map fun (n, k) => if (k == NameKind.free && env.scope.kind == .function && env.kindOf n == some .cell) then (n, NameKind.cell) else (n, k)).lookup x = some k ->
 (k = .cell \/ k = .free) -> (∀ y ∈ names, y.2 ≠ .cell) -> (x, NameKind.free) ∈ names
 | [], _, _, h, _, _ => by simp at h
 | (n, k0) :: r, x, k, h, hk, hc => by
  have ih := @QL env r x k
  have h : List.lookup x ((if (k0 == NameKind.free && env.scope.kind == .function && env.kindOf n == some .cell) = true then (n, NameKind.cell) else (n, k0)) :: _) = _ := h
  by_cases hb : (k0 == NameKind.free && env.scope.kind == .function && env.kindOf n == some .cell) = true
  · rw [if_pos hb, List.lookup_cons] at h
    have e0 : k0 = .free := by
     simp only [Bool.and_eq_true] at hb
     simpa using hb.1.1
    cases hx : x == n with
    | true =>
     have e : x = n := eq_of_beq hx
     subst e; subst e0
     exact List.mem_cons_self
    | false =>
     rw [hx] at h
     exact List.mem_cons_of_mem _ (ih h hk fun y hy => hc y (List.mem_cons_of_mem _ hy))
  · rw [if_neg hb, List.lookup_cons] at h
    cases hx : x == n with
    | true =>
     rw [hx] at h
     have e : x = n := eq_of_beq hx
     have e0 : k0 = k := Option.some.inj h
     subst e; subst e0
     rcases hk with hk | hk
     · exact absurd hk (hc (x, k0) List.mem_cons_self)
     · subst hk
       exact List.mem_cons_self
    | false =>
     rw [hx] at h
     exact List.mem_cons_of_mem _ (ih h hk fun y hy => hc y (List.mem_cons_of_mem _ hy))
theorem Zad {env : Env} : ∀ {names : List (Str × NameKind)} {x : Str}, names.lookup x = some .free ->
 (names.map fun (n, k) => if (k == NameKind.free && env.scope.kind == .function && env.kindOf n == some .cell) then (n, NameKind.cell) else (n, k)).lookup x = some .cell \/
 (names.map fun (n, k) => if (k == NameKind.free && env.scope.kind == .function && env.kindOf n == some .cell) then (n, NameKind.cell) else (n, k)).lookup x = some .free
 | [], _, h => by simp at h
 | (n, k0) :: r, x, h => by
  have ih := @Zad env r x
  show List.lookup x ((if (k0 == NameKind.free && env.scope.kind == .function && env.kindOf n == some .cell) = true then (n, NameKind.cell) else (n, k0)) :: _) = _ \/
   List.lookup x ((if (k0 == NameKind.free && env.scope.kind == .function && env.kindOf n == some .cell) = true then (n, NameKind.cell) else (n, k0)) :: _) = _
  cases hx : x == n with
  | true =>
   simp only [List.lookup_cons, hx] at h
   cases h
   by_cases hb : (NameKind.free == NameKind.free && env.scope.kind == .function && env.kindOf n == some .cell) = true
   · rw [if_pos hb]; simp [List.lookup_cons, hx]
   · rw [if_neg hb]; simp [List.lookup_cons, hx]
  | false =>
   simp only [List.lookup_cons, hx] at h
   by_cases hb : (k0 == NameKind.free && env.scope.kind == .function && env.kindOf n == some .cell) = true
   · rw [if_pos hb]; simp only [List.lookup_cons, hx]; exact ih h
   · rw [if_neg hb]; simp only [List.lookup_cons, hx]; exact ih h
theorem ZdU {C : Addr} {fp : List Addr} {xe : Value -> Shared -> Prop} (S : CompSc X scope tn cn js) (I : Inv X pins σ H₂ s₂) (hC : s₂.heap.objs.size <= C) (hf : ∀ b ∈ fp, Yr X pins H₂ b) (ho : ∀ b ∈ fp, ∃ o, s₂.heap.get? b = some o /\ ∀ v, o.data ≠ .cell v) :
 (X8 X scope (tn ++ cn) C s₂ H₂ fp xe).Ok where
 mod := I.ok.mod
 kind := S.kind
 glob := I.ok.glob
 blt := I.ok.blt
 above := hC
 inj := fun x y c h1 h2 => I.ok.inj x y c (Xh _ [] (S.clos I.ok) (fun _ z => by cases z) h1) (Xh _ [] (S.clos I.ok) (fun _ z => by cases z) h2)
 has := fun x hx => by
  refine QK _ _ (.inl ?_)
  rcases hx with hx | hx
  · exact QL (env := X.env) (k := .cell) hx (Or.inl (Eq.refl NameKind.cell)) S.nocell
  · exact QL (env := X.env) (k := .free) hx (Or.inr (Eq.refl NameKind.free)) S.nocell
 cab := fun x c h _ => by cases h
 hd := I.ok.hd
 frames := I.ok.frames
 stk := .inl rfl
 exf := fun b hb => by
  obtain ⟨o, e, _⟩ := ho b hb
  obtain ⟨_, _, _, _, f4, _⟩ := hf b hb
  exact ⟨Nat.ne_of_lt (Nat.lt_of_lt_of_le (Heap.lt_size e) hC), fun x c h => f4 x c (Xh _ [] (S.clos I.ok) (fun _ z => by cases z) h)⟩
 bs := I.bs
 bsz := Nat.le_trans I.ok.bsz I.sz
 noex := fun b o e hb => by
  obtain ⟨_, _, _, f3, _, _⟩ := hf b hb
  rcases f3 with z | z
  · exact I.ok.noex b o e z
  · exact absurd (Nat.lt_of_lt_of_le (Heap.lt_size (I.ok.bs b o e).1) z) (Nat.lt_irrefl _)
 exfs := fun b hb z => by
  obtain ⟨_, f1, f2, _, _, _⟩ := hf b hb
  exact (List.mem_cons.mp (I.stkSub b z)).elim f1 f2
 funs := I.stack
 frf := I.stkFree
theorem ZaH {C : Addr} {fp : List Addr} {s : Shared} {H : Hp} {m : Str -> Option Value} (S : CompSc X scope tn cn js) (I : Inv X pins σ H₂ s₂) (hf : ∀ b ∈ fp, Yr X pins H₂ b)
 (u : Un (frs X.stack) fp H₂ H s₂.heap s.heap) :
 ∀ (i : Nat) (x : Str) (v : V), (tn ++ cn)[i]? = some x -> (blk tn.length σ js)[i]? = some (some v) -> ∃ z, RelV v z /\ JQ (compEnvC scope (Z7 X.env.cells scope.names []) C X.env) s.heap m x z := by
 intro i x v e1 e2
 unfold blk at e2
 by_cases hi : i < tn.length
 · rw [List.getElem?_append_left (by simpa using hi), List.getElem?_replicate, if_pos hi] at e2
   cases e2
 · have hi' : tn.length <= i := by omega
   rw [List.getElem?_append_right hi'] at e1
   rw [List.getElem?_append_right (by simpa using hi'), List.length_replicate] at e2
   obtain ⟨j, hj, hN, hk, hm⟩ := S.cap _ _ e1
   unfold VH at e2
   rw [List.getElem?_map, hj] at e2
   have e3 : (σ[j]?).getD none = some v := Option.some.inj e2
   have e4 : σ[j]? = some (some v) := by
    cases q : σ[j]? with
    | none => rw [q] at e3; cases e3
    | some z => rw [q] at e3; exact congrArg some e3
   obtain ⟨m0, _, hl⟩ := I.loc
   have hv : Vis X.env.scope x := by
    rcases hk with hk | hk
    · exact .inr (.inl hk)
    · exact .inr (.inr hk)
   obtain ⟨z, rz, l⟩ := hl j x v hN e4 hv
   refine ⟨z, rz, ?_⟩
   obtain ⟨c, hc, ob, ho, hd⟩ : ∃ c, X.env.cells.lookup x = some c /\ s₂.heap.IsCell c (some z) := by
    rcases l with ⟨k, _⟩ | ⟨_, c, hc, q⟩
    · rcases hk with hk | hk
      · rw [hk] at k; cases k
      · rw [hk] at k; cases k
    · exact ⟨c, hc, q⟩
   obtain ⟨c', hc'⟩ := QK (cells := X.env.cells) (x := x) scope.names [] (.inl (PySem.mem_of_lookup hm))
   have ec : c' = c := by
    have := Xh _ [] (S.clos I.ok) (fun _ z => by cases z) hc'
    rw [hc] at this
    exact (Option.some.inj this).symm
   subst ec
   have nf : c' ∉ fp := fun hb => (hf c' hb).2.2.2.2.1 x c' hc rfl
   obtain ⟨sl, q⟩ := u.any ho (I.freeC x c' hc) nf
   exact .inr ⟨Zad hm, c', hc', ⟨_, q, hd⟩⟩
theorem ZbK (S : CompSc X scope tn cn js) : (blk tn.length σ js).length = (tn ++ cn).length := by
 unfold blk VH
 rw [List.length_append, List.length_append, List.length_replicate, List.length_map, S.len]
theorem Zbu {C : Addr} {fp : List Addr} {xe : Value -> Shared -> Prop} {s : Shared} {H : Hp} {σ' : St} {pins' : List (Addr × Obj)} (S : CompSc X scope tn cn js) (I : Inv X pins σ H₂ s₂) (hf : ∀ b ∈ fp, Yr X pins H₂ b)
 (I' : Inv (X8 X scope (tn ++ cn) C s₂ H₂ fp xe) pins' σ' H s) : Inv (X8 X scope (tn ++ cn) C s₂ H₂ fp xe) pins' (blk tn.length σ js) H s := by
 obtain ⟨m, hn, _⟩ := id I'.loc
 exact ⟨I'.ok, I'.os, I'.bare, I'.base, ⟨m, hn, fun i x v e1 e2 _ => ZaH S I hf I'.base i x v e1 e2⟩, I'.cell, I'.free, I'.freeC, I'.pin, I'.hok, ZbK S⟩
theorem Zbv {C D : Addr} {fp : List Addr} {xe : Value -> Shared -> Prop} {h : Heap} {tk : Nat} {ob : Obj} {m : Str -> Option Value} (S : CompSc X scope tn cn js) (I : Inv X pins σ H₂ s₂) (hC : s₂.heap.objs.size <= C) (hD : s₂.heap.objs.size <= D) (hDC : D ≠ C)
 (hf : ∀ b ∈ fp, Yr X pins H₂ b) (ho : ∀ b ∈ fp, ∃ o, s₂.heap.get? b = some o /\ ∀ v, o.data ≠ .cell v) (k : ∀ b o, s₂.heap.get? b = some o -> h.get? b = some o) (hn : h.Ns C m) (hob : h.get? D = some ob) (hcell : ∀ v, ob.data ≠ .cell v) :
 Inv (X8 X scope (tn ++ cn) C s₂ H₂ fp xe) [(D, ob)] (blk tn.length σ js) H₂ { s₂ with heap := h, toks := tk } := by
 have ok := ZdU (xe := xe) S I hC hf ho
 have u : Un (frs X.stack) fp H₂ H₂ s₂.heap h := Un.kept k
 refine ⟨ok, rfl, I.bare, u, ⟨m, hn, fun i x v e1 e2 _ => ZaH (s := { s₂ with heap := h, toks := tk }) S I hf u i x v e1 e2⟩, fun x c e => ?_, I.hok.fresh hC, fun x c e => ?_, fun p hp => ?_, I.hok.kept k, ZbK S⟩
 · obtain ⟨v, o, q, d⟩ := I.cell x c (Xh _ [] (S.clos I.ok) (fun _ z => by cases z) e)
   exact ⟨v, o, k c o q, d⟩
 · exact I.freeC x c (Xh _ [] (S.clos I.ok) (fun _ z => by cases z) e)
 · have e : p = (D, ob) := by
    have : p ∈ ([] : List (Addr × Obj)) ++ [(D, ob)] := hp
    simpa using this
   subst e
   refine ⟨hob, I.hok.fresh hD, hDC, fun z => ?_, hcell⟩
   have z : D ∈ frs X.stack := z
   rcases List.mem_cons.mp (I.stkSub D z) with e | e
   · exact absurd (Nat.lt_of_lt_of_le I.lt (by rw [<- e]; exact hD)) (Nat.lt_irrefl _)
   · exact I.nofs hD e
theorem Za6 {C D : Addr} {fp : List Addr} {xe : Value -> Shared -> Prop} {s : Shared} {H : Hp} {σ' : St} {ys : List V} {its : List Value} {n : Nat} {h' : Heap} (S : CompSc X scope tn cn js) (I : Inv X pins σ H₂ s₂) (hC : s₂.heap.objs.size <= C) (hD : s₂.heap.objs.size <= D) (hDC : D ≠ C)
 (hf : ∀ b ∈ fp, Yr X pins H₂ b) (I' : Inv (X8 X scope (tn ++ cn) C s₂ H₂ fp xe) [(D, { cls := .type "list", data := .seq its.toArray n })] σ' H s) (hv : Vals ys its) (hz : ys.length <= sizeLine) (hs : Heap.SameBut C s.heap h') :
 Inv X pins σ (upd H D (.lst ys)) { s with heap := h' } := by
 have pd := I'.pin (D, { cls := .type "list", data := .seq its.toArray n }) (List.mem_append_right _ List.mem_cons_self)
 have pd1 : s.heap.get? D = some { cls := .type "list", data := .seq its.toArray n } := pd.1
 have pd2 : H D = none := pd.2.1
 have hD' : h'.get? D = some { cls := .type "list", data := .seq its.toArray n } := (hs.2 D hDC).trans pd1
 have hCf : H C = none := I'.free
 have old : ∀ b o, s₂.heap.get? b = some o -> b ≠ C /\ b ≠ D := fun b o e => ⟨Nat.ne_of_lt (Nat.lt_of_lt_of_le (Heap.lt_size e) hC), Nat.ne_of_lt (Nat.lt_of_lt_of_le (Heap.lt_size e) hD)⟩
 have u := I'.base
 have u : Un (frs X.stack) fp H₂ H s₂.heap s.heap := u
 refine I.call' (s' := { s with heap := h' }) (ch := fp) (H' := upd H D (.lst ys)) I'.os ⟨fun b o e n hb hx => ?_, fun b o e n hb hx => ?_, fun b o e n hx => ?_, fun b o e hx => ?_, fun b xs e => ?_, fun b o xs e => ?_, fun b ps e => ?_⟩ (fun b o e => ?_) I'.bare (fun b hb => ?_)
 · exact (hs.2 b (old b o e).1).trans (u.keep b o e n hb hx)
 · obtain ⟨sl, q⟩ := u.slot b o e n hb hx
   exact ⟨sl, (hs.2 b (old b o e).1).trans q⟩
 · rw [Zs (old b o e).2]
   exact u.free b o e n hx
 · obtain ⟨o', q⟩ := u.there b o e hx
   exact ⟨o', (hs.2 b (old b o e).1).trans q⟩
 · have q := u.tups b xs e
   rw [Zs (YC q pd2)]
   exact q
 · have q := u.frzs b o xs e
   rw [Zs (YC q pd2)]
   exact q
 · obtain ⟨more, q⟩ := u.tbls b ps e
   exact ⟨more, by rw [Zs (YC q pd2)]; exact q⟩
 · by_cases hb : b = D
   · subst hb
     rw [ZJ] at e
     cases e
     exact ⟨hz, its, n, hv, hD'⟩
   · rw [Zs hb] at e
     refine (I'.hok b o e).stay (fun c v hc q => (hs.2 c ?_).trans q) (fun c q => by rw [Zs (YC q pd2)]; exact q) fun c xs q => by rw [Zs (YC q pd2)]; exact q
     rintro rfl
     rcases hc with rfl | hc
     · rw [hCf] at e; cases e
     · rw [hCf] at hc; cases hc
 · obtain ⟨f0, f1, f2, f3, f4, f5⟩ := hf b hb
   exact ⟨f3, f1, f4, f5⟩
end
def PTs (X : Cx) (ifs : List Expr) (t : TT) : Prop :=
 ∀ (pins : List (Addr × Obj)) (s : Shared) (σ : St) (H : Hp) (Q : Bool -> Hp -> Prop), Inv X pins σ H s -> t σ H Q ->
  wpAny (model X.prog X.w) X.A (forIn ifs true fun c r => if r = true then do let ok <- isTrue c X.env (eval c X.env); pure (ForInStep.yield ok) else pure (ForInStep.yield r)) (TP X pins σ Q) X.xe s
def tYes : TT := fun _ H Q => Q true H
theorem VL {X : Cx} : PTs X [] tYes := fun _ _ _ H _ I h => wpAny_tests_nil ⟨H, I, h⟩
theorem ZdV {X : Cx} {c : Expr} {t : TT} (h : PT X c t) : PTs X [c] t := fun pins s σ H Q I q => wpAny_tests_one (h pins s σ H Q I q)
def Ur (wi : TI) (g : TG) (tt : TT) (te : TE) (n : Nat) (js : List Nat) : TE := fun σ H Q => wi σ H fun J H1 =>
 ∃ W : Nat -> Nat -> List V -> Hp -> Prop, (∃ m, W 0 m [] H1) /\ ∀ i m ys H, W i m ys H ->
  (J.stop i H /\ ∀ p, H p = none -> Q (.ref p) (upd H p (.lst ys))) \/
  (J.go i H /\ ∀ x H', J.yld i H x H' -> g x (blk n σ js) H' fun σ2 H2 => tt σ2 H2 fun b H3 =>
    if b = true then te σ2 H3 fun y H4 => ys.length < sizeLine /\ ∃ m', m' < m /\ W (i + 1) m' (ys ++ [y]) H4 else ∃ m', m' < m /\ W (i + 1) m' ys H3)
section
variable {X : Cx} {tg iter elt : Expr} {ifs : List Expr} {scope : Scope} {pos : Pos} {wi : TI} {g : TG} {tt : TT} {te : TE} {tn cn : List Str} {js : List Nat}
abbrev Yw (X : Cx) (scope : Scope) (N' : List Str) (C : Addr) (s₂ : Shared) (H₂ : Hp) (fp : List Addr) : Cx := X8 X scope N' C s₂ H₂ fp fun _ _ => False
theorem X9 {α : Type} {M : Model} {A : Around} {m : Sem α} {Q : α -> Shared -> Prop} {E : Value -> Shared -> Prop} {s : Shared} (h : wpAny M A m Q (fun _ _ => False) s) : wpAny M A m Q E s := wpAny_mono h (fun _ _ q => q) fun _ _ z => z.elim
theorem Zap {pins : List (Addr × Obj)} {σ : St} {H₂ : Hp} {s₂ : Shared} {it : Addr} {fp : List Addr} {tnx : Nat -> Heap -> Prop} {J : It} {E : Value -> Shared -> Prop} {RR : Value -> Addr -> Result -> Shared -> Prop} {W : Nat -> Nat -> List V -> Hp -> Prop} {m0 : Nat}
 (hc : X.calm = true) (S : CompSc X scope tn cn js)
 (hg : ∀ C s₂ H₂ fp, PG (Yw X scope (tn ++ cn) C s₂ H₂ fp) tg g) (ht : ∀ C s₂ H₂ fp, PTs (Yw X scope (tn ++ cn) C s₂ H₂ fp) ifs tt) (he : ∀ C s₂ H₂ fp, PE (Yw X scope (tn ++ cn) C s₂ H₂ fp) elt te)
 (I2 : Inv X pins σ H₂ s₂) (T : Turn X.prog X.w X.K tg J fp it tnx) (st2 : tnx 0 s₂.heap) (f2 : ∀ b ∈ fp, Yr X pins H₂ b) (w0 : W 0 m0 [] H₂)
 (turn : ∀ i m ys H, W i m ys H -> (J.stop i H /\ ∀ C D s its n σ', s₂.heap.objs.size <= C -> s₂.heap.objs.size <= D -> D ≠ C -> Vals ys its -> ys.length <= sizeLine ->
   Inv (Yw X scope (tn ++ cn) C s₂ H₂ fp) [(D, { cls := .type "list", data := .seq its.toArray n })] σ' H s -> RR (.ref D) C (.ok .next) s) \/
   (J.go i H /\ ∀ x H', J.yld i H x H' -> g x (blk tn.length σ js) H' fun σ2 H2 => tt σ2 H2 fun b H3 =>
     if b = true then te σ2 H3 fun y H4 => ys.length < sizeLine /\ ∃ m', m' < m /\ W (i + 1) m' (ys ++ [y]) H4 else ∃ m', m' < m /\ W (i + 1) m' ys H3)) :
 wpAny (model X.prog X.w) X.A (newList []) (fun acc s₃ => wpAny (model X.prog X.w) X.A (newFunctionEnv scope X.env.globals (Z7 X.env.cells scope.names []) [] X.env.qual none .none (some X.env)) (fun cenv s₄ =>
  codeAny (model X.prog X.w) X.A (.compStart (.ListComp elt [⟨tg, iter, ifs, 0⟩] scope pos) 0 (.ref it) acc { cenv with scope := relabel scope X.env }) (RR acc cenv.locals) s₄) E s₃) E s₂ := by
 refine wpAny_newObj_type (wpAny_newFunctionEnv S.nocell (by intro y hy; simp at hy) (fun h₁ hns₁ hsb₁ => ?_) S.kind)
 dsimp only at hns₁ hsb₁ ⊢
 generalize hH2 : s₂.heap.push { cls := .type "list", dict := none, data := .seq ([] : List Value).toArray } = HH at hns₁ hsb₁ ⊢
 have hCs : HH.objs.size = s₂.heap.objs.size + 1 := by rw [<- hH2, Heap.size_push]
 have hDC : s₂.heap.objs.size ≠ HH.objs.size := by rw [hCs]; exact Nat.ne_of_lt (Nat.lt_succ_self _)
 have hC : s₂.heap.objs.size <= HH.objs.size := by rw [hCs]; exact Nat.le_succ _
 have hD : s₂.heap.objs.size <= s₂.heap.objs.size := Nat.le_refl _
 have old : ∀ b o, s₂.heap.get? b = some o -> h₁.get? b = some o := fun b o e => hsb₁.extBut b o (by rw [hCs]; exact Nat.ne_of_lt (Nat.lt_succ_of_lt (Heap.lt_size e))) (Heap.get?_push_of_some _ (hH2 ▸ Heap.get?_push_of_some _ e))
 have hacc : h₁.get? s₂.heap.objs.size = some { cls := .type "list", dict := none, data := .seq ([] : List Value).toArray } := hsb₁.extBut _ _ hDC (Heap.get?_push_of_some _ (hH2 ▸ Heap.get?_push_size _ rfl))
 have hob := T.obj _ _ st2
 have I3 : Inv (Yw X scope (tn ++ cn) HH.objs.size s₂ H₂ fp) [(s₂.heap.objs.size, { cls := .type "list", dict := none, data := .seq ([] : List Value).toArray })] (blk tn.length σ js) H₂ { s₂ with heap := h₁, toks := s₂.toks + ([] : List (Str × Value)).length } :=
  Zbv S I2 hC hD hDC f2 hob old hns₁ hacc (fun v z => by cases z)
 have st3 : tnx 0 h₁ := T.keep _ _ _ st2 fun b hb o e => old b o e
 generalize hX' : Yw X scope (tn ++ cn) HH.objs.size s₂ H₂ fp = X' at I3
 generalize hs3 : ({ s₂ with heap := h₁, toks := s₂.toks + ([] : List (Str × Value)).length } : Shared) = s3 at I3 ⊢
 have st3' : tnx 0 s3.heap := by rw [<- hs3]; exact st3
 have stat : ∀ {pins' : List (Addr × Obj)} {H' : Hp}, (∀ b ∈ fp, H' b = none) -> (∀ p ∈ pins', p.1 = s₂.heap.objs.size) -> ∀ b ∈ fp, Yr X' pins' H' b := fun {pins' H'} hn hp b hb => by
  subst hX'
  obtain ⟨o, e, _⟩ := hob b hb
  obtain ⟨f0, f1, f2', f3, f4, f5⟩ := f2 b hb
  refine ⟨hn b hb, Nat.ne_of_lt (Nat.lt_of_lt_of_le (Heap.lt_size e) hC), fun z => (List.mem_cons.mp (I2.stkSub b z)).elim f1 f2', .inl hb, fun x c h => f4 x c (Xh _ [] (S.clos I2.ok) (fun _ z => by cases z) h), fun p hpp => ?_⟩
  have : p ∈ pins' := by
   have q : p ∈ ([] : List (Addr × Obj)) ++ pins' := hpp
   simpa using q
  rw [hp p this]
  exact Nat.ne_of_gt (Heap.lt_size e)
 have loop : codeAny (model X.prog X.w) X.A (.compLoop (.ListComp elt [⟨tg, iter, ifs, 0⟩] scope pos) 0 (.ref it) (.ref s₂.heap.objs.size) X'.env) (RR (.ref s₂.heap.objs.size) HH.objs.size) s3 := by
  refine ZaV (fun k s' => ∃ i ys its n H', Inv X' [(s₂.heap.objs.size, { cls := .type "list", data := .seq its n })] (blk tn.length σ js) H' s' /\ Vals ys its.toList /\ ys.length <= sizeLine /\ tnx i s'.heap /\ (∀ b ∈ fp, H' b = none) /\ W i k ys H') ?_ m0
   ⟨0, [], #[], 0, H₂, I3, .nil, Nat.zero_le _, st3', fun b hb => (f2 b hb).1, w0⟩
  rintro k s4 ⟨i, ys, its, n, H4, I4, hv4, hz4, st4, fr4, w4⟩
  have eP : X'.prog = X.prog := by rw [<- hX']; rfl
  have eW : X'.w = X.w := by rw [<- hX']; rfl
  have eK : X'.K = X.K := by rw [<- hX']; rfl
  have eA : X'.A = X.A := by rw [<- hX']; rfl
  have eC : X'.calm = true := by rw [<- hX']; exact hc
  have eE : X'.xe = fun _ _ => False := by rw [<- hX']; rfl
  rcases turn i k ys H4 w4 with ⟨stop, qn⟩ | ⟨go, step⟩
  · have z := T.done X' eP eW eK eC i _ s4 (blk tn.length σ js) H4 (fun _ _ => False) I4 (stat fr4 (fun p hp => by simp at hp; rw [hp])) st4 stop
    rw [eA] at z
    refine X9 (thn z fun r s5 ⟨hr, I5⟩ => ?_)
    subst hr
    subst hX'
    exact qn _ _ s5 its.toList n _ hC hD hDC hv4 hz4 (by simpa using I5)
  · have z := T.item X' eP eW eK eC i _ s4 (blk tn.length σ js) H4 (fun _ _ => False) I4 (stat fr4 (fun p hp => by simp at hp; rw [hp])) st4 go
    rw [eA] at z
    refine X9 (thn z fun r s5 ⟨u, hr, h5⟩ => ?_)
    subst hr
    refine X9 (thn h5 fun _ s6 ⟨x, H6, I6, r6, y6, st6, fr6⟩ => ?_)
    have I6' := I6.pinned (stat fr6 (fun p hp => by simp at hp; rw [hp])) (T.obj _ _ st6)
    have hg' : PG X' tg g := by rw [<- hX']; exact hg _ _ _ _
    have ht' : PTs X' ifs tt := by rw [<- hX']; exact ht _ _ _ _
    have he' : PE X' elt te := by rw [<- hX']; exact he _ _ _ _
    have z7 := hg' _ s6 _ H6 x u _ I6' r6 (step x H6 y6)
    rw [eP, eW, eA, eE] at z7
    refine X9 (thn z7 fun _ s7 ⟨σ7, H7, I7, q7⟩ => ?_)
    have z8 := ht' _ s7 σ7 H7 _ I7 q7
    rw [eP, eW, eA, eE] at z8
    refine X9 (thn z8 fun ok s8 ⟨H8, I8, q8⟩ => ?_)
    have key : ∀ {σ9 : St} {H9 : Hp} {s9 : Shared} {its' : Array Value} {n' : Nat}, Inv X' ([(s₂.heap.objs.size, { cls := .type "list", data := .seq its' n' })] ++ YQ fp s6.heap) σ9 H9 s9 ->
     Inv X' [(s₂.heap.objs.size, { cls := .type "list", data := .seq its' n' })] (blk tn.length σ js) H9 s9 /\ tnx (i + 1) s9.heap /\ ∀ b ∈ fp, H9 b = none := fun {σ9 H9 s9 its' n'} I9 => by
     refine ⟨?_, T.keep _ _ _ st6 fun b hb o e => (I9.pin (b, o) (List.mem_append_right _ (List.mem_append_right _ (Uj hb e)))).1, fun b hb => ?_⟩
     · have I9' := I9.unpinned
       subst hX'
       exact Zbu S I2 f2 I9'
     · obtain ⟨o, e, d⟩ := T.obj _ _ st6 b hb
       exact (I9.pin (b, o) (List.mem_append_right _ (List.mem_append_right _ (Uj hb e)))).2.1
    cases ok with
    | false =>
     rw [if_neg Bool.false_ne_true] at q8 ⊢
     obtain ⟨m', hm, w8⟩ := q8
     obtain ⟨I9, st9, fr9⟩ := key I8
     exact ⟨m', hm, i + 1, ys, its, n, H8, I9, hv4, hz4, st9, fr9, w8⟩
    | true =>
     rw [if_pos rfl] at q8 ⊢
     have z9 := he' _ s8 σ7 H8 _ I8 q8
     rw [eP, eW, eA, eE] at z9
     refine X9 (thn z9 fun v s9 ⟨y, H9, I9, r9, hl9, m', hm, w9⟩ => ?_)
     have pd := I9.pin (s₂.heap.objs.size, { cls := .type "list", data := .seq its n }) (List.mem_append_right _ (List.mem_append_left _ List.mem_cons_self))
     have hpl : s9.heap.PlainList s₂.heap.objs.size its := ⟨n, pd.1⟩
     have hlen : its.size = ys.length := by rw [hv4.length]; simp
     refine wpAny_list_append_plain (hsz := by omega) hpl fun h10 hl10 hs10 => ?_
     obtain ⟨n10, e10⟩ := hl10
     have I10 : Inv X' (YQ fp s6.heap) σ7 H9 s9 := I9.pins_of fun p hp => I9.pin p (List.mem_append_right _ (List.mem_append_right _ hp))
     have nD : ∀ b ∈ fp, b ≠ s₂.heap.objs.size := fun b hb => by
      obtain ⟨o, e, _⟩ := hob b hb
      exact Nat.ne_of_lt (Heap.lt_size e)
     have I11 : Inv X' (YQ fp s6.heap) σ7 H9 { s9 with heap := h10 } := by
      refine I10.turned (t' := s9.toks) (it := s₂.heap.objs.size) (fun b o hb e => (hs10.2 b hb).trans e) pd.2.1 pd.2.2.1 ?_ ?_ ?_
      · subst hX'; exact .inr (Nat.le_refl _)
      · subst hX'
        intro x c h
        obtain ⟨v', o', q, _⟩ := I2.cell x c (Xh _ [] (S.clos I2.ok) (fun _ z => by cases z) h)
        exact Nat.ne_of_lt (Heap.lt_size q)
      · intro p hp
        have hp' : p ∈ YQ fp s6.heap := by
         subst hX'
         have q : p ∈ ([] : List (Addr × Obj)) ++ YQ fp s6.heap := hp
         simpa using q
        exact nD _ (Zay hp').1
     have I12 : Inv X' ([(s₂.heap.objs.size, { cls := .type "list", data := .seq (its.push v) n10 })] ++ YQ fp s6.heap) σ7 H9 { s9 with heap := h10 } := I11.pins_of fun p hp => by
      rcases List.mem_append.mp hp with q | q
      · have e : p = (s₂.heap.objs.size, { cls := .type "list", data := .seq (its.push v) n10 }) := by simpa using q
        subst e
        exact ⟨e10, pd.2.1, pd.2.2.1, pd.2.2.2.1, fun v z => by cases z⟩
      · exact I11.pin p (List.mem_append_right _ q)
     obtain ⟨J1, J2, J3⟩ := key I12
     refine ⟨m', hm, i + 1, ys ++ [y], its.push v, n10, H9, J1, ?_, ?_, J2, J3, w9⟩
     · have : (its.push v).toList = its.toList ++ [v] := by simp
       rw [this]
       exact hv4.append (.cons r9 .nil)
     · rw [List.length_append, List.length_singleton]
       omega
 have eEnv : ({ newEnv scope HH.objs.size X.env.globals (Z7 X.env.cells scope.names []) X.env.qual none .none (some X.env) builtinsNs with scope := relabel scope X.env } : Env) = X'.env := by rw [<- hX']; rfl
 have loop2 := loop
 rw [<- eEnv] at loop loop2
 exact codeAny_compStart_list loop (T.self X.A 0 s3 _ _ st3' loop2)
theorem QM (hc : X.calm = true) (S : CompSc X scope tn cn js) (hi : PI X tg iter wi)
 (hg : ∀ C s₂ H₂ fp, PG (Yw X scope (tn ++ cn) C s₂ H₂ fp) tg g) (ht : ∀ C s₂ H₂ fp, PTs (Yw X scope (tn ++ cn) C s₂ H₂ fp) ifs tt) (he : ∀ C s₂ H₂ fp, PE (Yw X scope (tn ++ cn) C s₂ H₂ fp) elt te)
 (hs : ∀ x, foldedSetIterable iter X.env x = pure x := by intro _; rfl) :
 PE X (.ListComp elt [⟨tg, iter, ifs, 0⟩] scope pos) (Ur wi g tt te tn.length js) := by
 intro pins s σ H Q I h
 rw [eval_ListComp]
 refine wpAny_comprehension_free (use := none) (cl := Z7 X.env.cells scope.names []) rfl hs (Zab (S.clos I.ok)) S.kind S.names (thn (hi pins s σ H _ I h) fun v s1 h1 => thn h1 fun itv s2 h2 => ?_)
 obtain ⟨it, fp, tnx, J, H2, e, I2, T, st2, f2, W, ⟨m0, w0⟩, turn⟩ := h2
 subst e
 refine Zap (RR := fun acc C => compPost (model X.prog X.w) X.A X.xe none (EP X pins σ Q) acc C) (W := W) (m0 := m0) hc S hg ht he I2 T st2 f2 w0 fun i m ys H w => ?_
 rcases turn i m ys H w with ⟨stop, qn⟩ | r
 · refine .inl ⟨stop, fun C D s its n σ' hC hD hDC hv hz I' => ?_⟩
   obtain ⟨m', hn, _⟩ := id I'.loc
   refine ⟨m', hn, fun h' hs' => ?_⟩
   have pd := I'.pin (D, { cls := .type "list", data := .seq its.toArray n }) (List.mem_append_right _ List.mem_cons_self)
   exact ⟨.ref D, _, Za6 S I2 hC hD hDC f2 I' hv hz hs', rfl, qn D pd.2.1⟩
 · exact .inr r
end
end L2
namespace L2
open PySem PySem.Spec PyProof.Rows
abbrev S (cs : List Nat) : V := .str (tx cs)
theorem Zf1 {a b : List Nat} : S a = S b ↔ a = b := by
 constructor
 · intro h
   exact tx_inj.mp (V.str.inj h)
 · rintro rfl; rfl
section
variable {X : Cx} {pos : Pos}
theorem Us {x : Str} {j : Nat} (cs : List Nat) (h : x = tx cs) : PE X (.Constant (.str x) j pos) (tC (S cs)) := by
 subst h
 exact Zfc
def Its (cs : List Nat) : It := ⟨fun i _ => i < cs.length, fun i H v H' => H' = H /\ ∃ c, cs[i]? = some c /\ v = S [c], fun i _ => cs.length <= i⟩
theorem Ut (x : Str) : strIterType x = "str_ascii_iterator" \/ strIterType x = "str_iterator" := by
 unfold strIterType
 split
 · exact .inl rfl
 · exact .inr rfl
theorem ZcR {P : Program} {w : World} {K : PySem.W.Frag} {tg : Expr} (it : Addr) (cs : List Nat) (t : Tok) : Turn P w K tg (Its cs) [it] it (fun i h => h.IsStrIter it (strIterType (tx cs)) (tx cs) t i) where
 mem := by simp
 obj := fun i h st b hb => by
  have e : b = it := by simpa using hb
  subst e
  obtain ⟨o, e, c, d⟩ := st
  exact ⟨o, e, fun v z => by rw [d] at z; cases z⟩
 keep := fun i h h' st k => by
  obtain ⟨o, e, r⟩ := st
  exact ⟨o, k it (by simp) o e, r⟩
 item := by
  intro X hP hw hK hc i pins s σ H E I hf st hg
  subst hP hw hK
  obtain ⟨f0, f1, f2, f3, f4, f5⟩ := hf it (by simp)
  have hg : i < cs.length := hg
  have hx : (tx cs).cps[i]? = some cs[i] := by simp [tx, hg]
  have fin : ∀ (h' : Heap), h'.IsStrIter it (strIterType (tx cs)) (tx cs) t (i + 1) -> Heap.SameBut it s.heap h' ->
   ∃ u, some (Value.str ⟨#[cs[i]]⟩ s.toks) = some u /\ wpAny (model X.prog X.w) X.A (letOwnedTupleGo tg (.ref it) u) (fun _ s2 => ∃ x H', Inv X pins σ H' s2 /\ RelV x u /\ (Its cs).yld i H x H' /\ s2.heap.IsStrIter it (strIterType (tx cs)) (tx cs) t (i + 1) /\ ∀ b ∈ [it], H' b = none) E { s with heap := h', toks := s.toks + 1 } := fun h' st' sb => by
   have I1 : Inv X pins σ H { s with heap := h', toks := s.toks + 1 } := I.turned (fun b o hb e => (sb.2 b hb).trans e) f0 f1 f3 f4 f5
   obtain ⟨o, e, hc', d⟩ := id st'
   refine ⟨_, rfl, Ui (s := { s with heap := h', toks := s.toks + 1 }) e hc' d ?_ ⟨S [cs[i]], H, I1, ⟨s.toks, rfl⟩, ⟨rfl, cs[i], by simp [hg], rfl⟩, st', fun b hb => (hf b hb).1⟩⟩
   rcases Ut (tx cs) with z | z <;> rw [z] <;> decide
  rcases Ut (tx cs) with z | z
  · rw [z] at st
    refine wpAny_pyNext_ascii_item st hx fun h' st' sb => fin h' (by rw [z]; exact st') sb
  · rw [z] at st
    refine wpAny_pyNext_wide_item st hx fun h' st' sb => fin h' (by rw [z]; exact st') sb
 done := by
  intro X hP hw hK hc i pins s σ H E I hf st hg
  subst hP hw hK
  obtain ⟨f0, f1, f2, f3, f4, f5⟩ := hf it (by simp)
  have hg : cs.length <= i := hg
  have hx : (tx cs).cps[i]? = none := by simp [tx]; omega
  rcases Ut (tx cs) with z | z
  · rw [z] at st
    exact wpAny_pyNext_ascii_end (I.ok.hd hc) st hx fun h' eb => ⟨rfl, I.turned (t' := s.toks) (fun b o hb e => eb b o hb e) f0 f1 f3 f4 f5⟩
  · rw [z] at st
    exact wpAny_pyNext_wide_end (I.ok.hd hc) st hx fun h' eb => ⟨rfl, I.turned (t' := s.toks) (fun b o hb e => eb b o hb e) f0 f1 f3 f4 f5⟩
 self := fun _ i _ _ _ st h => by
  rcases Ut (tx cs) with z | z
  · rw [z] at st
    exact wpAny_pyIter_striter_ascii st h
  · rw [z] at st
    exact wpAny_pyIter_striter_wide st h
variable {tg : Expr}
def QN (K : PySem.W.Frag) (tl : TE) : TI := fun σ H R => tl σ H fun x H1 => (∃ a xs, x = .ref a /\ SqL K H1 a xs /\ R (Itl K a) H1) \/ (∃ a xs, x = .ref a /\ SqT K H1 a xs /\ R (Itt K a) H1) \/ ∃ cs, x = S cs /\ R (Its cs) H1
theorem Zfk {l : Expr} {tl : TE} (hl : PE X l tl) : PI X tg l (QN X.K tl) := by
 intro pins s σ H R I h
 refine thn (hl pins s σ H _ I h) fun v s1 ⟨x, H1, I1, r1, q1⟩ => ?_
 rcases q1 with ⟨a, xs, e, hq, q⟩ | ⟨a, xs, e, hq, q⟩ | ⟨cs, e, q⟩
 · subst e
   cases r1
   obtain ⟨its, rv, p, hz⟩ := I1.list hq
   refine wpAny_pyIter_list p.isList ?_
   refine ⟨s1.heap.objs.size, [s1.heap.objs.size], _, _, H1, rfl, I1.kept (t' := s1.toks) fun b o e => Heap.get?_push_of_some _ e, Zcc a _, ⟨_, Heap.get?_push_size _ rfl, rfl, rfl⟩, fun b hb => ?_, q⟩
   have e : b = s1.heap.objs.size := by simpa using hb
   subst e
   exact I1.fpOk (Nat.le_refl _) (I1.hok.fresh (Nat.le_refl _))
 · have hpi := Zff (X := X) (tg := tg) (l := l) (tl := fun _ H Q => Q (.ref a) H)
   subst e
   cases r1
   obtain ⟨its, rv, p, hz⟩ := I1.tuple hq
   refine wpAny_pyIter_tuple (show s1.heap.IsTuple a its.toArray from p) ?_
   refine ⟨s1.heap.objs.size, [s1.heap.objs.size], _, _, H1, rfl, I1.kept (t' := s1.toks) fun b o e => Heap.get?_push_of_some _ e, Zao a _, ⟨_, Heap.get?_push_size _ rfl, rfl, rfl⟩, fun b hb => ?_, q⟩
   have e : b = s1.heap.objs.size := by simpa using hb
   subst e
   exact I1.fpOk (Nat.le_refl _) (I1.hok.fresh (Nat.le_refl _))
 · subst e
   obtain ⟨t, rfl⟩ := r1
   refine wpAny_pyIter_strU ?_
   refine ⟨s1.heap.objs.size, [s1.heap.objs.size], _, _, H1, rfl, I1.kept (t' := s1.toks) fun b o e => Heap.get?_push_of_some _ e, ZcR _ cs t, ⟨_, Heap.get?_push_size _ rfl, rfl, rfl⟩, fun b hb => ?_, q⟩
   have e : b = s1.heap.objs.size := by simpa using hb
   subst e
   exact I1.fpOk (Nat.le_refl _) (I1.hok.fresh (Nat.le_refl _))
def rAddS : R2 := fun x y H Q => ∃ a b, x = S a /\ y = S b /\ a.length + b.length <= sizeLine /\ Q (S (a ++ b)) H
theorem op_addS : OpR X (binaryOp .Add) rAddS := by
 intro pins s σ H x y v u Q I rx ry h
 obtain ⟨a, b, rfl, rfl, hz, q⟩ := h
 refine Zbn pins s σ H _ _ v u Q I rx ry ⟨tx a, tx b, rfl, rfl, by rw [Yv, Yv]; exact hz, ?_⟩
 rw [QF]
 exact q
def Zf2 : R2 := fun x y H Q => rI0 (fun i j => .int (i + j)) x y H Q \/ rAddS x y H Q \/ Zg0 x y H Q
def QO (neg : Bool) : R2 := fun x y H Q => ∃ c b, x = S [c] /\ y = S b /\ Q (.bl (neg != decide (c ∈ b))) H
theorem op_inS : OpR X (compareOp .In) (QO false) := by
 intro pins s σ H x y v u Q I rx ry h
 obtain ⟨c, b, rfl, rfl, q⟩ := h
 refine Zcd pins s σ H _ _ v u Q I rx ry ⟨tx [c], tx b, rfl, rfl, ?_⟩
 have e := StrLaws.found_one (tx b) c
 rw [XL] at e
 rw [show tx [c] = (⟨#[c]⟩ : Str) from rfl, e]
 simpa using q
theorem op_notInS : OpR X (compareOp .NotIn) (QO true) := by
 intro pins s σ H x y v u Q I rx ry h
 obtain ⟨c, b, rfl, rfl, q⟩ := h
 refine ZaQ pins s σ H _ _ v u Q I rx ry ⟨tx [c], tx b, rfl, rfl, ?_⟩
 have e := StrLaws.found_one (tx b) c
 rw [XL] at e
 rw [show tx [c] = (⟨#[c]⟩ : Str) from rfl, e]
 simpa using q
def Va (K : PySem.W.Frag) (neg : Bool) : R2 := fun x y H Q => QO neg x y H Q \/ rIn K neg x y H Q
theorem Zfl : OpR X (compareOp .In) (Va X.K false) := op_inS.or Zck
theorem Zcn : OpR X (compareOp .NotIn) (Va X.K true) := op_notInS.or ZaR
def rIxSt : R2 := fun x y H Q => ∃ a i c, x = S a /\ y = .int i /\ a.length <= sizeLine /\ atI a i = some c /\ Q (S [c]) H
theorem Zg1 : IxR X rIxSt := by
 intro value slice pins s σ H x y v u Q I rx ry h hs
 obtain ⟨a, i, c, rfl, rfl, hz, he, q⟩ := h
 exact ix_str value slice pins s σ H _ _ v u Q I rx ry ⟨tx a, i, c, rfl, rfl, by rw [Yv]; exact hz, by rw [XL]; exact he, q⟩ hs
def Uu (K : PySem.W.Frag) : R2 := fun x y H Q => ZgP K x y H Q \/ ZgQ K x y H Q \/ rIxSt x y H Q
theorem Zg2 : IxR X (Uu X.K) := ix_list.or (ix_tup.or Zg1)
def QP (K : PySem.W.Frag) : List V -> Hp -> VK -> Prop := fun xs H Q => (∃ a, xs = [S a] /\ a.length <= sizeLine /\ Q (.int a.length) H) \/ ∃ p ys, xs = [.ref p] /\ (SqL K H p ys \/ SqT K H p ys) /\ Q (.int ys.length) H
theorem Zco : ZW X (.builtin "len") (QP X.K) := by
 intro pins s σ H xs us Q I rs q
 rcases q with ⟨a, rfl, hz, q⟩ | q
 · exact ZaT pins s σ H _ us Q I rs ⟨tx a, rfl, by rw [Yv]; exact hz, by rw [Yv]; exact q⟩
 · exact ZaS pins s σ H xs us Q I rs q
def rIntX : List V -> Hp -> VK -> Prop := fun xs H Q => (∃ a, xs = [S a] /\ a.length <= 640 /\ a ≠ [] /\ a.all Uq = true /\ Q (.int (QG a : Nat)) H) \/ (∃ k, xs = [.bl k] /\ Q (.int (if k then 1 else 0)) H)
theorem Zcp : ZW X (.type "int") rIntX := by
 intro pins s σ H xs us Q I rs h
 rcases h with ⟨a, rfl, hl, hne, hd, q⟩ | h
 · obtain ⟨u, rfl, t, rfl⟩ := Yu rs
   have hd' : PySem.NumText.AllDigits (tx a).cps.toList := by
    rw [XL]
    intro c hc
    have := List.all_eq_true.mp hd c hc
    unfold Uq at this
    rw [Bool.and_eq_true, decide_eq_true_eq, decide_eq_true_eq] at this
    exact this
   have e := PySem.intText_digits hd' (by rw [XL]; exact hne) (by rw [Yv]; omega)
   rw [XL] at e
   exact PySem.W.KIN.call_text e (by rw [Yv]; exact hl) ⟨.int (QG a : Nat), H, I.tok _, ⟨_, rfl⟩, q⟩
 · exact Zcf pins s σ H xs us Q I rs (.inr h)
theorem ZcS : ZW X (.builtin "isinstance") (fun xs H Q => ∃ x c cv t b, xs = [x, c] /\ (∀ v, RelV c v -> v = cv) /\ TyOf X.K H x t /\ PySem.W.kitOne X.K t cv = some b /\ Q (.bl b) H) := by
 intro pins s σ H xs us Q I rs h
 obtain ⟨x, c, cv, t, b, rfl, hc, ty, e, q⟩ := h
 obtain ⟨u, w', rfl, rx, rc⟩ := QA rs
 have ec := hc _ rc
 subst ec
 exact Zci I rx ty e fun tk => ⟨.bl b, H, I.tok tk, rfl, q⟩
end
section
variable {X : Cx} {K : PySem.W.Frag} {pos : Pos} {tg : Expr}
theorem Zf3 (hK : X.K = K := by rfl) : OpR X (compareOp .In) (Va K false) := hK ▸ Zfl
theorem QQ (hK : X.K = K := by rfl) : OpR X (compareOp .NotIn) (Va K true) := hK ▸ Zcn
theorem ZA (hK : X.K = K := by rfl) : IxR X (Uu K) := hK ▸ Zg2
theorem YE (hK : X.K = K := by rfl) : ZW X (.builtin "len") (QP K) := hK ▸ Zco
def Zg3 (K : PySem.W.Frag) : List V -> Hp -> VK -> Prop := fun xs H Q => ∃ x c cv t b, xs = [x, c] /\ (∀ v, RelV c v -> v = cv) /\ TyOf K H x t /\ PySem.W.kitOne K t cv = some b /\ Q (.bl b) H
theorem Uv {l : Expr} {tl : TE} (hl : PE X l tl) (hK : X.K = K := by rfl) : PI X tg l (QN K tl) := hK ▸ Zfk hl
theorem Uw {e : Expr} {ta : TE} {f : Str} (he : PE X e ta) (hb : attributeBase e f X.env (eval e X.env) = eval e X.env := by rfl) (hK : X.K = K := by rfl) : PE X (.Attribute e f pos) (QC K ta f) := hK ▸ Zfh he hb
def Zdp (K : PySem.W.Frag) : List V -> Hp -> VK -> Prop := fun xs H Q => ∃ p ys, xs = [.ref p] /\ ((SqL K H p ys /\ ∀ l, H l = none -> Q (.ref l) (upd H l (.tup ys))) \/ (SqT K H p ys /\ Q (.ref p) H))
def Zfm (K : PySem.W.Frag) : List V -> Hp -> VK -> Prop := fun xs H Q => ∃ p ys, xs = [.ref p] /\ (SqL K H p ys \/ SqT K H p ys) /\ ∀ l, H l = none -> Q (.ref l) (upd H l (.lst ys))
theorem Ux (hK : X.K = K := by rfl) : ZW X (.type "tuple") (Zdp K) := hK ▸ Zaw
theorem Uy {o e : Expr} {es : List Expr} {to : TE} {t : TA} {name : Str} {apos cpos : Pos} {T id : String} {r : V -> List V -> Hp -> VK -> Prop} (pa : PlainAttrs T) (slot : Slot T name id) (hty : typeOf (.builtin id) = pure (.type "method_descriptor")) (hm : MtR X id r) (ho : PE X o to) (ha : PA X (e :: es) t)
 (hbase : attributeBase o name X.env (eval o X.env) = eval o X.env := by rfl)
 (hfew : ((backTo cpos (starEach (e :: es) X.env)).all (fun x => !x.1) && (backToKw cpos (keywordEach [] X.env)).all (fun x => x.1.isSome)
   && decide ((e :: es).length + ([] : List Keyword).length + (if ([] : List Keyword).isEmpty then 0 else 1) < 30)) = true := by rfl)
 (hline : (apos.endLine == cpos.line) = true := by rfl) (hs : starEach (e :: es) X.env = (false, eval e X.env) :: starEach es X.env := by rfl) (hplain : (backTo cpos (starEach es X.env)).any (·.1) = false := by rfl) (hK : X.K = K := by rfl) :
 PE X (.Call (.Attribute o name apos) (e :: es) [] cpos) (tBM K T r to t) := hK ▸ Zf0 pa slot hty hm ho ha hbase hfew hline hs hplain
end
end L2
namespace L2
open PySem PySem.Spec PyProof.Rows
theorem ZcT {H : Hp} {q : Addr} {o : HO} (h : H q = none) : Same H (upd H q o) := fun b u e => by
 rw [Zs (YC e h)]
 exact e
structure Walk (J : It) (xs : List V) (H : Hp) : Prop where
 go : ∀ i, i < xs.length -> J.go i H
 yld : ∀ (i : Nat) v H', i < xs.length -> J.yld i H v H' -> H' = H /\ xs[i]? = some v
 stop : ∀ i, xs.length <= i -> J.stop i H
end L2
namespace L2
open PySem PySem.Spec PyProof.Rows
section
variable {X : Cx} {tg : Expr}
end
end L2
namespace L2
open PySem PySem.Spec PyProof.Rows
section
variable {X : Cx} {elts : List Expr} {x1 : Nat} {tpos : Pos}
end
end L2
namespace L2
open PySem PySem.Spec PyProof.Rows
section
variable {κ : Type} [DecidableEq κ]
def Yl (kvs : List (κ × V)) (k : κ) : Option V := (kvs.find? fun kv => decide (kv.1 = k)).map (·.2)
def ZX (kvs : List (κ × V)) (k : κ) (v : V) : List (κ × V) :=
 if (kvs.any fun kv => decide (kv.1 = k)) = true then kvs.map (fun kv => if kv.1 = k then (kv.1, v) else kv) else kvs ++ [(k, v)]
theorem Uz {p : κ × V} {r : List (κ × V)} {k : κ} (e : p.1 = k) : Yl (p :: r) k = some p.2 := by simp [Yl, List.find?_cons, e]
theorem UA {p : κ × V} {r : List (κ × V)} {k : κ} (e : ¬ p.1 = k) : Yl (p :: r) k = Yl r k := by simp [Yl, List.find?_cons, e]
theorem QR (k : κ) : ∀ kvs : List (κ × V), (kvs.any fun kv => decide (kv.1 = k)) = (Yl kvs k).isSome
 | [] => rfl
 | p :: r => by
  rw [List.any_cons]
  by_cases e : p.1 = k
  · simp only [Uz e, decide_eq_true e, Bool.true_or, Option.isSome_some]
  · rw [UA e, decide_eq_false e, Bool.false_or]; exact QR k r
theorem QS (kvs : List (κ × V)) (k : κ) (v : V) : (ZX kvs k v).length <= kvs.length + 1 := by
 unfold ZX
 split
 · rw [List.length_map]; omega
 · rw [List.length_append, List.length_cons, List.length_nil]; omega
theorem RelO.isSome_eq {o : Option V} {u : Option Value} (r : RelO o u) : o.isSome = u.isSome := by
 cases o with
 | none => cases u with
  | none => rfl
  | some _ => exact (show False from r).elim
 | some _ => cases u with
  | none => exact (show False from r).elim
  | some _ => rfl
theorem KV.val {kvs : List (κ × V)} {vs : List (κ × Value)} (r : KV kvs vs) (k : κ) : RelO (Yl kvs k) (valueAt vs k) := by
 unfold KV at r
 induction r with
 | nil => exact True.intro
 | @cons p q ps qs h t ih =>
  obtain ⟨h1, h2⟩ := h
  by_cases e : p.1 = k
  · have e' : q.1 = k := h1.symm.trans e
    have b : valueAt (q :: qs) k = some q.2 := by simp [valueAt, List.find?_cons, e']
    rw [Uz e, b]; exact h2
  · have e' : ¬ q.1 = k := fun z => e (h1.trans z)
    have b : valueAt (q :: qs) k = valueAt qs k := by simp [valueAt, List.find?_cons, e']
    rw [UA e, b]; exact ih
theorem KV.any {kvs : List (κ × V)} {vs : List (κ × Value)} (r : KV kvs vs) (k : κ) : (kvs.any fun kv => decide (kv.1 = k)) = vs.any fun kv => decide (kv.1 = k) := by
 unfold KV at r
 induction r with
 | nil => rfl
 | cons h t ih => rw [List.any_cons, List.any_cons, ih, h.1]
theorem KV.repl {kvs : List (κ × V)} {vs : List (κ × Value)} (r : KV kvs vs) (k : κ) {y : V} {u : Value} (ry : RelV y u) :
 KV (kvs.map fun kv => if kv.1 = k then (kv.1, y) else kv) (vs.map fun kv => if kv.1 = k then (kv.1, u) else kv) := by
 unfold KV at r ⊢
 induction r with
 | nil => exact .nil
 | @cons p q ps qs h t ih =>
  rw [List.map_cons, List.map_cons]
  refine .cons ?_ ih
  obtain ⟨h1, h2⟩ := h
  by_cases e : p.1 = k
  · rw [if_pos e, if_pos (h1.symm.trans e)]; exact ⟨h1, ry⟩
  · rw [if_neg e, if_neg (fun z => e (h1.trans z))]; exact ⟨h1, h2⟩
theorem KV.put {kvs : List (κ × V)} {vs : List (κ × Value)} (r : KV kvs vs) (k : κ) {y : V} {u : Value} (ry : RelV y u) : KV (ZX kvs k y) (stored vs k u) := by
 unfold ZX stored
 rw [r.any k]
 by_cases e : (vs.any fun kv => decide (kv.1 = k)) = true
 · rw [if_pos e, if_pos e]; exact r.repl k ry
 · rw [if_neg e, if_neg e]; exact Paired.snoc r ⟨rfl, ry⟩
theorem KV.length {kvs : List (κ × V)} {vs : List (κ × Value)} (r : KV kvs vs) : kvs.length = vs.length := Paired.length r
end
theorem VN {P : Program} {w : World} {k : Key} {u : Value} (r : RelV (kV k) u) : (Ya P w).is k u = true := by
 cases k with
 | inl i => obtain ⟨t, e⟩ := (show ∃ t, u = Value.int i t from r); subst e; exact ZaX P w i t
 | inr x => obtain ⟨t, e⟩ := (show ∃ t, u = Value.str x t from r); subst e; exact ZaY P w x t
theorem ZaI {P : Program} {w : World} : ∀ {ks : List Key} {us : List Value}, Vals (ks.map kV) us -> ItemsAre (Ya P w) ks us
 | [], _, r => by rw [List.map_nil] at r; cases r; exact .nil
 | k :: ks, _, r => by
  rw [List.map_cons] at r
  cases r with
  | cons h t => exact .cons (VN h) (ZaI t)
abbrev KT (H : Hp) : List (List Key × V) -> List (List Key × Addr × Value) -> Prop := Paired fun p q => p.1 = q.1 /\ H q.2.1 = some (.tup (p.1.map kV)) /\ RelV p.2 q.2.2
theorem KT.val {H : Hp} {kvs : List (List Key × V)} {xs : List (List Key × Addr × Value)} (r : KT H kvs xs) (k : List Key) : RelO (Yl kvs k) ((atKey xs k).map (·.2)) := by
 induction r with
 | nil => exact True.intro
 | @cons p q ps qs h t ih =>
  obtain ⟨h1, _, h2⟩ := h
  by_cases e : p.1 = k
  · have e' : q.1 = k := h1.symm.trans e
    have b : atKey (q :: qs) k = some q.2 := by simp [atKey, List.find?_cons, e']
    rw [Uz e, b]; exact h2
  · have e' : ¬ q.1 = k := fun z => e (h1.trans z)
    have b : atKey (q :: qs) k = atKey qs k := by simp [atKey, List.find?_cons, e']
    rw [UA e, b]; exact ih
theorem KT.repl {H : Hp} {kvs : List (List Key × V)} {xs : List (List Key × Addr × Value)} (r : KT H kvs xs) (k : List Key) {y : V} {u : Value} (ry : RelV y u) :
 KT H (kvs.map fun kv => if kv.1 = k then (kv.1, y) else kv) (xs.map (putAt k u)) := by
 induction r with
 | nil => exact .nil
 | @cons p q ps qs h t ih =>
  rw [List.map_cons, List.map_cons]
  refine .cons ?_ ih
  obtain ⟨h1, h2, h3⟩ := h
  unfold putAt
  by_cases e : p.1 = k
  · rw [if_pos e, if_pos (h1.symm.trans e)]; exact ⟨h1, h2, ry⟩
  · rw [if_neg e, if_neg (fun z => e (h1.trans z))]; exact ⟨h1, h2, h3⟩
theorem KT.put {H : Hp} {kvs : List (List Key × V)} {xs : List (List Key × Addr × Value)} (r : KT H kvs xs) (k : List Key) {b : Addr} {y : V} {u : Value} (hb : H b = some (.tup (k.map kV))) (ry : RelV y u) :
 KT H (ZX kvs k y) (storedH xs k b u) := by
 have e : (kvs.any fun kv => decide (kv.1 = k)) = (atKey xs k).isSome := by
  rw [QR, (r.val k).isSome_eq, Option.isSome_map]
 unfold ZX storedH
 rw [e]
 by_cases q : (atKey xs k).isSome = true
 · rw [if_pos q, if_pos q]; exact r.repl k ry
 · rw [if_neg q, if_neg q]; exact Paired.snoc r ⟨rfl, hb, ry⟩
theorem KT.keeps {H H' : Hp} {kvs : List (List Key × V)} {xs : List (List Key × Addr × Value)} (r : KT H kvs xs) (ht : ∀ b ys, H b = some (.tup ys) -> H' b = some (.tup ys)) : KT H' kvs xs :=
 Paired.mapP r fun _ _ z => ⟨z.1, ht _ _ z.2.1, z.2.2⟩
section
variable {P : Program} {w : World} {H : Hp} {h : Heap} {a : Addr}
theorem ZeN {u : HO} (ok : HOk P w H h) (e : Rd H a u) : ObjOk P w H h a u := e.ok ok
theorem UB {kvs : List (Key × V)} (ok : HOk P w H h) (e : Rd H a (.dK kvs)) : kvs.length <= sizeLine /\ (a == sysModules) = false /\ ∃ vs, KV kvs vs /\ h.DictOf (Ya P w) a vs :=
 show ObjOk P w H h a (.dK kvs) from ZeN ok e
theorem ZeO {kvs : List (Key × V)} (ok : HOk P w H h) (e : H a = some (.dK kvs)) : kvs.length <= sizeLine /\ (a == sysModules) = false /\ ∃ vs, KV kvs vs /\ h.DictOf (Ya P w) a vs := UB ok (.inl e)
theorem UC {ks : List Key} (ok : HOk P w H h) (e : H a = some (.tup (ks.map kV))) : (tupleKind (Ya P w)).is h ks a := by
 obtain ⟨_, its, r, o, h1, h2, n, h3⟩ := (show ObjOk P w H h a (.tup (ks.map kV)) from ok a _ e)
 exact ⟨o, its.toArray, n, h1, h2, h3, by simpa using ZaI r⟩
theorem UD {kvs : List (List Key × V)} (ok : HOk P w H h) (e : Rd H a (.dT kvs)) : kvs.length <= sizeLine /\ (a == sysModules) = false /\
 ∃ xs, KT H kvs xs /\ h.DictOfH (tupleKind (Ya P w)) a xs := by
 obtain ⟨z, y, xs, r, o, es, ep, h1, h2, h3, h4, h5⟩ := (show ObjOk P w H h a (.dT kvs) from ZeN ok e)
 refine ⟨z, y, xs, r, o, es, ep, h1, h2, h3, h4, fun x hx => ?_, h5⟩
 have all : ∀ {l : List (List Key × V)} {m : List (List Key × Addr × Value)}, KT H l m -> ∀ x ∈ m, (tupleKind (Ya P w)).is h x.1 x.2.1 := by
  intro l m q
  induction q with
  | nil => intro x hx; exact nomatch hx
  | @cons p q ps qs hq t ih =>
   intro x hx
   rcases List.mem_cons.mp hx with e | hx
   · subst e
     exact UC ok (by rw [<- hq.1]; exact hq.2.1)
   · exact ih x hx
 exact all r x hx
theorem Zf4 {kvs : List (List Key × V)} (ok : HOk P w H h) (e : H a = some (.dT kvs)) : kvs.length <= sizeLine /\ (a == sysModules) = false /\
 ∃ xs, KT H kvs xs /\ h.DictOfH (tupleKind (Ya P w)) a xs := UD ok (.inl e)
end
def DGet (H : Hp) (a : Addr) (y : V) (r : Option V) : Prop :=
 (∃ kvs k, Rd H a (.dK kvs) /\ y = kV k /\ r = Yl kvs k) \/ ∃ kvs k b, Rd H a (.dT kvs) /\ y = .ref b /\ H b = some (.tup (k.map kV)) /\ r = Yl kvs k
def DPut (H : Hp) (a : Addr) (y v : V) (H' : Hp) : Prop :=
 (∃ kvs k, H a = some (.dK kvs) /\ y = kV k /\ kvs.length < sizeLine /\ H' = upd H a (.dK (ZX kvs k v))) \/
 ∃ kvs k b, H a = some (.dT kvs) /\ y = .ref b /\ H b = some (.tup (k.map kV)) /\ kvs.length < sizeLine /\ H' = upd H a (.dT (ZX kvs k v))
theorem DGet.k {H : Hp} {a : Addr} {kvs : List (Key × V)} {k : Key} (e : H a = some (.dK kvs)) : DGet H a (kV k) (Yl kvs k) := .inl ⟨kvs, k, .inl e, rfl, rfl⟩
theorem DGet.t {H : Hp} {a b : Addr} {kvs : List (List Key × V)} {k : List Key} (e : H a = some (.dT kvs)) (eb : H b = some (.tup (k.map kV))) : DGet H a (.ref b) (Yl kvs k) := .inr ⟨kvs, k, b, .inl e, rfl, eb, rfl⟩
theorem DPut.k {H : Hp} {a : Addr} {kvs : List (Key × V)} {k : Key} {v : V} (e : H a = some (.dK kvs)) (hl : kvs.length < sizeLine) : DPut H a (kV k) v (upd H a (.dK (ZX kvs k v))) := .inl ⟨kvs, k, e, rfl, hl, rfl⟩
theorem DPut.t {H : Hp} {a b : Addr} {kvs : List (List Key × V)} {k : List Key} {v : V} (e : H a = some (.dT kvs)) (eb : H b = some (.tup (k.map kV))) (hl : kvs.length < sizeLine) :
 DPut H a (.ref b) v (upd H a (.dT (ZX kvs k v))) := .inr ⟨kvs, k, b, e, rfl, eb, hl, rfl⟩
section
variable {X : Cx} {pins : List (Addr × Obj)} {σ : St} {H : Hp} {s : Shared} {a : Addr} {y v : V} {u r : Value} {o : Option V} {A : Around} {E : Value -> Shared -> Prop}
theorem Inv.big (I : Inv X pins σ H s) : sysModules < s.heap.objs.size := by
 have h : mainGlobals < s.heap.objs.size := (I.mod.glob.keeps I.bk).lt
 exact Nat.lt_trans (by decide) h
theorem Zcq {Q : Value -> Shared -> Prop} (hu : A.units + 1 < cLine) (I : Inv X pins σ H s) (g : DGet H a y (some v)) (ry : RelV y u) (h : ∀ w' s', Inv X pins σ H s' -> RelV v w' -> Q w' s') :
 wpAny (model X.prog X.w) A (getItem (.ref a) u) Q E s := by
 rcases g with ⟨kvs, k, e, ey, l⟩ | ⟨kvs, k, b, e, ey, eb, l⟩
 · subst ey
   obtain ⟨z, hd, vs, rel, dd⟩ := UB I.hok e
   obtain ⟨w', hw, rw'⟩ := RelO.some_of (v := v) (o := valueAt vs k) (by rw [l]; exact rel.val k)
   exact wpAny_getItem_of (VN ry) dd.mapOf hw (h w' _ (I.tok _) rw')
 · subst ey
   cases (show u = Value.ref b from ry)
   obtain ⟨z, hd, xs, rel, dd⟩ := UD I.hok e
   obtain ⟨w', hw, rw'⟩ := RelO.some_of (v := v) (o := (atKey xs k).map (·.2)) (by rw [l]; exact rel.val k)
   obtain ⟨p, hp, hp2⟩ := Option.map_eq_some_iff.mp hw
   refine wpAny_getItem_heap (tupleKind_room_in1 hu) (UC I.hok eb) dd hp ?_
   rw [hp2]
   exact h w' _ (I.tok _) rw'
theorem ZdW {Q : Value -> Shared -> Prop} (hu : A.units + 1 < cLine) (I : Inv X pins σ H s) (g : DGet H a y o) (ry : RelV y u) (h : ∀ s', Inv X pins σ H s' -> Q (.bool (!o.isSome)) s') :
 wpAny (model X.prog X.w) A (compareOp .NotIn u (.ref a)) Q E s := by
 rcases g with ⟨kvs, k, e, ey, l⟩ | ⟨kvs, k, b, e, ey, eb, l⟩
 · subst ey
   obtain ⟨z, hd, vs, rel, dd⟩ := UB I.hok e
   refine wpAny_notIn_of (VN ry) hd dd.mapOf ?_
   rw [<- (rel.val k).isSome_eq, <- l]
   exact h _ (I.tok _)
 · subst ey
   cases (show u = Value.ref b from ry)
   obtain ⟨z, hd, xs, rel, dd⟩ := UD I.hok e
   refine wpAny_notIn_heap (tupleKind_room_in1 hu) (UC I.hok eb) hd dd ?_
   have q := (rel.val k).isSome_eq
   rw [Option.isSome_map] at q
   rw [<- q, <- l]
   exact h _ (I.tok _)
theorem QT {h' : Heap} {t' : Nat} {ob : HO} (I : Inv X pins σ H s) (mu : Mut (H a)) (hs : Heap.SameBut a s.heap h') (he : ∃ q, h'.get? a = some q) (new : ObjOk X.prog X.w (upd H a ob) h' a ob) :
 Inv X pins σ (upd H a ob) { s with heap := h', toks := t' } :=
 I.write (x := a) (e := a) mu (.inl rfl) (fun b q hb z => (hs.2 b hb).trans z) he new
theorem Zdq {P : Program} {w : World} {H' : Hp} {h' : Heap} {kvs : List (Key × V)} {vs : List (Key × Value)} (z : kvs.length <= sizeLine) (hd : (a == sysModules) = false) (rel : KV kvs vs) (dd : h'.DictOf (Ya P w) a vs) :
 ObjOk P w H' h' a (.dK kvs) := ⟨z, hd, vs, rel, dd⟩
theorem Zcr {H' : Hp} {Q : Unit -> Shared -> Prop} (hu : A.units + 1 < cLine) (I : Inv X pins σ H s) (g : DPut H a y v H') (ry : RelV y u) (rv : RelV v r) (h : ∀ s', Inv X pins σ H' s' -> Q () s') :
 wpAny (model X.prog X.w) A (setItem (.ref a) u r) Q E s := by
 rcases g with ⟨kvs, k, e, ey, l, eH⟩ | ⟨kvs, k, b, e, ey, eb, l, eH⟩
 · subst ey eH
   obtain ⟨z, hd, vs, rel, dd⟩ := ZeO I.hok e
   have hz : vs.length <= sizeLine := by rw [<- rel.length]; exact z
   have hl : (ZX kvs k v).length <= sizeLine := by have := QS kvs k v; omega
   refine wpAny_setItem_pairs (hsz := hz) (VN ry) dd fun h' dd' hs => h _ ?_
   have he : ∃ q, h'.get? a = some q := let ⟨q, _, _, hq, _⟩ := dd'; ⟨q, hq⟩
   exact QT I (by rw [e]; exact True.intro) hs he (Zdq hl hd (rel.put k rv) dd')
 · subst ey eH
   cases (show u = Value.ref b from ry)
   obtain ⟨z, hd, xs, rel, dd⟩ := Zf4 I.hok e
   have hz : xs.length <= sizeLine := by rw [<- Paired.length rel]; exact z
   have hl : (ZX kvs k v).length <= sizeLine := by have := QS kvs k v; omega
   refine wpAny_setItem_heap (hsz := hz) (tupleKind_room_in1 hu) (UC I.hok eb) dd fun h' dd' hs => h _ ?_
   obtain ⟨q, es, ep, hq, h2, h3, h4, _, h5⟩ := dd'
   refine QT I (by rw [e]; exact True.intro) hs ⟨q, hq⟩ ⟨hl, hd, _, (rel.put k eb rv).keeps fun c ys ec => ?_, q, es, ep, hq, h2, h3, h4, h5⟩
   rw [Zs (ZfW ec e (fun z => nomatch z))]
   exact ec
end
section
variable {X : Cx} {pins : List (Addr × Obj)} {σ : St} {H : Hp} {s : Shared} {a : Addr} {kvs : List (Key × V)} {k : Key} {u : Value} {A : Around} {E : Value -> Shared -> Prop}
end
def ZgR (i : Expr) : Prop := ∀ ov iv, subscripted i false ov iv = operate [ov, iv] (getItem ov iv)
theorem ZdX {prog : Program} {w : World} {A : Around} {E : Value -> Shared -> Prop} {s : Shared} {env : Env} {value slice : Expr} {pos : Pos} {T id : String} {Q : Value -> Shared -> Prop}
 (hl : typeLookup (.type T) "__getitem__" = pure (some (.builtin id))) (hs : ZgR slice)
 (h : wpAny (model prog w) A (eval value env) (fun o s₁ => wpAny (model prog w) A (eval slice env) (fun i s₂ => s₂.TypeIs o T /\ wpAny (model prog w) A (getItem o i) Q E s₂) E s₁) E s) :
 wpAny (model prog w) A (eval (.Subscript value slice pos) env) Q E s := by
 refine Subscript_ (wpAny_mono h (fun o s₁ h₁ => wpAny_mono h₁ (fun i s₂ h₂ => ?_) fun _ _ x => x) fun _ _ x => x)
 obtain ⟨hT, h₂⟩ := h₂
 unfold subscriptTail
 refine wpAny_bind ?_
 rw [getitemInPython_of_ne hT.not_modules]
 refine wpAny_bind (wpAny_specialOf hT hl ?_)
 have fin : wpAny (model prog w) A (subscripted slice false o i) (fun r s₃ => wpAny (model prog w) A (letTemporaryGo value o r >>= fun _ => pure r) Q E s₃) E s₂ := by
  rw [hs o i]
  exact wpAny_operating (wpAny_mono h₂ (fun r s₃ h₃ => wpAny_bind (wpAny_letTemporaryGo (wpAny_pure h₃))) fun _ _ x => x)
 first
  | exact wpAny_pure (wpAny_bind fin)
  | exact wpAny_bind (wpAny_pure (wpAny_bind fin))
  | exact wpAny_bind fin
theorem ZaZ {X : Cx} {pins : List (Addr × Obj)} {σ : St} {H : Hp} {s : Shared} {a : Addr} {y : V} {o : Option V} (I : Inv X pins σ H s) (g : DGet H a y o) : s.TypeIs (.ref a) "dict" := by
 rcases g with ⟨kvs, k, e, _, _⟩ | ⟨kvs, k, b, e, _, _, _⟩
 · obtain ⟨_, _, vs, _, dd⟩ := UB I.hok e
   exact dd.typeIs
 · obtain ⟨_, _, xs, _, dd⟩ := UD I.hok e
   exact dd.typeIs
def ZeP (td ty : TE) : TE := fun σ H Q => td σ H fun x H1 => ty σ H1 fun y H2 => ∃ a v, x = .ref a /\ DGet H2 a y (some v) /\ Q v H2
def ZbL (ty td : TE) : TE := fun σ H Q => ty σ H fun y H1 => td σ H1 fun x H2 => ∃ a o, x = .ref a /\ DGet H2 a y o /\ Q (.bl (!o.isSome)) H2
def ZeQ (td ty tv : TE) : TS := fun D σ H => tv σ H fun v H1 => td σ H1 fun x H2 => ty σ H2 fun y H3 => ∃ a H4, x = .ref a /\ DPut H3 a y v H4 /\ D.nx σ H4
section
variable {X : Cx} {o i e value : Expr} {pos pos' tpos : Pos} {td ty tv : TE}
theorem ZbM (hu : X.A.units + 1 < cLine) (ho : PE X o td) (hi : PE X i ty) (hs : ZgR i) : PE X (.Subscript o i pos) (ZeP td ty) := by
 intro pins s σ H Q I h
 refine ZdX PySem.F.slot_dict_getitem.lookup hs (thn (ho pins s σ H _ I h) fun u s1 ⟨x, H1, I1, rx, q1⟩ => thn (hi pins s1 σ H1 _ I1 q1) fun iv s2 ⟨y, H2, I2, ry, a, v, ex, g, q2⟩ => ?_)
 subst ex
 obtain rfl : u = Value.ref a := rx
 exact ⟨ZaZ I2 g, Zcq hu I2 g ry fun w' s3 I3 rw' => ⟨v, H2, I3, rw', q2⟩⟩
theorem Zcs (hu : X.A.units + 1 < cLine) (hi : PE X i ty) (ho : PE X o td) : PC X .NotIn i o (ZbL ty td) := by
 intro pins s σ H Q I h
 refine thn (hi pins s σ H _ I h) fun iv s1 ⟨y, H1, I1, ry, q1⟩ => thn (ho pins s1 σ H1 _ I1 q1) fun u s2 ⟨x, H2, I2, rx, a, ov, ex, g, q2⟩ => ?_
 subst ex
 obtain rfl : u = Value.ref a := rx
 exact ZdW hu I2 g ry fun s3 I3 => ⟨.bl (!ov.isSome), H2, I3, rfl, q2⟩
theorem ZdY (hu : X.A.units + 1 < cLine) (ho : PE X o td) (hi : PE X i ty) (hv : PE X value tv) (hs : swapsWith value (some (.Subscript o i pos')) pos.line X.env = pure false) :
 PS X (.Assign [.Subscript o i pos'] value pos) (ZeQ td ty tv) := by
 intro pins s σ H D I h
 refine wpAny_Assign_Subscript (thn (hv pins s σ H _ I h) fun r s1 ⟨v, H1, I1, rv, q1⟩ => thn (ho pins s1 σ H1 _ I1 q1) fun u s2 ⟨x, H2, I2, rx, q2⟩ => thn (hi pins s2 σ H2 _ I2 q2) fun iv s3 ⟨y, H3, I3, ry, a, H4, ex, g, q3⟩ => ?_) hs
 subst ex
 obtain rfl : u = Value.ref a := rx
 exact Zcr hu I3 g ry rv fun s4 I4 => ⟨σ, H4, I4, q3⟩
end
theorem ZcU {P : Program} {w : World} {H : Hp} (h : Heap) (hb : sysModules < h.objs.size) : ObjOk P w H (h.push { cls := .type "dict", data := .dict #[] }) h.objs.size (.dK []) :=
 ⟨Nat.zero_le _, beq_eq_false_iff_ne.mpr (Ne.symm (Nat.ne_of_lt hb)), [], .nil, Heap.DictOf.new h⟩
section
variable {X : Cx} {pos : Pos}
end
def QU : List (TE × TE) -> St -> Hp -> (List (V × V) -> Hp -> Prop) -> Prop
 | [], _, H, Q => Q [] H
 | (tk, tv) :: r, σ, H, Q => tk σ H fun x H1 => tv σ H1 fun y H2 => QU r σ H2 fun ps H3 => Q ((x, y) :: ps) H3
abbrev VV : List (V × V) -> List (Value × Value) -> Prop := Paired fun p q => RelV p.1 q.1 /\ RelV p.2 q.2
def PPs (X : Cx) (pos : Pos) (keys : List (Option Expr)) (values : List Expr) (trs : List (TE × TE)) : Prop :=
 ∀ (pins : List (Addr × Obj)) (s : Shared) (σ : St) (H : Hp) (Q : List (V × V) -> Hp -> Prop), Inv X pins σ H s -> QU trs σ H Q ->
  wpAny (model X.prog X.w) X.A (evalPairs (pairTrees keys values X.env pos)) (fun vs s' => ∃ ps H', Inv X pins σ H' s' /\ VV ps vs /\ Q ps H') X.xe s
theorem ZdZ {X : Cx} {pos : Pos} : PPs X pos [] [] [] := fun pins s σ H Q I h => pairTrees_nil_walk ⟨[], H, I, .nil, h⟩
theorem ZcV {X : Cx} {pos : Pos} {k v : Expr} {ks : List (Option Expr)} {vs : List Expr} {tk tv : TE} {trs : List (TE × TE)} (hk : PE X k tk) (hv : PE X v tv) (hr : PPs X pos ks vs trs) :
 PPs X pos (some k :: ks) (v :: vs) ((tk, tv) :: trs) := fun pins s σ H Q I h =>
 pairTrees_cons_walk (thn (hk pins s σ H _ I h) fun u s1 ⟨x, H1, I1, rx, q1⟩ => thn (hv pins s1 σ H1 _ I1 q1) fun w2 s2 ⟨y, H2, I2, ry, q2⟩ =>
  thn (hr pins s2 σ H2 _ I2 q2) fun ws s3 ⟨ps, H3, I3, rel, q3⟩ => ⟨(x, y) :: ps, H3, I3, .cons ⟨rx, ry⟩ rel, q3⟩)
def Vb (kvs more : List (Key × V)) : List (Key × V) := more.foldl (fun acc kv => ZX acc kv.1 kv.2) kvs
theorem KV.merge : ∀ {more : List (Key × V)} {rs : List (Key × Value)} {kvs : List (Key × V)} {vs : List (Key × Value)}, KV more rs -> KV kvs vs -> KV (Vb kvs more) (merged vs rs) := by
 intro more rs kvs vs r
 unfold KV at r
 induction r generalizing kvs vs with
 | nil => intro q; exact q
 | @cons p q ps qs h t ih =>
  intro r0
  have e : KV (ZX kvs p.1 p.2) (stored vs q.1 q.2) := by
   have := r0.put p.1 h.2
   rw [<- h.1]; exact this
  exact ih e
theorem Zac : ∀ (more kvs : List (Key × V)), (Vb kvs more).length <= kvs.length + more.length
 | [], kvs => by show kvs.length <= kvs.length + 0; omega
 | p :: r, kvs => by
  have h1 := Zac r (ZX kvs p.1 p.2)
  have h2 := QS kvs p.1 p.2
  show (Vb (ZX kvs p.1 p.2) r).length <= _
  rw [List.length_cons]; omega
theorem Zaq {P : Program} {w : World} : ∀ {kvs : List (Key × V)} {ws : List (Value × Value)}, VV (kvs.map fun kv => (kV kv.1, kv.2)) ws -> ∃ rs, Carries (Ya P w) ws rs /\ KV kvs rs
 | [], _, r => by rw [List.map_nil] at r; cases r; exact ⟨[], True.intro, .nil⟩
 | p :: kvs, _, r => by
  rw [List.map_cons] at r
  cases r with
  | @cons a b as bs h t =>
   obtain ⟨rs, c, q⟩ := Zaq (P := P) (w := w) t
   obtain ⟨b1, b2⟩ := b
   exact ⟨(p.1, b2) :: rs, ⟨VN h.1, rfl, c⟩, .cons ⟨rfl, h.2⟩ q⟩
def ZeR (trs : List (TE × TE)) : TE := fun σ H Q => ∀ p, H p = none -> QU trs σ (upd H p (.dK [])) fun ps H2 => H2 p = some (.dK []) /\ ∃ kvs : List (Key × V), ps = kvs.map (fun kv => (kV kv.1, kv.2)) /\ kvs.length <= 15 /\ Q (.ref p) (upd H2 p (.dK (Vb [] kvs)))
theorem Zd0 {X : Cx} {pos : Pos} {keys : List (Option Expr)} {values : List Expr} {trs : List (TE × TE)} (h : PPs X pos keys values trs) (hall : keys.all (·.isSome) = true) (hl : keys.length = values.length) (h0 : keys ≠ [])
 (h15 : keys.length <= 15) : PE X (.Dict keys values pos) (ZeR trs) := by
 intro pins s σ H Q I q
 have hn := I.hok.fresh (Nat.le_refl s.heap.objs.size)
 have I1 := I.laid (a := s.heap.objs.size) (o := .dK []) (h' := s.heap.push { cls := .type "dict", data := .dict #[] }) (t' := s.toks) (fun _ _ q => Heap.get?_push_of_some _ q) (Nat.le_refl _) (ZcU s.heap I.big)
 refine wpAny_Dict_walk (knd := Ya X.prog X.w) hall hl h0 h15 (thn (h pins _ σ _ _ I1 (q _ hn)) fun ws s2 ⟨ps, H2, I2, rel, e, kvs, ep, lk, q2⟩ => ?_)
 subst ep
 obtain ⟨rs, c, rk⟩ := Zaq (P := X.prog) (w := X.w) rel
 obtain ⟨z, hd, vs0, r0, dd⟩ := ZeO I2.hok e
 cases r0
 refine ⟨rs, c, dd, fun h' dd' hs => ⟨.ref s.heap.objs.size, _, ?_, rfl, q2⟩⟩
 have hz : (Vb [] kvs).length <= sizeLine := by
  have h1 := Zac kvs []
  rw [List.length_nil] at h1
  rw [sizeLine_eq]; omega
 have he : ∃ q, h'.get? s.heap.objs.size = some q := let ⟨q, _, _, hq, _⟩ := dd'; ⟨q, hq⟩
 exact QT I2 (by rw [e]; exact True.intro) hs he (Zdq hz hd (rk.merge .nil) dd')
structure M1 (X : Cx) (o : Expr) (m : Str) (apos : Pos) (e : Expr) (cpos : Pos) : Prop where
 base : attributeBase o m X.env (eval o X.env) = eval o X.env
 few : ((backTo cpos (starEach [e] X.env)).all (fun x => !x.1) && (backToKw cpos (keywordEach [] X.env)).all (fun x => x.1.isSome)
  && decide (([e] : List Expr).length + ([] : List Keyword).length + (if ([] : List Keyword).isEmpty then 0 else 1) < 30)) = true
 line : (apos.endLine == cpos.line) = true
 trees : backTo cpos (starEach [e] X.env) = [(false, eval e X.env)]
structure M2 (X : Cx) (o : Expr) (m : Str) (apos : Pos) (e f : Expr) (cpos : Pos) : Prop where
 base : attributeBase o m X.env (eval o X.env) = eval o X.env
 few : ((backTo cpos (starEach [e, f] X.env)).all (fun x => !x.1) && (backToKw cpos (keywordEach [] X.env)).all (fun x => x.1.isSome)
  && decide (([e, f] : List Expr).length + ([] : List Keyword).length + (if ([] : List Keyword).isEmpty then 0 else 1) < 30)) = true
 line : (apos.endLine == cpos.line) = true
 trees : backTo cpos (starEach [e, f] X.env) = [(false, eval e X.env), (false, eval f X.env)]
section
variable {X : Cx} {pins : List (Addr × Obj)} {σ : St} {H : Hp} {s : Shared} {a : Addr} {y d : V} {u r : Value} {o : Option V} {A : Around} {E : Value -> Shared -> Prop}
end
section
variable {X : Cx} {o e f : Expr} {apos cpos : Pos} {td ty tx : TE}
end
section
variable {X : Cx} {pins : List (Addr × Obj)} {σ : St} {H : Hp} {s : Shared} {a : Addr} {kvs : List (Key × V)} {A : Around} {E : Value -> Shared -> Prop}
end
section
variable {X : Cx} {pins : List (Addr × Obj)} {σ : St} {H : Hp} {s : Shared} {a : Addr} {y : V} {u : Value} {A : Around} {E : Value -> Shared -> Prop}
end
end L2
namespace DL
open PySem PySem.Spec L2
inductive D where
 | non
 | bl (b : Bool)
 | int (i : Int)
 | str (cs : List Nat)
 | lst (xs : List D)
 | tup (xs : List D)
 | obj (c : String) (ks : List String) (xs : List D)
 | dct (ks : List Key) (xs : List D)
def KL (K : PySem.W.Frag) (a : Addr) (vs : List V) : Prop := ∃ (o : Obj) (its : Array Value) (n : Nat), K.lookup a = some o /\ o.cls = .type "list" /\ o.dict = none /\ o.data = .seq its n /\ its.size <= sizeLine /\ Vals vs its.toList
structure Kn where
 c : String -> Addr
 K : PySem.W.Frag
def Zi : D -> Bool
 | .non => true
 | .bl _ => true
 | .int _ => true
 | .str _ => true
 | _ => false
mutual
def Rep (cA : Kn) (av : Addr -> Prop) (H : Hp) : D -> V -> Prop
 | .non, v => v = .non
 | .bl b, v => v = .bl b
 | .int i, v => v = .int i
 | .str cs, v => v = S cs
 | .lst xs, v => ∃ a vs, v = .ref a /\ (av a -> KL cA.K a vs) /\ SqL cA.K H a vs /\ RepL cA av H xs vs
 | .tup xs, v => ∃ a vs, v = .ref a /\ ¬ av a /\ H a = some (.tup vs) /\ RepL cA av H xs vs
 | .obj c ks xs, v => ∃ a dx vs, v = .ref a /\ ¬ av a /\ H a = some (.ins (cA.c c) dx ((ks.map Str.ofString).zip vs)) /\ ks.length = xs.length /\ RepL cA av H xs vs
 | .dct ks xs, v => ∃ a vs, v = .ref a /\ ¬ av a /\ H a = some (.dK (ks.zip vs)) /\ ks.length = xs.length /\ RepL cA av H xs vs
def RepL (cA : Kn) (av : Addr -> Prop) (H : Hp) : List D -> List V -> Prop
 | [], vs => vs = []
 | x :: xs, vs => ∃ v r, vs = v :: r /\ Rep cA av H x v /\ RepL cA av H xs r
end
section
variable {cA : Kn} {G : Cn} {av av' : Addr -> Prop} {H H' : Hp}
theorem Rd.ext {a : Addr} {u : HO} (h : Rd H a u) (k : ∀ o, H a = some o -> H' a = some o) : Rd H' a u := by
 rcases h with h | ⟨o, h⟩
 · exact .inl (k _ h)
 · exact .inr ⟨o, k _ h⟩
theorem Rd.there {a : Addr} {u : HO} (h : Rd H a u) : H a ≠ none := by
 rcases h with h | ⟨o, h⟩ <;> rw [h] <;> exact fun z => by cases z
theorem Zdr {K : PySem.W.Frag} {a : Addr} {vs : List V} (n : av a -> KL K a vs) (r : SqL K H a vs) (k : ∀ b o, ¬ av b -> H b = some o -> H' b = some o) : SqL K H' a vs := by
 by_cases h : av a
 · exact .inr (n h)
 · rcases r with r | r
   · exact .inl (Rd.ext r fun o => k a o h)
   · exact .inr r
theorem Zf5 {K : PySem.W.Frag} {a : Addr} {vs : List V} (n : av a -> KL K a vs) (r : SqL K H a vs) (k : ∀ b, av' b -> av b \/ H b = none) : av' a -> KL K a vs := fun z => by
 rcases k a z with z | z
 · exact n z
 · rcases r with r | r
   · exact absurd z (Rd.there r)
   · exact r
mutual
theorem Rep.ext : ∀ {d : D} {v : V}, (∀ b o, ¬ av b -> H b = some o -> H' b = some o) -> Rep cA av H d v -> Rep cA av H' d v
 | .non, _, _, h => h
 | .bl _, _, _, h => h
 | .int _, _, _, h => h
 | .str _, _, _, h => h
 | .lst xs, v, k, h => by
  unfold Rep at h ⊢
  obtain ⟨a, vs, e, n, r, l⟩ := h
  exact ⟨a, vs, e, n, Zdr n r k, RepL.ext k l⟩
 | .tup xs, v, k, h => by
  unfold Rep at h ⊢
  obtain ⟨a, vs, e, n, r, l⟩ := h
  exact ⟨a, vs, e, n, k a _ n r, RepL.ext k l⟩
 | .obj c ks xs, v, k, h => by
  unfold Rep at h ⊢
  obtain ⟨a, dx, vs, e, n, r, z, l⟩ := h
  exact ⟨a, dx, vs, e, n, k a _ n r, z, RepL.ext k l⟩
 | .dct ks xs, v, k, h => by
  unfold Rep at h ⊢
  obtain ⟨a, vs, e, n, r, z, l⟩ := h
  exact ⟨a, vs, e, n, k a _ n r, z, RepL.ext k l⟩
theorem RepL.ext : ∀ {xs : List D} {vs : List V}, (∀ b o, ¬ av b -> H b = some o -> H' b = some o) -> RepL cA av H xs vs -> RepL cA av H' xs vs
 | [], _, _, h => h
 | x :: xs, vs, k, h => by
  unfold RepL at h ⊢
  obtain ⟨v, r, e, h1, h2⟩ := h
  exact ⟨v, r, e, Rep.ext k h1, RepL.ext k h2⟩
end
mutual
theorem Rep.av : ∀ {d : D} {v : V}, (∀ b, av' b -> av b \/ H b = none) -> Rep cA av H d v -> Rep cA av' H d v
 | .non, _, _, h => h
 | .bl _, _, _, h => h
 | .int _, _, _, h => h
 | .str _, _, _, h => h
 | .lst xs, v, k, h => by
  unfold Rep at h ⊢
  obtain ⟨a, vs, e, n, r, l⟩ := h
  exact ⟨a, vs, e, Zf5 n r k, r, RepL.av k l⟩
 | .tup xs, v, k, h => by
  unfold Rep at h ⊢
  obtain ⟨a, vs, e, n, r, l⟩ := h
  exact ⟨a, vs, e, fun z => (k a z).elim n (by rw [r]; exact fun z => by cases z), r, RepL.av k l⟩
 | .obj c ks xs, v, k, h => by
  unfold Rep at h ⊢
  obtain ⟨a, dx, vs, e, n, r, z, l⟩ := h
  exact ⟨a, dx, vs, e, fun y => (k a y).elim n (by rw [r]; exact fun z => by cases z), r, z, RepL.av k l⟩
 | .dct ks xs, v, k, h => by
  unfold Rep at h ⊢
  obtain ⟨a, vs, e, n, r, z, l⟩ := h
  exact ⟨a, vs, e, fun y => (k a y).elim n (by rw [r]; exact fun z => by cases z), r, z, RepL.av k l⟩
theorem RepL.av : ∀ {xs : List D} {vs : List V}, (∀ b, av' b -> av b \/ H b = none) -> RepL cA av H xs vs -> RepL cA av' H xs vs
 | [], _, _, h => h
 | x :: xs, vs, k, h => by
  unfold RepL at h ⊢
  obtain ⟨v, r, e, h1, h2⟩ := h
  exact ⟨v, r, e, Rep.av k h1, RepL.av k h2⟩
end
theorem Rep.scal {d : D} {v : V} (hs : Zi d = true) (h : Rep cA av H d v) : Rep cA av' H' d v := by
 cases d <;> first | exact h | cases hs
theorem Rep.same {d : D} {v : V} (k : Same H H') (h : Rep cA av H d v) : Rep cA av H' d v := h.ext fun b o _ => k b o
theorem RepL.same {xs : List D} {vs : List V} (k : Same H H') (h : RepL cA av H xs vs) : RepL cA av H' xs vs := h.ext fun b o _ => k b o
theorem RepL.nil : RepL cA av H [] [] := by unfold RepL; rfl
theorem RepL.cons {d : D} {v : V} {xs : List D} {vs : List V} (h : Rep cA av H d v) (t : RepL cA av H xs vs) : RepL cA av H (d :: xs) (v :: vs) := by
 unfold RepL
 exact ⟨v, vs, rfl, h, t⟩
theorem RepL.uncons {d : D} {xs : List D} {vs : List V} (h : RepL cA av H (d :: xs) vs) : ∃ v r, vs = v :: r /\ Rep cA av H d v /\ RepL cA av H xs r := by
 unfold RepL at h
 exact h
theorem RepL.nil_of {vs : List V} (h : RepL cA av H [] vs) : vs = [] := by
 unfold RepL at h
 exact h
theorem RepL.length : ∀ {xs : List D} {vs : List V}, RepL cA av H xs vs -> xs.length = vs.length
 | [], vs, h => by rw [h.nil_of]; rfl
 | x :: xs, vs, h => by
  obtain ⟨v, r, rfl, _, t⟩ := h.uncons
  rw [List.length_cons, List.length_cons, RepL.length t]
theorem RepL.get : ∀ {xs : List D} {vs : List V} {i : Nat} {x : D}, RepL cA av H xs vs -> xs[i]? = some x -> ∃ v, vs[i]? = some v /\ Rep cA av H x v
 | [], _, _, _, _, e => by simp at e
 | y :: xs, vs, 0, x, h, e => by
  obtain ⟨v, r, rfl, h1, _⟩ := h.uncons
  simp at e; subst e
  exact ⟨v, rfl, h1⟩
 | y :: xs, vs, i + 1, x, h, e => by
  obtain ⟨v, r, rfl, _, t⟩ := h.uncons
  obtain ⟨u, h1, h2⟩ := RepL.get (i := i) t (by simpa using e)
  exact ⟨u, by simpa using h1, h2⟩
theorem RepL.append : ∀ {xs ys : List D} {vs ws : List V}, RepL cA av H xs vs -> RepL cA av H ys ws -> RepL cA av H (xs ++ ys) (vs ++ ws)
 | [], _, vs, _, h, t => by rw [h.nil_of]; exact t
 | x :: xs, ys, vs, ws, h, t => by
  obtain ⟨v, r, rfl, h1, h2⟩ := h.uncons
  exact .cons h1 (RepL.append h2 t)
theorem RepL.set {d : D} {v : V} (hd : Rep cA av H d v) : ∀ {xs : List D} {vs : List V} (i : Nat), RepL cA av H xs vs -> RepL cA av H (xs.set i d) (vs.set i v)
 | [], vs, _, h => by rw [h.nil_of]; exact .nil
 | x :: xs, vs, 0, h => by
  obtain ⟨v', r, rfl, h1, h2⟩ := h.uncons
  exact .cons hd h2
 | x :: xs, vs, i + 1, h => by
  obtain ⟨v', r, rfl, h1, h2⟩ := h.uncons
  exact .cons h1 (RepL.set hd i h2)
def val : D -> V
 | .bl b => .bl b
 | .int i => .int i
 | .str cs => S cs
 | _ => .non
theorem Rep.val {d : D} {v : V} (hs : Zi d = true) (h : Rep cA av H d v) : v = DL.val d := by
 cases d <;> first | exact h | cases hs
theorem Rep.of_val {d : D} (hs : Zi d = true) : Rep cA av H d (DL.val d) := by
 cases d <;> first | rfl | cases hs
theorem RepL.vals : ∀ {xs : List D} {vs : List V}, xs.all Zi = true -> RepL cA av H xs vs -> vs = xs.map DL.val
 | [], vs, _, h => h.nil_of
 | x :: xs, vs, hs, h => by
  rw [List.all_cons, Bool.and_eq_true] at hs
  obtain ⟨v, r, rfl, h1, h2⟩ := h.uncons
  rw [List.map_cons, h1.val hs.1, RepL.vals hs.2 h2]
theorem RepL.of_vals : ∀ {xs : List D}, xs.all Zi = true -> RepL cA av H xs (xs.map DL.val)
 | [], _ => .nil
 | x :: xs, hs => by
  rw [List.all_cons, Bool.and_eq_true] at hs
  exact .cons (.of_val hs.1) (RepL.of_vals hs.2)
def RepT (cA : Kn) (t i : Addr -> Prop) (H : Hp) : D -> V -> Prop
 | .lst xs, v => ∃ a vs, v = .ref a /\ (t a -> KL cA.K a vs) /\ SqL cA.K H a vs /\ RepL cA i H xs vs
 | .tup xs, v => ∃ a vs, v = .ref a /\ ¬ t a /\ H a = some (.tup vs) /\ RepL cA i H xs vs
 | .obj c ks xs, v => ∃ a dx vs, v = .ref a /\ ¬ t a /\ H a = some (.ins (cA.c c) dx ((ks.map Str.ofString).zip vs)) /\ ks.length = xs.length /\ RepL cA i H xs vs
 | .dct ks xs, v => ∃ a vs, v = .ref a /\ ¬ t a /\ H a = some (.dK (ks.zip vs)) /\ ks.length = xs.length /\ RepL cA i H xs vs
 | d, v => v = DL.val d
theorem Rep.t {d : D} {v : V} (h : Rep cA av H d v) : RepT cA av av H d v := by
 cases d <;> first | exact h | (unfold Rep at h; exact h)
theorem RepT.r {d : D} {v : V} (h : RepT cA av av H d v) : Rep cA av H d v := by
 cases d <;> first | exact h | (unfold Rep; exact h)
theorem RepT.weak {t t' i i' : Addr -> Prop} {d : D} {v : V} (ht : ∀ a, t' a -> t a) (hi : ∀ a, i' a -> i a) (h : RepT cA t i H d v) : RepT cA t' i' H d v := by
 cases d with
 | lst xs => obtain ⟨a, vs, e, n, r, l⟩ := h; exact ⟨a, vs, e, fun z => n (ht a z), r, l.av fun b z => .inl (hi b z)⟩
 | tup xs => obtain ⟨a, vs, e, n, r, l⟩ := h; exact ⟨a, vs, e, fun z => n (ht a z), r, l.av fun b z => .inl (hi b z)⟩
 | obj c ks xs => obtain ⟨a, dx, vs, e, n, r, z, l⟩ := h; exact ⟨a, dx, vs, e, fun z => n (ht a z), r, z, l.av fun b z => .inl (hi b z)⟩
 | dct ks xs => obtain ⟨a, vs, e, n, r, z, l⟩ := h; exact ⟨a, vs, e, fun z => n (ht a z), r, z, l.av fun b z => .inl (hi b z)⟩
 | _ => exact h
theorem RepT.same {t i : Addr -> Prop} {d : D} {v : V} (k : Same H H') (h : RepT cA t i H d v) : RepT cA t i H' d v := by
 cases d with
 | lst xs => obtain ⟨a, vs, e, n, r, l⟩ := h; exact ⟨a, vs, e, n, k.seq r, l.same k⟩
 | tup xs => obtain ⟨a, vs, e, n, r, l⟩ := h; exact ⟨a, vs, e, n, k a _ r, l.same k⟩
 | obj c ks xs => obtain ⟨a, dx, vs, e, n, r, z, l⟩ := h; exact ⟨a, dx, vs, e, n, k a _ r, z, l.same k⟩
 | dct ks xs => obtain ⟨a, vs, e, n, r, z, l⟩ := h; exact ⟨a, vs, e, n, k a _ r, z, l.same k⟩
 | _ => exact h
end
abbrev Env := List (Option D)
structure Cn where
 cA : Kn
 pin : Nat -> Option (Addr ⊕ V)
def AV (av : Addr -> Prop) (A : Nat -> Option Addr) (a : Addr) : Prop := av a \/ ∃ i, A i = some a
def Own (cA : Kn) (av : Addr -> Prop) (H : Hp) : D -> Addr -> Prop
 | .lst xs, a => ∃ vs, H a = some (.lst vs) /\ RepL cA av H xs vs
 | .obj c ks xs, a => ∃ dx vs, H a = some (.ins (cA.c c) dx ((ks.map Str.ofString).zip vs)) /\ ks.length = xs.length /\ RepL cA av H xs vs
 | .dct ks xs, a => ∃ vs, H a = some (.dK (ks.zip vs)) /\ ks.length = xs.length /\ RepL cA av H xs vs
 | _, _ => False
structure ER (G : Cn) (ow : List Nat) (H0 : Hp) (av : Addr -> Prop) (A : Nat -> Option Addr) (σ : St) (H : Hp) (δ : Env) : Prop where
 same : Same H0 H
 avd : ∀ a, av a -> H0 a ≠ none
 fr : ∀ i a, A i = some a -> H0 a = none
 inj : ∀ i j a, A i = some a -> A j = some a -> i = j
 live : ∀ i a, A i = some a -> H a ≠ none
 dom : ∀ i, A i ≠ none -> i ∈ ow
 dom' : ∀ i ∈ ow, A i ≠ none
 len : σ.length = δ.length
 pin : ∀ i a, G.2 i = some (.inl a) -> A i = some a
 kept : ∀ i v, G.2 i = some (.inr v) -> σ[i]? = some (some v)
 var : ∀ (i : Nat) (d : D), δ[i]? = some (some d) -> ∃ v, σ[i]? = some (some v) /\ (A i = none -> Rep G.1 (AV av A) H d v) /\ (∀ a, A i = some a -> v = .ref a /\ Own G.1 (AV av A) H d a)
inductive Ql where
 | cl | tp | dt
def RepQ (cA : Kn) (av : Addr -> Prop) (A : Nat -> Option Addr) (H : Hp) : Ql -> D -> V -> Prop
 | .cl, d, v => RepT cA (AV av A) (AV av A) H d v
 | .tp, d, v => RepT cA av (AV av A) H d v
 | .dt, d, v => RepT cA av av H d v
def Ql.it : Ql -> Ql
 | .dt => .dt
 | _ => .cl
section
variable {cA : Kn} {G : Cn} {ow : List Nat} {H0 H H' : Hp} {av : Addr -> Prop} {A : Nat -> Option Addr} {σ : St} {δ : Env}
theorem AV.l {a : Addr} (h : av a) : AV av A a := .inl h
def Ql.iv (q : Ql) (av : Addr -> Prop) (A : Nat -> Option Addr) : Addr -> Prop := match q with
 | .dt => av
 | _ => AV av A
theorem RepQ.tp {q : Ql} {d : D} {v : V} (h : RepQ cA av A H q d v) : RepT cA av (q.iv av A) H d v := by
 cases q with
 | cl => exact h.weak (fun a => .inl) fun a z => z
 | tp => exact h
 | dt => exact h
theorem RepQ.any {q : Ql} {d : D} {v : V} (h : RepQ cA av A H q d v) : Rep cA av H d v := by
 cases q with
 | cl => exact (h.weak (fun a => .inl) fun a => .inl).r
 | tp => exact (h.weak (fun a z => z) fun a => .inl).r
 | dt => exact h.r
theorem RepQ.same {q : Ql} {d : D} {v : V} (k : Same H H') (h : RepQ cA av A H q d v) : RepQ cA av A H' q d v := by
 cases q <;> exact RepT.same k h
theorem ER.mono (E : ER G ow H0 av A σ H δ) (k : Same H H') : ER G ow H0 av A σ H' δ := by
 refine ⟨E.same.trans k, E.avd, E.fr, E.inj, fun i a e => ?_, E.dom, E.dom', E.len, E.pin, E.kept, fun i d e => ?_⟩
 · have := E.live i a e
   cases q : H a with
   | none => exact absurd q this
   | some o => rw [k a o q]; exact fun z => by cases z
 · obtain ⟨v, h1, h2, h3⟩ := E.var i d e
   refine ⟨v, h1, fun z => (h2 z).same k, fun a z => ⟨(h3 a z).1, ?_⟩⟩
   have := (h3 a z).2
   cases d with
   | lst xs => obtain ⟨vs, q1, q2⟩ := this; exact ⟨vs, k _ _ q1, q2.same k⟩
   | obj c ks xs => obtain ⟨dx, vs, q1, q0, q2⟩ := this; exact ⟨dx, vs, k _ _ q1, q0, q2.same k⟩
   | dct ks xs => obtain ⟨vs, q1, q0, q2⟩ := this; exact ⟨vs, k _ _ q1, q0, q2.same k⟩
   | _ => exact this
theorem ER.avl (E : ER G ow H0 av A σ H δ) : ∀ a, AV av A a -> H a ≠ none := fun a h => by
 rcases h with h | ⟨i, h⟩
 · have := E.avd a h
   cases q : H0 a with
   | none => exact absurd q this
   | some o => rw [E.same a o q]; exact fun z => by cases z
 · exact E.live i a h
theorem ER.avH (E : ER G ow H0 av A σ H δ) : ∀ a, av a -> H a ≠ none := fun a h => E.avl a (.inl h)
end
def VE (G : Cn) (ow : List Nat) (te : TE) (q : Ql) (ε : Env -> Option D) : Prop :=
 ∀ H0 av A σ H δ, ER G ow H0 av A σ H δ -> ∀ d, ε δ = some d -> ∀ Q : VK, (∀ v H', Same H H' -> RepQ G.1 av A H' q d v -> Q v H') -> te σ H Q
def VF (G : Cn) (ow : List Nat) (te : TE) (ε : Env -> Option D) : Prop :=
 ∀ H0 av A σ H δ, ER G ow H0 av A σ H δ -> ∀ d, ε δ = some d -> ∀ Q : VK, (∀ p vs xs H1, Same H H1 -> H1 p = none -> RepL G.1 (AV av A) H1 xs vs -> d = .lst xs -> Q (.ref p) (upd H1 p (.lst vs))) -> te σ H Q
def VT (G : Cn) (ow : List Nat) (tt : TT) (τ : Env -> Option Bool) : Prop :=
 ∀ H0 av A σ H δ, ER G ow H0 av A σ H δ -> ∀ b, τ δ = some b -> ∀ Q : Bool -> Hp -> Prop, (∀ H', Same H H' -> Q b H') -> tt σ H Q
def RepQL (cA : Kn) (av : Addr -> Prop) (A : Nat -> Option Addr) (H : Hp) (q : Ql) : List D -> List V -> Prop
 | [], vs => vs = []
 | x :: xs, vs => ∃ v r, vs = v :: r /\ RepQ cA av A H q x v /\ RepQL cA av A H q xs r
def VA (G : Cn) (ow : List Nat) (ta : TA) (q : Ql) (α : Env -> Option (List D)) : Prop :=
 ∀ H0 av A σ H δ, ER G ow H0 av A σ H δ -> ∀ ds, α δ = some ds -> ∀ Q : List V -> Hp -> Prop, (∀ vs H', Same H H' -> RepQL G.1 av A H' q ds vs -> Q vs H') -> ta σ H Q
section
variable {cA : Kn} {G : Cn} {ow : List Nat}
theorem RepQL.same {av : Addr -> Prop} {A : Nat -> Option Addr} {H H' : Hp} {q : Ql} (k : Same H H') : ∀ {xs : List D} {vs : List V}, RepQL cA av A H q xs vs -> RepQL cA av A H' q xs vs
 | [], _, h => h
 | x :: xs, vs, h => by
  obtain ⟨v, r, e, h1, h2⟩ := h
  exact ⟨v, r, e, h1.same k, RepQL.same k h2⟩
theorem RepQL.cl {av : Addr -> Prop} {A : Nat -> Option Addr} {H : Hp} : ∀ {xs : List D} {vs : List V}, RepQL cA av A H .cl xs vs -> RepL cA (AV av A) H xs vs
 | [], _, h => by unfold RepL; exact h
 | x :: xs, vs, h => by
  obtain ⟨v, r, e, h1, h2⟩ := h
  subst e
  exact .cons (RepT.r h1) (RepQL.cl h2)
theorem RepQL.any {av : Addr -> Prop} {A : Nat -> Option Addr} {H : Hp} {q : Ql} : ∀ {xs : List D} {vs : List V}, RepQL cA av A H q xs vs -> RepL cA av H xs vs
 | [], _, h => by unfold RepL; exact h
 | x :: xs, vs, h => by
  obtain ⟨v, r, e, h1, h2⟩ := h
  subst e
  exact .cons h1.any (RepQL.any h2)
theorem VE.dt {te : TE} {q : Ql} {ε : Env -> Option D} (h : VE G ow te q ε) : VE G ow te .dt ε := fun H0 av A σ H δ E d e Q k =>
 h H0 av A σ H δ E d e Q fun v H' s r => k v H' s r.any.t
theorem Z1 {H : Hp} {p : Addr} {o : HO} (h : H p = none) : Same H (upd H p o) := ZcT h
theorem VF.cl {te : TE} {ε : Env -> Option D} (h : VF G ow te ε) : VE G ow te .cl ε := fun H0 av A σ H δ E d e Q k =>
 h H0 av A σ H δ E d e Q fun p vs xs H1 s hp l hd => by
  subst hd
  refine k _ _ (s.trans (Z1 hp)) ⟨p, vs, rfl, fun z => ((E.mono s).avl p z hp).elim, SqL.of ZJ, l.same (Z1 hp)⟩
def YV (ε : Env -> Option D) (δ : Env) : Option D := match ε δ with
 | some d => if Zi d then some d else none
 | none => none
theorem VE.scal {te : TE} {q : Ql} {ε : Env -> Option D} (h : VE G ow te q ε) : VE G ow te .cl (YV ε) := fun H0 av A σ H δ E d e Q k => by
 unfold YV at e
 cases he : ε δ with
 | none => rw [he] at e; cases e
 | some d' =>
  rw [he] at e
  by_cases hs : Zi d' = true
  · have e' : d' = d := by simpa [hs] using e
    subst e'
    exact h H0 av A σ H δ E d' he Q fun v H' s r => k v H' s (Rep.scal hs r.any).t
  · simp [hs] at e
def Za (i : Nat) (δ : Env) : Option D := match δ[i]? with
 | some (some d) => some d
 | _ => none
theorem Ys {i : Nat} {δ : Env} {d : D} (h : Za i δ = some d) : δ[i]? = some (some d) := by
 unfold Za at h
 cases e : δ[i]? with
 | none => rw [e] at h; cases h
 | some o =>
  rw [e] at h
  cases o with
  | none => cases h
  | some x => exact congrArg (some ∘ some) (Option.some.inj h)
theorem Zc (i : Nat) (hi : (ow.contains i) = false) : VE G ow (Y9 i) .cl (Za i) := fun H0 av A σ H δ E d e Q k => by
 obtain ⟨v, h1, h2, _⟩ := E.var i d (Ys e)
 have hn : A i = none := by
  cases q : A i with
  | none => rfl
  | some a =>
   have := E.dom i (by rw [q]; exact fun z => by cases z)
   simp at hi
   exact absurd this hi
 exact ⟨v, h1, k v H (Same.refl H) (h2 hn).t⟩
theorem XM (i : Nat) (hi : (ow.contains i) = true) : VE G ow (Y9 i) .tp (Za i) := fun H0 av A σ H δ E d e Q k => by
 obtain ⟨v, h1, _, h3⟩ := E.var i d (Ys e)
 have hi' : i ∈ ow := by simpa using hi
 cases q : A i with
 | none => exact absurd q (E.dom' i hi')
 | some a =>
  obtain ⟨rfl, o⟩ := h3 a q
  have na : ¬ av a := fun z => E.avd a z (E.fr i a q)
  refine ⟨_, h1, k _ H (Same.refl H) ?_⟩
  cases d with
  | lst xs => obtain ⟨vs, q1, q2⟩ := o; exact ⟨a, vs, rfl, fun z => (na z).elim, SqL.of q1, q2⟩
  | obj c ks xs => obtain ⟨dx, vs, q1, q0, q2⟩ := o; exact ⟨a, dx, vs, rfl, na, q1, q0, q2⟩
  | dct ks xs => obtain ⟨vs, q1, q0, q2⟩ := o; exact ⟨a, vs, rfl, na, q1, q0, q2⟩
  | _ => exact False.elim o
def eC (d : D) (_ : Env) : Option D := some d
theorem Zr {v : V} {d : D} (hs : Zi d = true) (hv : v = val d) : VE G ow (tC v) .cl (eC d) := fun H0 av A σ H δ E d' e Q k => by
 have e' : d = d' := Option.some.inj e
 subst e' hv
 exact k _ H (Same.refl H) (Rep.of_val hs).t
def Yx (cA : Kn) (r : R2) (f : D -> D -> Option D) : Prop :=
 ∀ (t t' i : Addr -> Prop) (H : Hp) (x y : D) (vx vy : V) (d : D), (∀ a, i a -> H a ≠ none) -> RepT cA t i H x vx -> RepT cA t' i H y vy -> f x y = some d -> ∀ Q : VK, (∀ v H', Same H H' -> Rep cA i H' d v -> Q v H') -> r vx vy H Q
def eOp (f : D -> D -> Option D) (a b : Env -> Option D) (δ : Env) : Option D := match a δ with
 | some x => match b δ with
  | some y => f x y
  | none => none
 | none => none
theorem UE {f : D -> D -> Option D} {a b : Env -> Option D} {δ : Env} {d : D} (h : eOp f a b δ = some d) : ∃ x y, a δ = some x /\ b δ = some y /\ f x y = some d := by
 unfold eOp at h
 cases ea : a δ with
 | none => rw [ea] at h; cases h
 | some x =>
  rw [ea] at h
  cases eb : b δ with
  | none => rw [eb] at h; cases h
  | some y => rw [eb] at h; exact ⟨x, y, rfl, rfl, h⟩
def Ql.jn : Ql -> Ql -> Ql
 | .dt, _ => .dt
 | _, .dt => .dt
 | _, _ => .cl
theorem Ze {r : R2} {f : D -> D -> Option D} {ta tb : TE} {qa qb : Ql} {a b : Env -> Option D} (hr : Yx G.1 r f) (ha : VE G ow ta qa a) (hb : VE G ow tb qb b) : VE G ow (tOp r ta tb) (qa.jn qb) (eOp f a b) := fun H0 av A σ H δ E d e Q k => by
 obtain ⟨x, y, ex, ey, ed⟩ := UE e
 refine ha H0 av A σ H δ E x ex _ fun vx H1 s1 r1 => hb H0 av A σ H1 δ (E.mono s1) y ey _ fun vy H2 s2 r2 => ?_
 have E2 := (E.mono s1).mono s2
 have r1' := (r1.same s2).tp
 have r2' := r2.tp
 have key : ∀ i : Addr -> Prop, (∀ a, i a -> H2 a ≠ none) -> RepT G.1 av i H2 x vx -> RepT G.1 av i H2 y vy -> (∀ v H', Same H2 H' -> Rep G.1 i H' d v -> Q v H') -> r vx vy H2 Q := fun i hi h1 h2 h3 => hr av av i H2 x y vx vy d hi h1 h2 ed Q h3
 have toav : ∀ {dd : D} {v : V}, RepT G.1 av (AV av A) H2 dd v -> RepT G.1 av av H2 dd v := fun h => h.weak (fun a z => z) fun a => .inl
 cases qa with
 | dt =>
  refine key av E2.avH r1' ?_ fun v H' s3 r3 => k v H' ((s1.trans s2).trans s3) r3.t
  cases qb with
  | dt => exact r2'
  | cl => exact toav r2'
  | tp => exact toav r2'
 | cl =>
  cases qb with
  | dt => exact key av E2.avH (toav r1') r2' fun v H' s3 r3 => k v H' ((s1.trans s2).trans s3) r3.t
  | cl => exact key _ E2.avl r1' r2' fun v H' s3 r3 => k v H' ((s1.trans s2).trans s3) r3.t
  | tp => exact key _ E2.avl r1' r2' fun v H' s3 r3 => k v H' ((s1.trans s2).trans s3) r3.t
 | tp =>
  cases qb with
  | dt => exact key av E2.avH (toav r1') r2' fun v H' s3 r3 => k v H' ((s1.trans s2).trans s3) r3.t
  | cl => exact key _ E2.avl r1' r2' fun v H' s3 r3 => k v H' ((s1.trans s2).trans s3) r3.t
  | tp => exact key _ E2.avl r1' r2' fun v H' s3 r3 => k v H' ((s1.trans s2).trans s3) r3.t
end
end DL
namespace DL
open PySem PySem.Spec L2
mutual
def toP : D -> PyData
 | .non => .none
 | .bl b => .bool b
 | .int i => .int i
 | .str cs => .str (tx cs)
 | .lst xs => .list (ZH xs)
 | .tup xs => .tuple (ZH xs)
 | .obj _ _ _ => .dict []
 | .dct _ _ => .dict []
def ZH : List D -> List PyData
 | [] => []
 | x :: xs => toP x :: ZH xs
end
section
variable {X : Cx} {cA : Kn}
mutual
theorem VO {pins : List (Addr × Obj)} {σ : L2.St} {H : Hp} {s : Shared} {av : Addr -> Prop} (hK : cA.K = X.K) (I : Inv X pins σ H s) : ∀ (d : D) (v : V) (u : Value), PyData.canLay0 (toP d) = true -> Rep cA av H d v -> RelV v u -> ∃ as, Reads s.heap u (toP d) as
 | .non, v, u, _, h, r => by
  cases (show v = .non from h); cases r
  exact ⟨_, .none⟩
 | .bl b, v, u, _, h, r => by
  cases (show v = .bl b from h); cases r
  exact ⟨_, .bool b⟩
 | .int i, v, u, _, h, r => by
  cases (show v = .int i from h)
  obtain ⟨t, rfl⟩ := r
  exact ⟨_, .int i t⟩
 | .str cs, v, u, _, h, r => by
  cases (show v = S cs from h)
  obtain ⟨t, rfl⟩ := r
  exact ⟨_, .str _ t⟩
 | .lst xs, v, u, c, h, r => by
  unfold Rep at h
  obtain ⟨a, vs, rfl, _, rd, l⟩ := h
  cases r
  obtain ⟨its, rv, ⟨ob, n, e, hc, hd, hs⟩, z⟩ := I.list (show SqL X.K H a vs from hK ▸ rd)
  obtain ⟨as, ra⟩ := QV hK I xs vs its (by unfold toP PyData.canLay0 at c; exact c) l rv
  unfold toP
  exact ⟨_, .list e hc hs (by simpa using ra)⟩
 | .tup xs, v, u, c, h, r => by
  unfold Rep at h
  obtain ⟨a, vs, rfl, _, rd, l⟩ := h
  cases r
  obtain ⟨z, its, rv, ob, e, hc, n, hd⟩ := (show ObjOk X.prog X.w H s.heap a (.tup vs) from I.hok a _ rd)
  obtain ⟨as, ra⟩ := QV hK I xs vs its (by unfold toP PyData.canLay0 at c; exact c) l rv
  unfold toP
  exact ⟨_, .tuple e hc hd (by simpa using ra)⟩
 | .obj c' ks xs, v, u, c, h, r => by
  unfold toP PyData.canLay0 at c
  cases c
 | .dct ks xs, v, u, c, h, r => by
  unfold toP PyData.canLay0 at c
  cases c
theorem QV {pins : List (Addr × Obj)} {σ : L2.St} {H : Hp} {s : Shared} {av : Addr -> Prop} (hK : cA.K = X.K) (I : Inv X pins σ H s) : ∀ (xs : List D) (vs : List V) (us : List Value), PyData.canLayAll0 (ZH xs) = true -> RepL cA av H xs vs -> Vals vs us -> ∃ as, ReadsAll s.heap us (ZH xs) as
 | [], vs, us, _, h, r => by
  rw [h.nil_of] at r
  cases r
  exact ⟨_, .nil⟩
 | x :: xs, vs, us, c, h, r => by
  obtain ⟨v, rr, rfl, h1, h2⟩ := h.uncons
  cases r with
  | cons r1 r2 =>
   unfold ZH PyData.canLayAll0 at c
   rw [Bool.and_eq_true] at c
   obtain ⟨a1, q1⟩ := VO hK I x v _ c.1 h1 r1
   obtain ⟨a2, q2⟩ := QV hK I xs rr _ c.2 h2 r2
   unfold ZH
   exact ⟨_, .cons q1 q2⟩
end
end
def eqD (x y : D) : Option D :=
 if Zi x && Zi y && scal (val x) (val y) then some (.bl (decide (val x = val y)))
 else if SeqAt.shaped (toP x) && SeqAt.shaped (toP y) then some (.bl (PyData.eqv (toP x) (toP y))) else none
def neD (x y : D) : Option D := match eqD x y with
 | some (.bl b) => some (.bl (!b))
 | _ => none
def UF (cA : Kn) (neg : Bool) : R2 := fun x y H Q => ∃ av av' dx dy b, Rep cA av H dx x /\ Rep cA av' H dy y /\ eqD dx dy = some (.bl b) /\ Q (.bl (neg != b)) H
section
variable {X : Cx} {cA : Kn}
theorem VP (hu : X.A.units + 64 < cLine) (hK : cA.K = X.K := by rfl) : OpR X (compareOp .Eq) (UF cA false) := by
 intro pins s σ H x y v u Q I rx ry h
 obtain ⟨av, av', dx, dy, b, hx, hy, e, q⟩ := h
 unfold eqD at e
 by_cases h1 : (Zi dx && Zi dy && scal (val dx) (val dy)) = true
 · rw [if_pos h1] at e
   simp only [Bool.and_eq_true] at h1
   obtain ⟨⟨s1, s2⟩, s3⟩ := h1
   have e1 := hx.val s1
   have e2 := hy.val s2
   subst e1 e2
   have e' : decide (val dx = val dy) = b := by simpa using e
   exact ZfX pins s σ H _ _ v u Q I rx ry ⟨s3, by rw [e']; simpa using q⟩
 · rw [if_neg h1] at e
   by_cases h2 : (SeqAt.shaped (toP dx) && SeqAt.shaped (toP dy)) = true
   · rw [if_pos h2] at e
     rw [Bool.and_eq_true] at h2
     obtain ⟨as, ra⟩ := VO hK I dx x v (SeqAt.canLay_of_shaped h2.1) hx rx
     obtain ⟨bs, rb⟩ := VO hK I dy y u (SeqAt.canLay_of_shaped h2.2) hy ry
     have e' : PyData.eqv (toP dx) (toP dy) = b := by simpa using e
     exact PyProof.Rows.eq_dataH ra rb h2.1 h2.2 hu (by rw [e']; exact ⟨.bl b, H, I, rfl, by simpa using q⟩)
   · rw [if_neg h2] at e
     cases e
theorem Zds (hu : X.A.units + 64 < cLine) (hK : cA.K = X.K := by rfl) : OpR X (compareOp .NotEq) (UF cA true) := by
 intro pins s σ H x y v u Q I rx ry h
 obtain ⟨av, av', dx, dy, b, hx, hy, e, q⟩ := h
 unfold eqD at e
 by_cases h1 : (Zi dx && Zi dy && scal (val dx) (val dy)) = true
 · rw [if_pos h1] at e
   simp only [Bool.and_eq_true] at h1
   obtain ⟨⟨s1, s2⟩, s3⟩ := h1
   have e1 := hx.val s1
   have e2 := hy.val s2
   subst e1 e2
   have e' : decide (val dx = val dy) = b := by simpa using e
   exact ZfY pins s σ H _ _ v u Q I rx ry ⟨s3, by rw [e']; simpa using q⟩
 · rw [if_neg h1] at e
   by_cases h2 : (SeqAt.shaped (toP dx) && SeqAt.shaped (toP dy)) = true
   · rw [if_pos h2] at e
     rw [Bool.and_eq_true] at h2
     obtain ⟨as, ra⟩ := VO hK I dx x v (SeqAt.canLay_of_shaped h2.1) hx rx
     obtain ⟨bs, rb⟩ := VO hK I dy y u (SeqAt.canLay_of_shaped h2.2) hy ry
     have e' : PyData.eqv (toP dx) (toP dy) = b := by simpa using e
     exact PyProof.Rows.ne_dataH ra rb h2.1 h2.2 hu (by rw [e']; exact ⟨.bl (!b), H, I, rfl, by simpa using q⟩)
   · rw [if_neg h2] at e
     cases e
theorem RepT.av0 {t i : Addr -> Prop} {H : Hp} {d : D} {v : V} (h : RepT cA t i H d v) : Rep cA (fun _ => False) H d v := (h.weak (fun _ z => z.elim) fun _ z => z.elim).r
theorem Zdt {x y d : D} (h : eqD x y = some d) : ∃ b, d = .bl b := by
 unfold eqD at h
 split at h
 · exact ⟨_, (Option.some.inj h).symm⟩
 · split at h
   · exact ⟨_, (Option.some.inj h).symm⟩
   · cases h
theorem VQ : Yx cA (UF cA false) eqD := fun t t' i H x y vx vy d _ hx hy e Q k => by
 obtain ⟨b, rfl⟩ := Zdt e
 exact ⟨_, _, x, y, b, hx.av0, hy.av0, e, k _ H (Same.refl H) (by cases b <;> rfl)⟩
theorem ZeS : Yx cA (UF cA true) neD := fun t t' i H x y vx vy d _ hx hy e Q k => by
 unfold neD at e
 cases he : eqD x y with
 | none => rw [he] at e; cases e
 | some z =>
  obtain ⟨b, rfl⟩ := Zdt he
  rw [he] at e
  have e' : D.bl (!b) = d := Option.some.inj e
  subst e'
  exact ⟨_, _, x, y, b, hx.av0, hy.av0, he, k _ H (Same.refl H) (by cases b <;> rfl)⟩
def Vc (x : List Nat) (n : Int) : List Nat := (List.replicate n.toNat x).flatten
theorem ZaJ (x : List Nat) : ∀ (k : Nat) (acc : Array Nat), (List.replicate k x.toArray).foldl (· ++ ·) acc = acc ++ (List.replicate k x).flatten.toArray
 | 0, acc => by simp
 | k + 1, acc => by
  rw [List.replicate_succ, List.replicate_succ, List.foldl_cons, ZaJ x k, List.flatten_cons]
  simp
theorem Zfn (x : List Nat) (n : Int) : Txt.mul (tx x) n = tx (Vc x n) := by
 unfold Txt.mul Vc
 by_cases h1 : n < 1
 · rw [if_pos h1]
   have : n.toNat = 0 := by omega
   rw [this]
   rfl
 · rw [if_neg h1]
   by_cases h2 : (n == 1 || (tx x).length == 0) = true
   · rw [if_pos h2]
     rw [Bool.or_eq_true] at h2
     rcases h2 with h2 | h2
     · have : n = 1 := by simpa using h2
       subst this
       simp
     · have : x = [] := by
        have : (tx x).length = 0 := by simpa using h2
        rw [Yv] at this
        exact List.eq_nil_of_length_eq_zero this
       subst this
       simp
   · rw [if_neg h2]
     have := ZaJ x n.toNat #[]
     rw [this]
     simp
def rMulS : R2 := fun x y H Q => ∃ a n, x = S a /\ y = .int n /\ (n < 2 ^ 63 /\ -(2 ^ 63) <= n /\ a.length * n.toNat <= sizeLine) /\ Q (S (Vc a n)) H
theorem op_mulS : OpR X (binaryOp .Mult) rMulS := by
 intro pins s σ H x y v u Q I rx ry h
 obtain ⟨a, n, rfl, rfl, ⟨h1, h2, h3⟩, q⟩ := h
 obtain ⟨t, rfl⟩ := rx
 obtain ⟨t', rfl⟩ := ry
 refine SB.mul ⟨?_, fun hn hc => ?_, fun hn hc => ?_⟩ fun t' k => ⟨S (Vc a n), H, I.tok _, ⟨_, by rw [Zfn]⟩, q⟩
 · have e1 : decide (n < -(2 ^ 63 : Int)) = false := decide_eq_false (by omega)
   have e2 : decide (n ≥ 2 ^ 63) = false := decide_eq_false (by omega)
   rw [e1, e2]; rfl
 · rw [Yv]
   have hs : sizeLine = 16777216 := sizeLine_eq
   intro hgt
   have h5 : (a.length : Int) * n <= 16777216 := by
    have : (a.length : Int) * n = ((a.length * n.toNat : Nat) : Int) := by
     rw [Int.natCast_mul, Int.toNat_of_nonneg (by omega)]
    rw [this]; omega
   have h6 : (2 ^ 63 - 1) / n < (a.length : Int) := hgt
   have h7 : (2 ^ 63 - 1 : Int) < (a.length : Int) * n := by
    have := Int.lt_mul_of_ediv_lt (show (0 : Int) < n by omega) h6
    rw [Int.mul_comm]; rw [Int.mul_comm] at this; exact this
   omega
 · rw [Yv]
   show decide (a.length * n.toNat > sizeLine) = false
   exact decide_eq_false (by omega)
instance (i j : Int) : Decidable (CMul i j) := by unfold CMul; infer_instance
instance (i j : Int) : Decidable (YR i j) := by unfold YR; infer_instance
def addD : D -> D -> Option D
 | .int i, .int j => some (.int (i + j))
 | .str a, .str b => if a.length + b.length <= sizeLine then some (.str (a ++ b)) else none
 | _, _ => none
def subD : D -> D -> Option D
 | .int i, .int j => some (.int (i - j))
 | _, _ => none
def ZgS : D -> D -> Option D
 | .int i, .int j => if CMul i j then some (.int (i * j)) else none
 | .str a, .int n => if n < 2 ^ 63 /\ -(2 ^ 63) <= n /\ a.length * n.toNat <= sizeLine then some (.str (Vc a n)) else none
 | _, _ => none
def fdivD : D -> D -> Option D
 | .int i, .int j => if YR i j then some (.int (i / j)) else none
 | _, _ => none
def modD : D -> D -> Option D
 | .int i, .int j => if 0 < j then some (.int (i % j)) else none
 | _, _ => none
def Xi (p : Int -> Int -> Bool) : D -> D -> Option D
 | .int i, .int j => some (.bl (p i j))
 | _, _ => none
theorem Zfo : Yx cA Zf2 addD := fun t t' i H x y vx vy d _ hx hy e Q k => by
 cases x <;> cases y <;> first | (cases e; done) | skip
 · cases (show vx = _ from hx); cases (show vy = _ from hy)
   cases e
   exact .inl ⟨_, _, rfl, rfl, k _ H (Same.refl H) rfl⟩
 · cases (show vx = _ from hx); cases (show vy = _ from hy)
   rename_i a b
   dsimp only [addD] at e
   by_cases hz : a.length + b.length <= sizeLine
   · rw [if_pos hz] at e
     cases e
     exact .inr (.inl ⟨_, _, rfl, rfl, hz, k _ H (Same.refl H) rfl⟩)
   · rw [if_neg hz] at e; cases e
theorem Zfp : Yx cA (rI0 fun i j => .int (i - j)) subD := fun t t' i H x y vx vy d _ hx hy e Q k => by
 cases x <;> cases y <;> first | (cases e; done) | skip
 cases (show vx = _ from hx); cases (show vy = _ from hy)
 cases e
 exact ⟨_, _, rfl, rfl, k _ H (Same.refl H) rfl⟩
theorem XN : Yx cA (rI YR fun i j => .int (i / j)) fdivD := fun t t' i H x y vx vy d _ hx hy e Q k => by
 cases x <;> cases y <;> first | (cases e; done) | skip
 cases (show vx = _ from hx); cases (show vy = _ from hy)
 rename_i a b
 dsimp only [fdivD] at e
 by_cases hz : YR a b
 · rw [if_pos hz] at e
   cases e
   exact ⟨_, _, rfl, rfl, hz, k _ H (Same.refl H) rfl⟩
 · rw [if_neg hz] at e; cases e
theorem Yd : Yx cA (rI (fun _ j => 0 < j) fun i j => .int (i % j)) modD := fun t t' i H x y vx vy d _ hx hy e Q k => by
 cases x <;> cases y <;> first | (cases e; done) | skip
 cases (show vx = _ from hx); cases (show vy = _ from hy)
 rename_i a b
 dsimp only [modD] at e
 by_cases hz : 0 < b
 · rw [if_pos hz] at e
   cases e
   exact ⟨_, _, rfl, rfl, hz, k _ H (Same.refl H) rfl⟩
 · rw [if_neg hz] at e; cases e
theorem QW {p : Int -> Int -> Bool} : Yx cA (rI0 fun i j => .bl (p i j)) (Xi p) := fun t t' i H x y vx vy d _ hx hy e Q k => by
 cases x <;> cases y <;> first | (cases e; done) | skip
 cases (show vx = _ from hx); cases (show vy = _ from hy)
 cases e
 exact ⟨_, _, rfl, rfl, k _ H (Same.refl H) rfl⟩
def inD (neg : Bool) : D -> D -> Option D
 | .str [c], .str b => some (.bl (neg != decide (c ∈ b)))
 | x, .lst ys => if Zi x && ys.all Zi then some (.bl (if neg then !(inV (val x) (ys.map val)) else inV (val x) (ys.map val))) else none
 | x, .tup ys => if Zi x && ys.all Zi then some (.bl (if neg then !(inV (val x) (ys.map val)) else inV (val x) (ys.map val))) else none
 | _, _ => none
theorem QX {d : D} : Zi d = true -> YU (val d) = true := by
 intro h
 cases d <;> first | rfl | cases h
theorem QY : ∀ {xs : List D}, xs.all Zi = true -> (xs.map val).all YU = true
 | [], _ => rfl
 | x :: xs, h => by
  rw [List.all_cons, Bool.and_eq_true] at h
  rw [List.map_cons, List.all_cons, QX h.1, QY h.2]
  rfl
theorem Zd1 {t i : Addr -> Prop} {H : Hp} {d : D} {v : V} (hs : Zi d = true) (h : RepT cA t i H d v) : v = val d := by
 cases d <;> first | exact h | cases hs
theorem UG {neg : Bool} : Yx cA (Va cA.K neg) (inD neg) := fun t t' i H x y vx vy d _ hx hy e Q k => by
 have seq : ∀ ys, (y = .lst ys \/ y = .tup ys) -> (if Zi x && ys.all Zi then some (D.bl (if neg then !(inV (val x) (ys.map val)) else inV (val x) (ys.map val))) else none) = some d -> Va cA.K neg vx vy H Q := fun ys hy' e => by
  by_cases hz : (Zi x && ys.all Zi) = true
  · rw [if_pos hz] at e
    rw [Bool.and_eq_true] at hz
    have ex := Zd1 hz.1 hx
    subst ex
    cases e
    rcases hy' with rfl | rfl
    · obtain ⟨a, vs, rfl, _, rd, l⟩ := hy
      have ev := l.vals hz.2
      subst ev
      exact .inr ⟨a, _, rfl, .inl rd, QX hz.1, QY hz.2, k _ H (Same.refl H) rfl⟩
    · obtain ⟨a, vs, rfl, _, rd, l⟩ := hy
      have ev := l.vals hz.2
      subst ev
      exact .inr ⟨a, _, rfl, .inr (SqT.of rd), QX hz.1, QY hz.2, k _ H (Same.refl H) rfl⟩
  · rw [if_neg hz] at e; cases e
 cases y with
 | lst ys => exact seq ys (.inl rfl) (by cases x <;> first | exact e | (rename_i cs; cases cs <;> first | exact e | (rename_i c r; cases r <;> exact e)))
 | tup ys => exact seq ys (.inr rfl) (by cases x <;> first | exact e | (rename_i cs; cases cs <;> first | exact e | (rename_i c r; cases r <;> exact e)))
 | str b =>
  cases x with
  | str cs =>
   cases cs with
   | nil => cases e
   | cons c r =>
    cases r with
    | cons _ _ => cases e
    | nil =>
     cases (show vx = _ from hx); cases (show vy = _ from hy)
     cases e
     exact .inl ⟨c, b, rfl, rfl, k _ H (Same.refl H) rfl⟩
  | _ => cases e
 | _ => cases x <;> first | (cases e; done) | (rename_i cs; cases cs <;> first | (cases e; done) | (rename_i c r; cases r <;> cases e))
def ixD : D -> D -> Option D
 | .lst xs, .int i => atI xs i
 | .tup xs, .int i => atI xs i
 | .str cs, .int i => if cs.length <= sizeLine then (atI cs i).map fun c => .str [c] else none
 | _, _ => none
theorem ZbN {av : Addr -> Prop} {H : Hp} {xs : List D} {vs : List V} {i : Int} {d : D} (l : RepL cA av H xs vs) (h : atI xs i = some d) : ∃ v, atI vs i = some v /\ Rep cA av H d v := by
 unfold atI at h ⊢
 rw [l.length] at h
 cases e : ixN vs.length i with
 | none => rw [e] at h; cases h
 | some j =>
  rw [e] at h
  exact l.get h
theorem ZB : Yx cA (Uu cA.K) ixD := fun t t' i H x y vx vy d _ hx hy e Q k => by
 cases y <;> first | (cases x <;> cases e; done) | skip
 rename_i j
 cases (show vy = _ from hy)
 cases x <;> first | (cases e; done) | skip
 · cases (show vx = _ from hx)
   rename_i cs
   dsimp only [ixD] at e
   by_cases hz : cs.length <= sizeLine
   · rw [if_pos hz] at e
     cases ea : atI cs j with
     | none => rw [ea] at e; cases e
     | some c =>
      rw [ea] at e
      cases e
      exact .inr (.inr ⟨cs, j, c, rfl, rfl, hz, ea, k _ H (Same.refl H) rfl⟩)
   · rw [if_neg hz] at e; cases e
 · obtain ⟨a, vs, rfl, _, rd, l⟩ := hx
   obtain ⟨v, h1, h2⟩ := ZbN l e
   exact .inl ⟨a, vs, j, v, rfl, rfl, rd, h1, k v H (Same.refl H) h2⟩
 · obtain ⟨a, vs, rfl, _, rd, l⟩ := hx
   obtain ⟨v, h1, h2⟩ := ZbN l e
   exact .inr (.inl ⟨a, vs, j, v, rfl, rfl, SqT.of rd, h1, k v H (Same.refl H) h2⟩)
end
end DL
namespace DL
open PySem PySem.Spec L2
section
variable {cA : Kn} {G : Cn} {ow : List Nat}
def bD : Option D -> Option Bool
 | some (.bl b) => some b
 | _ => none
theorem ZbO {o : Option D} {b : Bool} (h : bD o = some b) : o = some (.bl b) := by
 cases o with
 | none => cases h
 | some d => cases d <;> first | (cases h; rfl) | cases h
def xB (ε : Env -> Option D) (δ : Env) : Option Bool := bD (ε δ)
theorem YW {te : TE} {q : Ql} {ε : Env -> Option D} (h : VE G ow te q ε) : VT G ow (tB te) (xB ε) := fun H0 av A σ H δ E b e Q k =>
 h H0 av A σ H δ E _ (ZbO e) _ fun v H' s r => ⟨b, by cases q <;> exact r, k H' s⟩
theorem YX {te : TE} {q : Ql} {ε : Env -> Option D} (h : VE G ow te q ε) : VT G ow (ZeJ te) (xB ε) := fun H0 av A σ H δ E b e Q k =>
 h H0 av A σ H δ E _ (ZbO e) _ fun v H' s r => ⟨b, by cases q <;> exact r, k H' s⟩
def Ym (τ : Env -> Option Bool) (δ : Env) : Option Bool := match τ δ with
 | some b => some (!b)
 | none => none
theorem UH {t : TT} {τ : Env -> Option Bool} (h : VT G ow t τ) : VT G ow (J0 t) (Ym τ) := fun H0 av A σ H δ E b e Q k => by
 unfold Ym at e
 cases he : τ δ with
 | none => rw [he] at e; cases e
 | some c =>
  rw [he] at e
  cases e
  exact h H0 av A σ H δ E c he _ fun H' s => k H' s
def Z5 (τ υ : Env -> Option Bool) (δ : Env) : Option Bool := match τ δ with
 | some true => υ δ
 | some false => some false
 | none => none
def xOr (τ υ : Env -> Option Bool) (δ : Env) : Option Bool := match τ δ with
 | some true => some true
 | some false => υ δ
 | none => none
theorem UI {t u : TT} {τ υ : Env -> Option Bool} (h : VT G ow t τ) (h' : VT G ow u υ) : VT G ow (JZ t u) (Z5 τ υ) := fun H0 av A σ H δ E b e Q k => by
 unfold Z5 at e
 cases he : τ δ with
 | none => rw [he] at e; cases e
 | some c =>
  rw [he] at e
  refine h H0 av A σ H δ E c he _ fun H' s => ?_
  cases c with
  | true => exact Xf (h' H0 av A σ H' δ (E.mono s) b e _ fun H2 s2 => k H2 (s.trans s2))
  | false => cases e; exact Xe (k H' s)
theorem QZ {t u : TT} {τ υ : Env -> Option Bool} (h : VT G ow t τ) (h' : VT G ow u υ) : VT G ow (tOr t u) (xOr τ υ) := fun H0 av A σ H δ E b e Q k => by
 unfold xOr at e
 cases he : τ δ with
 | none => rw [he] at e; cases e
 | some c =>
  rw [he] at e
  refine h H0 av A σ H δ E c he _ fun H' s => ?_
  cases c with
  | true => cases e; exact Xf (k H' s)
  | false => exact Xe (h' H0 av A σ H' δ (E.mono s) b e _ fun H2 s2 => k H2 (s.trans s2))
theorem VR : VT G ow tYes (fun _ => some true) := fun H0 av A σ H δ E b e Q k => by
 cases e
 exact k H (Same.refl H)
theorem blq {av : Addr -> Prop} {A : Nat -> Option Addr} {H : Hp} {q : Ql} {b : Bool} : RepQ cA av A H q (.bl b) (.bl b) := by cases q <;> exact rfl
theorem qbl {av : Addr -> Prop} {A : Nat -> Option Addr} {H : Hp} {q : Ql} {b : Bool} {v : V} (h : RepQ cA av A H q (.bl b) v) : v = .bl b := by cases q <;> exact h
def Xv (a b : Env -> Option D) (δ : Env) : Option D := match a δ with
 | some (.bl true) => b δ
 | some (.bl false) => some (.bl false)
 | _ => none
def eOr (a b : Env -> Option D) (δ : Env) : Option D := match a δ with
 | some (.bl true) => some (.bl true)
 | some (.bl false) => b δ
 | _ => none
def VU (a : Env -> Option D) (δ : Env) : Option D := match a δ with
 | some (.bl b) => some (.bl (!b))
 | _ => none
theorem Zdu {ta tb : TE} {qa qb : Ql} {a b : Env -> Option D} (ha : VE G ow ta qa a) (hb : VE G ow tb qb b) : VE G ow (J5 ta tb) qb (Xv a b) := fun H0 av A σ H δ E d e Q k => by
 unfold Xv at e
 cases he : a δ with
 | none => rw [he] at e; cases e
 | some x =>
  rw [he] at e
  cases x <;> first | (cases e; done) | skip
  rename_i c
  refine ha H0 av A σ H δ E _ he _ fun v H' s r => ⟨c, qbl r, ?_⟩
  cases c with
  | true => exact Xf (hb H0 av A σ H' δ (E.mono s) d e _ fun v2 H2 s2 r2 => k v2 H2 (s.trans s2) r2)
  | false => cases e; exact Xe (k _ H' s blq)
theorem Zfq {ta : TE} {qa : Ql} {a : Env -> Option D} (ha : VE G ow ta qa a) : VE G ow (J6 ta) .cl (VU a) := fun H0 av A σ H δ E d e Q k => by
 unfold VU at e
 cases he : a δ with
 | none => rw [he] at e; cases e
 | some x =>
  rw [he] at e
  cases x <;> first | (cases e; done) | skip
  cases e
  exact ha H0 av A σ H δ E _ he _ fun v H' s r => ⟨_, qbl r, k _ H' s blq⟩
def eIf (τ : Env -> Option Bool) (a b : Env -> Option D) (δ : Env) : Option D := match τ δ with
 | some true => a δ
 | some false => b δ
 | none => none
def Vd : D -> Bool
 | .non => true
 | _ => false
theorem ZbP {av : Addr -> Prop} {H : Hp} {d : D} {v : V} (h : Rep cA av H d v) : decide (v = .non) = Vd d := by
 cases d with
 | non => cases (show v = _ from h); rfl
 | bl b => cases (show v = _ from h); rfl
 | int i => cases (show v = _ from h); rfl
 | str cs => cases (show v = _ from h); rfl
 | lst xs => unfold Rep at h; obtain ⟨a, vs, rfl, _⟩ := h; rfl
 | tup xs => unfold Rep at h; obtain ⟨a, vs, rfl, _⟩ := h; rfl
 | obj c ks xs => unfold Rep at h; obtain ⟨a, dx, vs, rfl, _⟩ := h; rfl
 | dct ks xs => unfold Rep at h; obtain ⟨a, vs, rfl, _⟩ := h; rfl
def Xw (a : Env -> Option D) (δ : Env) : Option D := match a δ with
 | some d => some (.bl (Vd d))
 | none => none
def Ye (a : Env -> Option D) (δ : Env) : Option D := match a δ with
 | some d => some (.bl (!Vd d))
 | none => none
theorem Zfr {ta : TE} {qa : Ql} {a : Env -> Option D} (ha : VE G ow ta qa a) : VE G ow (JX ta) .cl (Xw a) := fun H0 av A σ H δ E d e Q k => by
 unfold Xw at e
 cases he : a δ with
 | none => rw [he] at e; cases e
 | some x =>
  rw [he] at e
  cases e
  refine ha H0 av A σ H δ E _ he _ fun v H' s r => ?_
  rw [ZbP r.any]
  exact k _ H' s blq
theorem UJ {ta : TE} {qa : Ql} {a : Env -> Option D} (ha : VE G ow ta qa a) : VE G ow (JY ta) .cl (Ye a) := fun H0 av A σ H δ E d e Q k => by
 unfold Ye at e
 cases he : a δ with
 | none => rw [he] at e; cases e
 | some x =>
  rw [he] at e
  cases e
  refine ha H0 av A σ H δ E _ he _ fun v H' s r => ?_
  rw [ZbP r.any]
  exact k _ H' s blq
def Zdv (f g : D -> D -> Option D) (a b c : Env -> Option D) (δ : Env) : Option D := match eOp f a b δ with
 | some (.bl true) => eOp g b c δ
 | some (.bl false) => some (.bl false)
 | _ => none
def ZgT : D -> Option D
 | .int i => some (.int (-i))
 | _ => none
def eUn (f : D -> Option D) (a : Env -> Option D) (δ : Env) : Option D := match a δ with
 | some x => f x
 | none => none
def eNil (_ : Env) : Option (List D) := some []
def Zb (a : Env -> Option D) (r : Env -> Option (List D)) (δ : Env) : Option (List D) := match a δ with
 | some x => match r δ with
  | some xs => some (x :: xs)
  | none => none
 | none => none
theorem Zn {q : Ql} : VA G ow tNil q eNil := fun H0 av A σ H δ E ds e Q k => by
 cases e
 exact k [] H (Same.refl H) rfl
theorem Zg {te : TE} {ta : TA} {q : Ql} {a : Env -> Option D} {r : Env -> Option (List D)} (ha : VE G ow te q a) (hr : VA G ow ta q r) : VA G ow (Vw te ta) q (Zb a r) := fun H0 av A σ H δ E ds e Q k => by
 unfold Zb at e
 cases he : a δ with
 | none => rw [he] at e; cases e
 | some x =>
  rw [he] at e
  cases hr' : r δ with
  | none => rw [hr'] at e; cases e
  | some xs =>
   rw [hr'] at e
   cases e
   exact ha H0 av A σ H δ E x he _ fun v H1 s1 r1 => hr H0 av A σ H1 δ (E.mono s1) xs hr' _ fun vs H2 s2 r2 => k _ H2 (s1.trans s2) ⟨v, vs, rfl, r1.same s2, r2⟩
theorem RepQL.length {av : Addr -> Prop} {A : Nat -> Option Addr} {H : Hp} {q : Ql} {xs : List D} {vs : List V} (h : RepQL cA av A H q xs vs) : xs.length = vs.length := h.any.length
def ZT (α : Env -> Option (List D)) (δ : Env) : Option D := match α δ with
 | some xs => if xs.length <= sizeLine then some (.lst xs) else none
 | none => none
theorem VW {t : TA} {α : Env -> Option (List D)} (h : VA G ow t .cl α) : VF G ow (ZgO t) (ZT α) := fun H0 av A σ H δ E d e Q k => by
 unfold ZT at e
 cases he : α δ with
 | none => rw [he] at e; cases e
 | some xs =>
  rw [he] at e
  by_cases hz : xs.length <= sizeLine
  · have e' : D.lst xs = d := by simpa [hz] using e
    exact h H0 av A σ H δ E xs he _ fun vs H1 s1 r1 => ⟨by rw [<- r1.length]; exact hz, fun p hp => k p vs xs H1 s1 hp r1.cl e'.symm⟩
  · simp [hz] at e
def YY (α : Env -> Option (List D)) (δ : Env) : Option D := match α δ with
 | some xs => if xs.length <= sizeLine then some (.tup xs) else none
 | none => none
theorem Zdw {t : TA} {α : Env -> Option (List D)} (h : VA G ow t .cl α) : VE G ow (ZgN t) .cl (YY α) := fun H0 av A σ H δ E d e Q k => by
 unfold YY at e
 cases he : α δ with
 | none => rw [he] at e; cases e
 | some xs =>
  rw [he] at e
  by_cases hz : xs.length <= sizeLine
  · have e' : D.tup xs = d := by simpa [hz] using e
    subst e'
    refine h H0 av A σ H δ E xs he _ fun vs H1 s1 r1 => ⟨by rw [<- r1.length]; exact hz, fun p hp => k _ _ (s1.trans (Z1 hp)) ⟨p, vs, rfl, fun z => (E.mono s1).avl p z hp, ZJ, r1.cl.same (Z1 hp)⟩⟩
  · simp [hz] at e
def YZ (cA : Kn) (i : Addr -> Prop) (H : Hp) : List D -> List V -> Prop
 | [], vs => vs = []
 | x :: xs, vs => ∃ v r, vs = v :: r /\ (∃ t, RepT cA t i H x v) /\ YZ cA i H xs r
theorem RepQL.il {av : Addr -> Prop} {A : Nat -> Option Addr} {H : Hp} {q : Ql} : ∀ {xs : List D} {vs : List V}, RepQL cA av A H q xs vs -> YZ cA (q.iv av A) H xs vs
 | [], _, h => h
 | x :: xs, vs, h => by
  obtain ⟨v, r, e, h1, h2⟩ := h
  exact ⟨v, r, e, ⟨_, h1.tp⟩, RepQL.il h2⟩
def VY (cA : Kn) (r : List V -> Hp -> VK -> Prop) (f : List D -> Option D) : Prop :=
 ∀ (i : Addr -> Prop) (H : Hp) (ds : List D) (vs : List V) (d : D), (∀ a, i a -> H a ≠ none) -> YZ cA i H ds vs -> f ds = some d -> ∀ Q : VK, (∀ v H', Same H H' -> Rep cA i H' d v -> Q v H') -> r vs H Q
def eCB (f : List D -> Option D) (α : Env -> Option (List D)) (δ : Env) : Option D := match α δ with
 | some ds => f ds
 | none => none
theorem Yn {r : List V -> Hp -> VK -> Prop} {f : List D -> Option D} {t : TA} {q : Ql} {α : Env -> Option (List D)} (hr : VY G.1 r f) (h : VA G ow t q α) : VE G ow (tCB r t) q.it (eCB f α) := fun H0 av A σ H δ E d e Q k => by
 unfold eCB at e
 cases he : α δ with
 | none => rw [he] at e; cases e
 | some ds =>
  rw [he] at e
  refine h H0 av A σ H δ E ds he _ fun vs H1 s1 r1 => ?_
  have E1 := E.mono s1
  cases q with
  | cl => exact hr _ H1 ds vs d E1.avl r1.il e _ fun v H' s r => k v H' (s1.trans s) r.t
  | tp => exact hr _ H1 ds vs d E1.avl r1.il e _ fun v H' s r => k v H' (s1.trans s) r.t
  | dt => exact hr _ H1 ds vs d E1.avH r1.il e _ fun v H' s r => k v H' (s1.trans s) r.t
theorem il1 {i : Addr -> Prop} {H : Hp} {x : D} {vs : List V} (h : YZ cA i H [x] vs) : ∃ v t, vs = [v] /\ RepT cA t i H x v := by
 obtain ⟨v, r, rfl, ⟨t, h1⟩, h2⟩ := h
 cases (show r = [] from h2)
 exact ⟨v, t, rfl, h1⟩
theorem il2 {i : Addr -> Prop} {H : Hp} {x y : D} {vs : List V} (h : YZ cA i H [x, y] vs) : ∃ v u t t', vs = [v, u] /\ RepT cA t i H x v /\ RepT cA t' i H y u := by
 obtain ⟨v, r, rfl, ⟨t, h1⟩, u, r', rfl, ⟨t', h2⟩, h3⟩ := h
 cases (show r' = [] from h3)
 exact ⟨v, u, t, t', rfl, h1, h2⟩
def lenD : List D -> Option D
 | [.str a] => if a.length <= sizeLine then some (.int a.length) else none
 | [.lst xs] => some (.int xs.length)
 | [.tup xs] => some (.int xs.length)
 | _ => none
theorem YF : VY cA (QP cA.K) lenD := fun i H ds vs d _ h e Q k => by
 cases ds with
 | nil => cases e
 | cons x r =>
  cases r with
  | cons _ _ => cases x <;> cases e
  | nil =>
   obtain ⟨v, t, rfl, hx⟩ := il1 h
   cases x <;> first | (cases e; done) | skip
   · rename_i a
     dsimp only [lenD] at e
     by_cases hz : a.length <= sizeLine
     · rw [if_pos hz] at e
       cases e
       exact .inl ⟨a, by rw [show v = S a from hx], hz, k _ H (Same.refl H) rfl⟩
     · rw [if_neg hz] at e; cases e
   · obtain ⟨a, ws, rfl, _, rd, l⟩ := hx
     cases e
     exact .inr ⟨a, ws, rfl, .inl rd, k _ H (Same.refl H) (by rw [l.length]; rfl)⟩
   · obtain ⟨a, ws, rfl, _, rd, l⟩ := hx
     cases e
     exact .inr ⟨a, ws, rfl, .inr (SqT.of rd), k _ H (Same.refl H) (by rw [l.length]; rfl)⟩
def minD : List D -> Option D
 | [.int i, .int j] => some (.int (if j < i then j else i))
 | _ => none
def ZgU : List D -> Option D
 | [.int i, .int j] => some (.int (if j > i then j else i))
 | _ => none
theorem Zd2 {ds : List D} {d : D} (e : minD ds = some d) : ∃ i j, ds = [.int i, .int j] /\ d = .int (if j < i then j else i) := by
 unfold minD at e
 split at e
 · exact ⟨_, _, rfl, (Option.some.inj e).symm⟩
 · cases e
theorem Zfs : VY cA (fun xs H Q => ∃ i j, xs = [.int i, .int j] /\ Q (.int (if j < i then j else i)) H) minD := fun i H ds vs d _ h e Q k => by
 obtain ⟨a, b, rfl, rfl⟩ := Zd2 e
 obtain ⟨v, u, t, t', rfl, h1, h2⟩ := il2 h
 cases (show v = _ from h1); cases (show u = _ from h2)
 exact ⟨a, b, rfl, k _ H (Same.refl H) rfl⟩
def intD : List D -> Option D
 | [.str a] => if a.length <= 640 /\ a ≠ [] /\ a.all Uq = true then some (.int (QG a : Nat)) else none
 | [.bl b] => some (.int (if b then 1 else 0))
 | _ => none
theorem Zft : VY cA rIntX intD := fun i H ds vs d _ h e Q k => by
 unfold intD at e
 split at e
 · rename_i a
   obtain ⟨v, t, rfl, hx⟩ := il1 h
   cases (show v = _ from hx)
   by_cases hz : a.length <= 640 /\ a ≠ [] /\ a.all Uq = true
   · rw [if_pos hz] at e
     cases e
     exact .inl ⟨a, rfl, hz.1, hz.2.1, hz.2.2, k _ H (Same.refl H) rfl⟩
   · rw [if_neg hz] at e; cases e
 · rename_i b
   obtain ⟨v, t, rfl, hx⟩ := il1 h
   cases (show v = _ from hx)
   cases e
   exact .inr ⟨b, rfl, k _ H (Same.refl H) rfl⟩
 · cases e
def YG : List D -> Option D
 | [.lst xs] => some (.tup xs)
 | [.tup xs] => some (.tup xs)
 | _ => none
def ZeT : List D -> Option D
 | [.lst xs] => some (.lst xs)
 | [.tup xs] => some (.lst xs)
 | _ => none
theorem UK {t : TA} {α : Env -> Option (List D)} (h : VA G ow t .cl α) : VE G ow (tCB (Zdp G.1.K) t) .cl (eCB YG α) := fun H0 av A σ H δ E d e Q k => by
 unfold eCB at e
 cases he : α δ with
 | none => rw [he] at e; cases e
 | some ds =>
  rw [he] at e
  refine h H0 av A σ H δ E ds he _ fun vs H1 s1 r1 => ?_
  have E1 := E.mono s1
  have e : YG ds = some d := e
  unfold YG at e
  split at e
  · rename_i xs
    cases e
    obtain ⟨v, r, rfl, ⟨a, ws, rfl, _, rd, l⟩, h2⟩ := r1
    cases (show r = [] from h2)
    exact ⟨a, ws, rfl, .inl ⟨rd, fun p hp => k _ _ (s1.trans (Z1 hp)) ⟨p, ws, rfl, fun z => E1.avl p z hp, ZJ, l.same (Z1 hp)⟩⟩⟩
  · rename_i xs
    cases e
    obtain ⟨v, r, rfl, ⟨a, ws, rfl, na, rd, l⟩, h2⟩ := r1
    cases (show r = [] from h2)
    exact ⟨a, ws, rfl, .inr ⟨SqT.of rd, k _ H1 s1 ⟨a, ws, rfl, na, rd, l⟩⟩⟩
  · cases e
end
end DL
namespace DL
open PySem PySem.Spec L2
inductive Out where
 | nx (δ : Env)
 | rt (d : D)
 | bk (δ : Env)
 | ct (δ : Env)
def ZeU (G : Cn) (owN owB owC : List Nat) (H0 : Hp) (av : Addr -> Prop) (De : Ends) : Out -> Prop
 | .nx δ' => ∀ A' σ' H', ER G owN H0 av A' σ' H' δ' -> De.nx σ' H'
 | .rt d => ∀ v H', Same H0 H' -> Rep G.1 av H' d v -> De.rt v H'
 | .bk δ' => ∀ A' σ' H', ER G owB H0 av A' σ' H' δ' -> De.bk σ' H'
 | .ct δ' => ∀ A' σ' H', ER G owC H0 av A' σ' H' δ' -> De.ct σ' H'
def VS (G : Cn) (ow owN owB owC : List Nat) (ts : TS) (φ : Env -> Option Out) : Prop :=
 ∀ H0 av A σ H δ, ER G ow H0 av A σ H δ -> ∀ o, φ δ = some o -> ∀ De : Ends, ZeU G owN owB owC H0 av De o -> ts De σ H
def VG (G : Cn) (ow ow' : List Nat) (g : TG) (γ : D -> Env -> Option Env) : Prop :=
 ∀ H0 av A σ H δ, ER G ow H0 av A σ H δ -> ∀ d v, Rep G.1 (AV av A) H d v -> ∀ δ', γ d δ = some δ' -> ∀ Q : L2.St -> Hp -> Prop, (∀ A' σ' H', Same H H' -> ER G ow' H0 av A' σ' H' δ' -> Q σ' H') -> g v σ H Q
def sub (a b : List Nat) : Bool := a.all fun x => b.contains x
theorem UL {a b : List Nat} (h : sub a b = true) : ∀ x ∈ a, x ∈ b := fun x hx => by
 have := List.all_eq_true.mp h x hx
 simpa using this
section
variable {cA : Kn} {G : Cn} {ow owN owB owC ow1 ow2 : List Nat} {H0 H H' : Hp} {av : Addr -> Prop} {A : Nat -> Option Addr} {σ : L2.St} {δ : Env}
theorem UM {α : Type} {l : List (Option α)} {i j : Nat} {x y : α} (h : (l.set i (some x))[j]? = some (some y)) : (j = i /\ y = x /\ i < l.length) \/ (j ≠ i /\ l[j]? = some (some y)) := by
 by_cases e : j = i
 · subst e
   by_cases hl : j < l.length
   · rw [List.getElem?_set_self hl] at h
     exact .inl ⟨rfl, (Option.some.inj (Option.some.inj h)).symm, hl⟩
   · rw [List.getElem?_eq_none (by simpa using hl)] at h
     cases h
 · rw [List.getElem?_set_ne (Ne.symm e)] at h
   exact .inr ⟨e, h⟩
theorem ER.set {i : Nat} {d : D} {v : V} (E : ER G ow H0 av A σ H δ) (h : Rep G.1 (AV av A) H d v) (hw : ∀ j, j ∈ ow1 ↔ j ∈ ow /\ j ≠ i) (hn : G.2 i = none) :
 ER G ow1 H0 av (fun j => if j = i then none else A j) (σ.set i (some v)) H (δ.set i (some d)) := by
 have less : ∀ b, AV av (fun j => if j = i then none else A j) b -> AV av A b := fun b z => by
  rcases z with z | ⟨j, z⟩
  · exact .inl z
  · by_cases e : j = i
    · simp [e] at z
    · simp [e] at z; exact .inr ⟨j, z⟩
 refine ⟨E.same, E.avd, fun j a e => ?_, fun j k a e1 e2 => ?_, fun j a e => ?_, fun j e => ?_, fun j hj => ?_, by simp [E.len], fun j a e => (by
  have q : j ≠ i := fun z => by rw [z, hn] at e; cases e
  simp only [q, if_false]; exact E.pin j a e), (fun j v' e => by
  have q : j ≠ i := fun z => by rw [z, hn] at e; cases e
  rw [List.getElem?_set_ne (Ne.symm q)]; exact E.kept j v' e), fun j d' e => ?_⟩
 · by_cases q : j = i
   · simp [q] at e
   · simp [q] at e; exact E.fr j a e
 · by_cases q : j = i
   · simp [q] at e1
   · by_cases q2 : k = i
     · simp [q2] at e2
     · simp [q] at e1; simp [q2] at e2; exact E.inj j k a e1 e2
 · by_cases q : j = i
   · simp [q] at e
   · simp [q] at e; exact E.live j a e
 · by_cases q : j = i
   · simp [q] at e
   · simp [q] at e; exact (hw j).mpr ⟨E.dom j e, q⟩
 · obtain ⟨h1, h2⟩ := (hw j).mp hj
   simp [h2]
   exact E.dom' j h1
 · rcases UM e with ⟨rfl, rfl, hl⟩ | ⟨q, e'⟩
   · refine ⟨v, ?_, fun _ => h.av fun b z => .inl (less b z), fun a z => by simp at z⟩
     rw [List.getElem?_set_self (by rw [E.len]; exact hl)]
   · obtain ⟨v', h1, h2, h3⟩ := E.var j d' e'
     refine ⟨v', by rw [List.getElem?_set_ne (Ne.symm q)]; exact h1, fun z => ?_, fun a z => ?_⟩
     · simp [q] at z
       exact (h2 z).av fun b z => .inl (less b z)
     · simp [q] at z
       obtain ⟨r1, r2⟩ := h3 a z
       refine ⟨r1, ?_⟩
       cases d' with
       | lst xs => obtain ⟨vs, q1, q2⟩ := r2; exact ⟨vs, q1, q2.av fun b z => .inl (less b z)⟩
       | obj c ks xs => obtain ⟨dx, vs, q1, q0, q2⟩ := r2; exact ⟨dx, vs, q1, q0, q2.av fun b z => .inl (less b z)⟩
       | dct ks xs => obtain ⟨vs, q1, q0, q2⟩ := r2; exact ⟨vs, q1, q0, q2.av fun b z => .inl (less b z)⟩
       | _ => exact r2
theorem ER.own {i : Nat} {xs : List D} {vs : List V} {p : Addr} (E : ER G ow H0 av A σ H δ) (hp : H p = none) (l : RepL G.1 (AV av A) H xs vs) (hw : ∀ j, j ∈ ow1 ↔ j ∈ ow \/ j = i) (hn : G.2 i = none) :
 ER G ow1 H0 av (fun j => if j = i then some p else A j) (σ.set i (some (.ref p))) (upd H p (.lst vs)) (δ.set i (some (.lst xs))) := by
 have hs : Same H (upd H p (.lst vs)) := Z1 hp
 have less : ∀ b, AV av (fun j => if j = i then some p else A j) b -> AV av A b \/ H b = none := fun b z => by
  rcases z with z | ⟨j, z⟩
  · exact .inl (.inl z)
  · by_cases e : j = i
    · simp [e] at z; subst z; exact .inr hp
    · simp [e] at z; exact .inl (.inr ⟨j, z⟩)
 have np : ∀ j a, A j = some a -> a ≠ p := fun j a e z => by subst z; exact E.live j a e hp
 have h0 : H0 p = none := by
  cases q : H0 p with
  | none => rfl
  | some o => rw [E.same p o q] at hp; cases hp
 refine ⟨E.same.trans hs, E.avd, fun j a e => ?_, fun j k a e1 e2 => ?_, fun j a e => ?_, fun j e => ?_, fun j hj => ?_, by simp [E.len], fun j a e => (by
  have q : j ≠ i := fun z => by rw [z, hn] at e; cases e
  simp only [q, if_false]; exact E.pin j a e), (fun j v' e => by
  have q : j ≠ i := fun z => by rw [z, hn] at e; cases e
  rw [List.getElem?_set_ne (Ne.symm q)]; exact E.kept j v' e), fun j d' e => ?_⟩
 · by_cases q : j = i
   · simp [q] at e; subst e; exact h0
   · simp [q] at e; exact E.fr j a e
 · by_cases q : j = i
   · by_cases q2 : k = i
     · rw [q, q2]
     · simp [q] at e1; simp [q2] at e2
       exact absurd e1.symm (np k a e2)
   · by_cases q2 : k = i
     · simp [q] at e1; simp [q2] at e2
       exact absurd e2.symm (np j a e1)
     · simp [q] at e1; simp [q2] at e2; exact E.inj j k a e1 e2
 · by_cases q : j = i
   · simp [q] at e; subst e; rw [ZJ]; exact fun z => by cases z
   · simp [q] at e
     rw [Zs (np j a e)]
     exact E.live j a e
 · by_cases q : j = i
   · exact (hw j).mpr (.inr q)
   · simp [q] at e; exact (hw j).mpr (.inl (E.dom j e))
 · by_cases q : j = i
   · simp [q]
   · simp [q]
     exact E.dom' j (((hw j).mp hj).resolve_right q)
 · rcases UM e with ⟨rfl, rfl, hl⟩ | ⟨q, e'⟩
   · refine ⟨.ref p, ?_, fun z => by simp at z, fun a z => ?_⟩
     · rw [List.getElem?_set_self (by rw [E.len]; exact hl)]
     · simp at z
       subst z
       exact ⟨rfl, vs, ZJ, (l.av less).same hs⟩
   · obtain ⟨v', h1, h2, h3⟩ := E.var j d' e'
     refine ⟨v', by rw [List.getElem?_set_ne (Ne.symm q)]; exact h1, fun z => ?_, fun a z => ?_⟩
     · simp [q] at z
       exact ((h2 z).av less).same hs
     · simp [q] at z
       obtain ⟨r1, r2⟩ := h3 a z
       refine ⟨r1, ?_⟩
       cases d' with
       | lst xs => obtain ⟨vs', q1, q2⟩ := r2; exact ⟨vs', hs _ _ q1, (q2.av less).same hs⟩
       | obj c ks xs => obtain ⟨dx, vs', q1, q0, q2⟩ := r2; exact ⟨dx, vs', hs _ _ q1, q0, (q2.av less).same hs⟩
       | dct ks xs => obtain ⟨vs', q1, q0, q2⟩ := r2; exact ⟨vs', hs _ _ q1, q0, (q2.av less).same hs⟩
       | _ => exact r2
theorem ER.put {i : Nat} {a : Addr} {d d' : D} (E : ER G ow H0 av A σ H δ) (hi : A i = some a) (hd : δ[i]? = some (some d)) (hk : ∀ b o, b ≠ a -> H b = some o -> H' b = some o) (hl : H' a ≠ none) (ho : Own G.1 (AV av A) H' d' a) :
 ER G ow H0 av A σ H' (δ.set i (some d')) := by
 have kk : ∀ b o, ¬ AV av A b -> H b = some o -> H' b = some o := fun b o n e => hk b o (fun z => n (.inr ⟨i, by rw [z]; exact hi⟩)) e
 refine ⟨fun b o e => hk b o (fun z => ?_) (E.same b o e), E.avd, E.fr, E.inj, fun j b e => ?_, E.dom, E.dom', by simp [E.len], E.pin, E.kept, fun j d'' e => ?_⟩
 · rw [z, E.fr i a hi] at e; cases e
 · by_cases q : b = a
   · subst q; exact hl
   · have := E.live j b e
     cases e' : H b with
     | none => exact absurd e' this
     | some o => rw [hk b o q e']; exact fun z => by cases z
 · rcases UM e with ⟨rfl, rfl, hl'⟩ | ⟨q, e'⟩
   · obtain ⟨v, h1, _, h3⟩ := E.var j d hd
     obtain ⟨r1, _⟩ := h3 a hi
     exact ⟨v, h1, fun z => (by rw [hi] at z; cases z), fun b z => by
      rw [hi] at z; cases z
      exact ⟨r1, ho⟩⟩
   · obtain ⟨v', h1, h2, h3⟩ := E.var j d'' e'
     refine ⟨v', h1, fun z => (h2 z).ext kk, fun b z => ?_⟩
     obtain ⟨r1, r2⟩ := h3 b z
     have nb : b ≠ a := fun w => q (E.inj j i a (by rw [<- w]; exact z) hi)
     refine ⟨r1, ?_⟩
     cases d'' with
     | lst xs => obtain ⟨vs, q1, q2⟩ := r2; exact ⟨vs, hk _ _ nb q1, q2.ext kk⟩
     | obj c ks xs => obtain ⟨dx, vs, q1, q0, q2⟩ := r2; exact ⟨dx, vs, hk _ _ nb q1, q0, q2.ext kk⟩
     | dct ks xs => obtain ⟨vs, q1, q0, q2⟩ := r2; exact ⟨vs, hk _ _ nb q1, q0, q2.ext kk⟩
     | _ => exact r2
theorem ER.freeze (i : Nat) (E : ER G ow H0 av A σ H δ) (hw : ∀ j, j ∈ ow1 ↔ j ∈ ow /\ j ≠ i) (hn : G.2 i = none) : ER G ow1 H0 av (fun j => if j = i then none else A j) σ H δ := by
 have less : ∀ b, AV av (fun j => if j = i then none else A j) b -> AV av A b := fun b z => by
  rcases z with z | ⟨j, z⟩
  · exact .inl z
  · by_cases e : j = i
    · simp [e] at z
    · simp [e] at z; exact .inr ⟨j, z⟩
 refine ⟨E.same, E.avd, fun j a e => ?_, fun j k a e1 e2 => ?_, fun j a e => ?_, fun j e => ?_, fun j hj => ?_, E.len, fun j a e => (by
  have q : j ≠ i := fun z => by rw [z, hn] at e; cases e
  simp only [q, if_false]; exact E.pin j a e), E.kept, fun j d' e => ?_⟩
 · by_cases q : j = i
   · simp [q] at e
   · simp [q] at e; exact E.fr j a e
 · by_cases q : j = i
   · simp [q] at e1
   · by_cases q2 : k = i
     · simp [q2] at e2
     · simp [q] at e1; simp [q2] at e2; exact E.inj j k a e1 e2
 · by_cases q : j = i
   · simp [q] at e
   · simp [q] at e; exact E.live j a e
 · by_cases q : j = i
   · simp [q] at e
   · simp [q] at e; exact (hw j).mpr ⟨E.dom j e, q⟩
 · obtain ⟨h1, h2⟩ := (hw j).mp hj
   simp [h2]
   exact E.dom' j h1
 · obtain ⟨v', h1, h2, h3⟩ := E.var j d' e
   refine ⟨v', h1, fun z => ?_, fun a z => ?_⟩
   · by_cases q : j = i
     · subst q
       cases hA : A j with
       | none => exact (h2 hA).av fun b z => .inl (less b z)
       | some a =>
        obtain ⟨rfl, r2⟩ := h3 a hA
        have na : ¬ AV av (fun k => if k = j then none else A k) a := fun z => by
         rcases z with z | ⟨k, z⟩
         · exact E.avd a z (E.fr j a hA)
         · by_cases qk : k = j
           · simp [qk] at z
           · simp [qk] at z; exact qk (E.inj k j a z hA)
        cases d' with
        | lst xs => obtain ⟨vs, q1, q2⟩ := r2; unfold Rep; exact ⟨a, vs, rfl, fun z => (na z).elim, SqL.of q1, q2.av fun b z => .inl (less b z)⟩
        | obj c ks xs => obtain ⟨dx, vs, q1, q0, q2⟩ := r2; unfold Rep; exact ⟨a, dx, vs, rfl, na, q1, q0, q2.av fun b z => .inl (less b z)⟩
        | dct ks xs => obtain ⟨vs, q1, q0, q2⟩ := r2; unfold Rep; exact ⟨a, vs, rfl, na, q1, q0, q2.av fun b z => .inl (less b z)⟩
        | _ => exact False.elim r2
     · simp [q] at z
       exact (h2 z).av fun b z => .inl (less b z)
   · by_cases q : j = i
     · simp [q] at z
     · simp [q] at z
       obtain ⟨r1, r2⟩ := h3 a z
       refine ⟨r1, ?_⟩
       cases d' with
       | lst xs => obtain ⟨vs, q1, q2⟩ := r2; exact ⟨vs, q1, q2.av fun b z => .inl (less b z)⟩
       | obj c ks xs => obtain ⟨dx, vs, q1, q0, q2⟩ := r2; exact ⟨dx, vs, q1, q0, q2.av fun b z => .inl (less b z)⟩
       | dct ks xs => obtain ⟨vs, q1, q0, q2⟩ := r2; exact ⟨vs, q1, q0, q2.av fun b z => .inl (less b z)⟩
       | _ => exact r2
open Classical in
noncomputable def cut (A : Nat -> Option Addr) (H : Hp) : Hp := fun b => if ∃ i, A i = some b then none else H b
theorem Q0 {b : Addr} {o : HO} (h : cut A H b = some o) : H b = some o /\ ¬ ∃ i, A i = some b := by
 unfold cut at h
 by_cases e : ∃ i, A i = some b
 · rw [if_pos e] at h; cases h
 · rw [if_neg e] at h; exact ⟨h, e⟩
theorem Ve {b : Addr} (e : ¬ ∃ i, A i = some b) : cut A H b = H b := by
 unfold cut
 rw [if_neg e]
theorem ER.cut (E : ER G ow H0 av A σ H δ) : ER G ow (DL.cut A H) av A σ H δ := by
 refine ⟨fun b o e => (Q0 e).1, fun a z => ?_, fun i a e => ?_, E.inj, E.live, E.dom, E.dom', E.len, E.pin, E.kept, E.var⟩
 · rw [Ve fun ⟨i, e⟩ => E.avd a z (E.fr i a e)]
   exact E.avH a z
 · unfold DL.cut
   rw [if_pos ⟨i, e⟩]
theorem ER.sub0 (E : ER G ow H0 av A σ H δ) : Same H0 (DL.cut A H) := fun b o e => by
 rw [Ve fun ⟨i, z⟩ => by rw [E.fr i b z] at e; cases e]
 exact E.same b o e
theorem ER.uncut {A' : Nat -> Option Addr} {σ' : L2.St} {δ' : Env} (E : ER G ow H0 av A σ H δ) (E' : ER G ow1 (DL.cut A H) av A' σ' H' δ') : ER G ow1 H0 av A' σ' H' δ' :=
 ⟨E.sub0.trans E'.same, E.avd, fun i a e => E.sub0.free (E'.fr i a e), E'.inj, E'.live, E'.dom, E'.dom', E'.len, E'.pin, E'.kept, E'.var⟩
def sNext (δ : Env) : Option Out := some (.nx δ)
theorem XO : VS G ow ow owB owC tNext sNext := fun H0 av A σ H δ E o e De k => by
 cases e
 exact k A σ H E
def Zd (φ ψ : Env -> Option Out) (δ : Env) : Option Out := match φ δ with
 | some (.nx δ') => ψ δ'
 | r => r
theorem ZG {t u : TS} {φ ψ : Env -> Option Out} (h1 : VS G ow ow1 owB owC t φ) (h2 : VS G ow1 owN owB owC u ψ) : VS G ow owN owB owC (Uf t u) (Zd φ ψ) := fun H0 av A σ H δ E o e De k => by
 unfold Zd at e
 cases he : φ δ with
 | none => rw [he] at e; cases e
 | some o1 =>
  rw [he] at e
  refine h1 H0 av A σ H δ E o1 he _ ?_
  cases o1 with
  | nx δ' => exact fun A' σ' H' E' => h2 H0 av A' σ' H' δ' E' o e De k
  | rt d => cases e; exact k
  | bk δ' => cases e; exact k
  | ct δ' => cases e; exact k
def sIf (τ : Env -> Option Bool) (φ ψ : Env -> Option Out) (δ : Env) : Option Out := match τ δ with
 | some true => φ δ
 | some false => ψ δ
 | none => none
theorem XQ {c : TT} {t u : TS} {τ : Env -> Option Bool} {φ ψ : Env -> Option Out} (hc : VT G ow c τ) (h1 : VS G ow owN owB owC t φ) (h2 : VS G ow owN owB owC u ψ) : VS G ow owN owB owC (Qr c t u) (sIf τ φ ψ) := fun H0 av A σ H δ E o e De k => by
 unfold sIf at e
 cases he : τ δ with
 | none => rw [he] at e; cases e
 | some b =>
  rw [he] at e
  refine hc H0 av A σ H δ E b he _ fun H' s => ?_
  cases b with
  | true => exact Xf (h1 H0 av A σ H' δ (E.mono s) o e De k)
  | false => exact Xe (h2 H0 av A σ H' δ (E.mono s) o e De k)
def ZE (ε : Env -> Option D) (δ : Env) : Option Out := match ε δ with
 | some d => some (.rt d)
 | none => none
theorem Yt {te : TE} {q : Ql} {ε : Env -> Option D} (h : VE G ow te q ε) : VS G ow owN owB owC (Qq te) (ZE ε) := fun H0 av A σ H δ E o e De k => by
 unfold ZE at e
 cases he : ε δ with
 | none => rw [he] at e; cases e
 | some d =>
  rw [he] at e
  cases e
  exact h H0 av A σ H δ E d he _ fun v H' s r => k v H' (E.same.trans s) r.any
def ZeV (_ : Env) : Option Out := some (.rt .non)
def sNever (_ : Env) : Option Out := none
theorem ZcW {ts : TS} : VS G ow owN owB owC ts sNever := fun H0 av A σ H δ E o e De k => by cases e
def Zh (i : Nat) (ε : Env -> Option D) (δ : Env) : Option Out := match ε δ with
 | some d => some (.nx (δ.set i (some d)))
 | none => none
theorem Q1 {i : Nat} (h1 : sub ow1 ow = true) (h2 : ow1.contains i = false) (h3 : sub ow (i :: ow1) = true) : ∀ j, j ∈ ow1 ↔ j ∈ ow /\ j ≠ i := fun j => by
 constructor
 · intro h
   refine ⟨UL h1 j h, fun e => ?_⟩
   subst e
   have : j ∉ ow1 := by simpa using h2
   exact this h
 · rintro ⟨h, n⟩
   rcases List.mem_cons.mp (UL h3 j h) with e | e
   · exact absurd e n
   · exact e
theorem Za7 {i : Nat} (h1 : sub ow1 (i :: ow) = true) (h2 : ow1.contains i = true) (h3 : sub ow ow1 = true) : ∀ j, j ∈ ow1 ↔ j ∈ ow \/ j = i := fun j => by
 constructor
 · intro h
   rcases List.mem_cons.mp (UL h1 j h) with e | e
   · exact .inr e
   · exact .inl e
 · rintro (h | rfl)
   · exact UL h3 j h
   · simpa using h2
theorem ZY {te : TE} {ε : Env -> Option D} (i : Nat) (h : VE G ow te .cl ε) (hn : G.2 i = none) (h1 : sub owN ow = true) (h2 : owN.contains i = false) (h3 : sub ow (i :: owN) = true) : VS G ow owN owB owC (Xd te (Xc i)) (Zh i ε) := fun H0 av A σ H δ E o e De k => by
 unfold Zh at e
 cases he : ε δ with
 | none => rw [he] at e; cases e
 | some d =>
  rw [he] at e
  cases e
  exact h H0 av A σ H δ E d he _ fun v H' s r => k _ _ H' ((E.mono s).set (RepT.r r) (Q1 h1 h2 h3) hn)
theorem UN {te : TE} {ε : Env -> Option D} (i : Nat) (h : VF G ow te ε) (hn : G.2 i = none) (h1 : sub owN (i :: ow) = true) (h2 : owN.contains i = true) (h3 : sub ow owN = true) : VS G ow owN owB owC (Xd te (Xc i)) (Zh i ε) := fun H0 av A σ H δ E o e De k => by
 unfold Zh at e
 cases he : ε δ with
 | none => rw [he] at e; cases e
 | some d =>
  rw [he] at e
  cases e
  refine h H0 av A σ H δ E d he _ fun p vs xs H1 s hp l hd => ?_
  subst hd
  exact k _ _ _ ((E.mono s).own hp l (Za7 h1 h2 h3) hn)
def Q2 (ε : Env -> Option D) (δ : Env) : Option Out := match ε δ with
 | some _ => some (.nx δ)
 | none => none
def Xx (i : Nat) (ε : Env -> Option D) (δ : Env) : Option Out := match Za i δ with
 | some (.lst xs) => match ε δ with
  | some d => if xs.length < sizeLine then some (.nx (δ.set i (some (.lst (xs ++ [d]))))) else none
  | none => none
 | _ => none
theorem Zdx {K : PySem.W.Frag} {te : TE} {ε : Env -> Option D} (i : Nat) (hi : ow.contains i = true) (h : VE G ow te .cl ε) : VS G ow ow owB owC (J9 (tBM K "list" rAppend (Y9 i) (Vw te tNil))) (Xx i ε) := fun H0 av A σ H δ E o e De k => by
 unfold Xx at e
 cases hv : Za i δ with
 | none => rw [hv] at e; cases e
 | some x =>
  rw [hv] at e
  cases x <;> first | (cases e; done) | skip
  rename_i xs
  dsimp only at e
  cases he : ε δ with
  | none => rw [he] at e; cases e
  | some d =>
   rw [he] at e
   dsimp only at e
   by_cases hz : xs.length < sizeLine
   · rw [if_pos hz] at e
     cases e
     have hi' : i ∈ ow := by simpa using hi
     cases hA : A i with
     | none => exact absurd hA (E.dom' i hi')
     | some a =>
      obtain ⟨v, h1, _, h3⟩ := E.var i _ (Ys hv)
      obtain ⟨rfl, vs, q1, q2⟩ := h3 a hA
      refine ⟨_, h1, .inl ⟨rfl, vs, SqL.of q1⟩, h H0 av A σ H δ E d he _ fun v H' s r => ?_⟩
      have E' := E.mono s
      have q1' := s _ _ q1
      refine ⟨a, vs, v, rfl, rfl, q1', by rw [<- q2.length]; exact hz, k A σ _ (E'.put hA (Ys hv) (fun b o hb e => by rw [Zs hb]; exact e) (by rw [ZJ]; exact fun z => by cases z) ⟨_, ZJ, ?_⟩)⟩
      have ex : ∀ b o, ¬ AV av A b -> H' b = some o -> upd H' a (.lst (vs ++ [v])) b = some o := fun b o n e => by
       rw [Zs fun z => n (.inr ⟨i, by rw [z]; exact hA⟩)]
       exact e
      exact ((q2.same s).append (.cons (RepT.r r) .nil)).ext ex
   · rw [if_neg hz] at e; cases e
theorem VS.frz {t : TS} {φ : Env -> Option Out} (i : Nat) (h : VS G ow1 owN owB owC t φ) (hn : G.2 i = none) (h1 : sub ow1 ow = true) (h2 : ow1.contains i = false) (h3 : sub ow (i :: ow1) = true) : VS G ow owN owB owC t φ := fun H0 av A σ H δ E o e De k =>
 h H0 av _ σ H δ (E.freeze i (Q1 h1 h2 h3) hn) o e De k
def Zl (i : Nat) (d : D) (δ : Env) : Option Env := some (δ.set i (some d))
theorem YH (i : Nat) (hi : ow.contains i = false) (hn : G.2 i = none) : VG G ow ow (Xc i) (Zl i) := fun H0 av A σ H δ E d v r δ' e Q k => by
 cases e
 exact k _ _ H (Same.refl H) (E.set r (fun j => by
  have : i ∉ ow := by simpa using hi
  exact ⟨fun h => ⟨h, fun z => this (z ▸ h)⟩, fun h => h.1⟩) hn)
def Vf (cA : Kn) (iv : Addr -> Prop) (J : It) (xs : List D) (H0 : Hp) : Prop := ∀ H, Same H0 H ->
 (∀ i, i < xs.length -> J.go i H) /\
 (∀ (i : Nat) x v H', xs[i]? = some x -> J.yld i H v H' -> Same H H' /\ ∀ av' : Addr -> Prop, (∀ b, av' b -> H b ≠ none) -> (∀ b, av' b -> iv b \/ H0 b = none) -> Rep cA av' H' x v) /\
 (∀ i, xs.length <= i -> J.stop i H)
def VI (G : Cn) (ow : List Nat) (wi : TI) (ι : Env -> Option (List D)) : Prop :=
 ∀ H0 av A σ H δ, ER G ow H0 av A σ H δ -> ∀ xs, ι δ = some xs -> ∀ R : It -> Hp -> Prop, (∀ J H1, Same H H1 -> Vf G.1 (AV av A) J xs (DL.cut A H1) -> R J H1) -> wi σ H R
def Z2 (γ : D -> Env -> Option Env) (φ : Env -> Option Out) : List D -> Env -> Option Out
 | [], δ => some (.nx δ)
 | x :: r, δ => match γ x δ with
  | none => none
  | some δ1 => match φ δ1 with
   | none => none
   | some (.nx δ2) => Z2 γ φ r δ2
   | some (.ct δ2) => Z2 γ φ r δ2
   | some (.bk δ2) => some (.nx δ2)
   | some (.rt d) => some (.rt d)
def ZL (ι : Env -> Option (List D)) (γ : D -> Env -> Option Env) (φ : Env -> Option Out) (δ : Env) : Option Out := match ι δ with
 | some xs => Z2 γ φ xs δ
 | none => none
theorem VZ {wi : TI} {g : TG} {tb : TS} {ι : Env -> Option (List D)} {γ : D -> Env -> Option Env} {φ : Env -> Option Out} (hi : VI G ow wi ι) (hg : VG G ow ow g γ) (hb : VS G ow ow ow ow tb φ) : VS G ow ow owB owC (Qy wi g tb) (ZL ι γ φ) := fun H0 av A σ H δ E o e De k => by
 unfold ZL at e
 cases he : ι δ with
 | none => rw [he] at e; cases e
 | some xs =>
  rw [he] at e
  have e : Z2 γ φ xs δ = some o := e
  refine hi H0 av A σ H δ E xs he _ fun J H1 s1 W => ?_
  have E1 := E.mono s1
  refine ⟨fun i m σ' H' => m = xs.length - i /\ i <= xs.length /\ ∃ A' δ', ER G ow (DL.cut A H1) av A' σ' H' δ' /\ Z2 γ φ (xs.drop i) δ' = some o, ⟨xs.length, by simp, Nat.zero_le _, A, δ, E1.cut, e⟩, ?_⟩
  rintro i m σ' H' ⟨rfl, hle, A', δ', E', e'⟩
  obtain ⟨w1, w2, w3⟩ := W H' E'.same
  by_cases hlt : i < xs.length
  · refine .inr ⟨w1 i hlt, fun σ2 H2 => ∃ A2 δ2, ER G ow (DL.cut A H1) av A2 σ2 H2 δ2 /\ Z2 γ φ (xs.drop (i + 1)) δ2 = some o, fun σ2 H2 ⟨A2, δ2, E2, e2⟩ => ⟨xs.length - (i + 1), by omega, rfl, hlt, A2, δ2, E2, e2⟩, fun v H2 y => ?_⟩
    have hx : xs[i]? = some xs[i] := List.getElem?_eq_getElem hlt
    obtain ⟨s2, rep⟩ := w2 i _ v H2 hx y
    have E2 := E'.mono s2
    have rep' : Rep G.1 (AV av A') H2 xs[i] v := rep _ E'.avl fun b z => by
     rcases z with z | ⟨j, z⟩
     · exact .inl (.inl z)
     · exact .inr (E'.fr j b z)
    rw [List.drop_eq_getElem_cons hlt] at e'
    unfold Z2 at e'
    cases hγ : γ xs[i] δ' with
    | none => rw [hγ] at e'; cases e'
    | some δ1 =>
     rw [hγ] at e'
     dsimp only at e'
     refine hg _ av A' σ' H2 δ' E2 _ v rep' δ1 hγ _ fun A3 σ3 H3 s3 E3 => ?_
     cases hφ : φ δ1 with
     | none => rw [hφ] at e'; cases e'
     | some o1 =>
      rw [hφ] at e'
      refine hb _ av A3 σ3 H3 δ1 E3 o1 hφ _ ?_
      cases o1 with
      | nx δ2 => exact fun A4 σ4 H4 E4 => ⟨A4, δ2, E4, e'⟩
      | ct δ2 => exact fun A4 σ4 H4 E4 => ⟨A4, δ2, E4, e'⟩
      | bk δ2 => cases e'; exact fun A4 σ4 H4 E4 => k A4 σ4 H4 (E1.uncut E4)
      | rt d => cases e'; exact fun v H4 s4 r4 => k v H4 (E1.sub0.trans s4) r4
  · have ei : i = xs.length := by omega
    subst ei
    rw [List.drop_length] at e'
    cases e'
    exact .inl ⟨w3 _ (Nat.le_refl _), k A' σ' H' (E1.uncut E')⟩
def ZU (τ : Env -> Option Bool) (φ : Env -> Option Out) : Nat -> Env -> Option Out
 | 0, _ => none
 | n + 1, δ => match τ δ with
  | none => none
  | some false => some (.nx δ)
  | some true => match φ δ with
   | none => none
   | some (.nx δ2) => ZU τ φ n δ2
   | some (.ct δ2) => ZU τ φ n δ2
   | some (.bk δ2) => some (.nx δ2)
   | some (.rt d) => some (.rt d)
theorem UO {τ : Env -> Option Bool} {φ : Env -> Option Out} : ∀ (n k : Nat) (δ : Env) (o : Out), ZU τ φ n δ = some o -> ZU τ φ (n + k) δ = some o
 | 0, _, _, _, h => by cases h
 | n + 1, k, δ, o, h => by
  rw [Nat.add_right_comm]
  unfold ZU at h ⊢
  cases ht : τ δ with
  | none => rw [ht] at h; cases h
  | some b =>
   rw [ht] at h
   cases b with
   | false => exact h
   | true =>
    dsimp only at h ⊢
    cases hp : φ δ with
    | none => rw [hp] at h; cases h
    | some o1 =>
     rw [hp] at h
     cases o1 with
     | nx δ2 => exact UO n k δ2 o h
     | ct δ2 => exact UO n k δ2 o h
     | bk δ2 => exact h
     | rt d => exact h
open Classical in
noncomputable def Z3 (τ : Env -> Option Bool) (φ : Env -> Option Out) (δ : Env) : Option Out := if h : ∃ n o, ZU τ φ n δ = some o then ZU τ φ (Classical.choose h) δ else none
theorem Zct {τ : Env -> Option Bool} {φ : Env -> Option Out} {δ : Env} {n : Nat} {o : Out} (h : ZU τ φ n δ = some o) : Z3 τ φ δ = some o := by
 have hx : ∃ n o, ZU τ φ n δ = some o := ⟨n, o, h⟩
 unfold Z3
 rw [dif_pos hx]
 obtain ⟨o', ho'⟩ := Classical.choose_spec hx
 have h1 := UO _ n δ o' ho'
 have h2 := UO _ (Classical.choose hx) δ o h
 rw [Nat.add_comm, h2] at h1
 rw [ho', h1]
theorem Zai {τ : Env -> Option Bool} {φ : Env -> Option Out} {δ : Env} {o : Out} (h : Z3 τ φ δ = some o) : ∃ n, ZU τ φ n δ = some o := by
 unfold Z3 at h
 split at h
 · exact ⟨_, h⟩
 · cases h
theorem Za8 {c : TT} {tb : TS} {τ : Env -> Option Bool} {φ : Env -> Option Out} (hc : VT G ow c τ) (hb : VS G ow ow ow ow tb φ) : VS G ow ow owB owC (Qt c tb) (Z3 τ φ) := fun H0 av A σ H δ E o e De k => by
 obtain ⟨n, e⟩ := Zai e
 refine ⟨fun m σ' H' => ∃ A' δ', ER G ow H0 av A' σ' H' δ' /\ ZU τ φ m δ' = some o, ⟨n, A, δ, E, e⟩, ?_⟩
 rintro m σ' H' ⟨A', δ', E', e'⟩
 cases m with
 | zero => cases e'
 | succ m =>
  unfold ZU at e'
  cases ht : τ δ' with
  | none => rw [ht] at e'; cases e'
  | some b =>
   rw [ht] at e'
   refine hc H0 av A' σ' H' δ' E' b ht _ fun H2 s2 => ?_
   have E2 := E'.mono s2
   cases b with
   | false => cases e'; exact Xe (k A' σ' H2 E2)
   | true =>
    dsimp only at e'
    refine Xf ⟨fun σ3 H3 => ∃ A3 δ3, ER G ow H0 av A3 σ3 H3 δ3 /\ ZU τ φ m δ3 = some o, fun σ3 H3 ⟨A3, δ3, E3, e3⟩ => ⟨m, Nat.lt_succ_self _, A3, δ3, E3, e3⟩, ?_⟩
    cases hφ : φ δ' with
    | none => rw [hφ] at e'; cases e'
    | some o1 =>
     rw [hφ] at e'
     refine hb H0 av A' σ' H2 δ' E2 o1 hφ _ ?_
     cases o1 with
     | nx δ2 => exact fun A4 σ4 H4 E4 => ⟨A4, δ2, E4, e'⟩
     | ct δ2 => exact fun A4 σ4 H4 E4 => ⟨A4, δ2, E4, e'⟩
     | bk δ2 => cases e'; exact k
     | rt d => cases e'; exact k
end
end DL
namespace DL
open PySem PySem.Spec L2
section
variable {cA : Kn} {G : Cn} {ow owN owB owC : List Nat}
def Yo (ε : Env -> Option D) (δ : Env) : Option (List D) := match ε δ with
 | some (.lst xs) => some xs
 | some (.tup xs) => some xs
 | some (.str cs) => some (cs.map fun c => .str [c])
 | _ => none
theorem Rep.cut {av : Addr -> Prop} {A : Nat -> Option Addr} {H : Hp} {d : D} {v : V} (h : Rep cA (AV av A) H d v) : Rep cA (AV av A) (DL.cut A H) d v := h.ext fun b o n e => by
 rw [Ve fun ⟨i, z⟩ => n (.inr ⟨i, z⟩)]
 exact e
theorem RepL.cut {av : Addr -> Prop} {A : Nat -> Option Addr} {H : Hp} {d : List D} {v : List V} (h : RepL cA (AV av A) H d v) : RepL cA (AV av A) (DL.cut A H) d v := h.ext fun b o n e => by
 rw [Ve fun ⟨i, z⟩ => n (.inr ⟨i, z⟩)]
 exact e
theorem Zbw {iv : Addr -> Prop} {H0 : Hp} {a : Addr} {vs : List V} {xs : List D} (rd : SqL cA.K H0 a vs) (l : RepL cA iv H0 xs vs) : Vf cA iv (Itl cA.K a) xs H0 := fun H s => by
 have rd' : SqL cA.K H a vs := s.seq rd
 refine ⟨fun i hi => ?_, fun i x v H' hx y => ?_, fun i hi => ⟨vs, rd', by rw [<- l.length]; exact hi⟩⟩
 · obtain ⟨v, hv, _⟩ := l.get (List.getElem?_eq_getElem hi)
   exact ⟨vs, v, rd', hv⟩
 · obtain ⟨rfl, hy⟩ := y
   obtain ⟨v', hv, r⟩ := l.get hx
   rw [hy vs rd'] at hv
   cases hv
   exact ⟨Same.refl _, fun av' _ h2 => (r.av h2).same s⟩
theorem Zcu {K : PySem.W.Frag} {iv : Addr -> Prop} {H0 : Hp} {a : Addr} {vs : List V} {xs : List D} (rd : H0 a = some (.tup vs)) (l : RepL cA iv H0 xs vs) : Vf cA iv (Itt K a) xs H0 := fun H s => by
 have rd' : SqT K H a vs := SqT.of (s _ _ rd)
 refine ⟨fun i hi => ?_, fun i x v H' hx y => ?_, fun i hi => ⟨vs, rd', by rw [<- l.length]; exact hi⟩⟩
 · obtain ⟨v, hv, _⟩ := l.get (List.getElem?_eq_getElem hi)
   exact ⟨vs, v, rd', hv⟩
 · obtain ⟨rfl, hy⟩ := y
   obtain ⟨v', hv, r⟩ := l.get hx
   rw [hy vs rd'] at hv
   cases hv
   exact ⟨Same.refl _, fun av' _ h2 => (r.av h2).same s⟩
theorem Zcv {iv : Addr -> Prop} {H0 : Hp} {cs : List Nat} : Vf cA iv (Its cs) (cs.map fun c => .str [c]) H0 := fun H s => by
 refine ⟨fun i hi => (show i < cs.length by simpa using hi), fun i x v H' hx y => ?_, fun i hi => (show cs.length <= i by simpa using hi)⟩
 obtain ⟨rfl, c, hc, rfl⟩ := y
 rw [List.getElem?_map, hc] at hx
 cases hx
 exact ⟨Same.refl _, fun _ _ _ => rfl⟩
theorem UP {tl : TE} {ε : Env -> Option D} (h : VE G ow tl .cl ε) : VI G ow (QN G.1.K tl) (Yo ε) := fun H0 av A σ H δ E xs e R k => by
 unfold Yo at e
 cases he : ε δ with
 | none => rw [he] at e; cases e
 | some d =>
  rw [he] at e
  refine h H0 av A σ H δ E d he _ fun v H1 s r => ?_
  cases d <;> first | (cases e; done) | skip
  · cases e
    exact .inr (.inr ⟨_, r, k _ H1 s Zcv⟩)
  · cases e
    obtain ⟨a, vs, rfl, na, rd, l⟩ := r
    exact .inl ⟨a, vs, rfl, rd, k _ H1 s (Zbw (Zdr na rd fun b o n e => by rw [Ve fun ⟨i, z⟩ => n (.inr ⟨i, z⟩)]; exact e) l.cut)⟩
  · cases e
    obtain ⟨a, vs, rfl, na, rd, l⟩ := r
    exact .inr (.inl ⟨a, vs, rfl, SqT.of rd, k _ H1 s (Zcu (by rw [Ve fun ⟨i, z⟩ => na (.inr ⟨i, z⟩)]; exact rd) l.cut)⟩)
def Zy (lo c : Int) (n : Nat) : List D := (List.range n).map fun k => .int (lo + (k : Nat) * c)
theorem UQ {iv : Addr -> Prop} {H0 : Hp} {lo : Int} {n : Nat} : Vf cA iv (Itr lo n) (Zy lo 1 n) H0 := fun H s => by
 refine ⟨fun i hi => (show i < n by simpa [Zy] using hi), fun i x v H' hx y => ?_, fun i hi => (show n <= i by simpa [Zy] using hi)⟩
 obtain ⟨rfl, rfl⟩ := y
 have hi : i < n := by have := (List.getElem?_eq_some_iff.mp hx).1; simpa [Zy] using this
 have : x = .int (lo + i) := by
  unfold Zy at hx
  rw [List.getElem?_map, List.getElem?_range hi] at hx
  have := Option.some.inj hx
  rw [<- this]
  show D.int (lo + (i : Int) * 1) = _
  rw [Int.mul_one]
 subst this
 exact ⟨Same.refl _, fun _ _ _ => rfl⟩
def Zt (α : Env -> Option (List D)) (δ : Env) : Option (List D) := match α δ with
 | some [.int j] => if -(2 ^ 62) <= j /\ j < 2 ^ 62 then some (Zy 0 1 j.toNat) else none
 | some [.int i, .int j] => if -(2 ^ 62) <= i /\ i < 2 ^ 62 /\ -(2 ^ 62) <= j /\ j < 2 ^ 62 then some (Zy i 1 (j - i).toNat) else none
 | some [.int i, .int j, .int c] => if c ≠ 0 /\ c.natAbs < 1073741824 /\ Builtin.Range.small i j c = true then some (Zy i c (Builtin.Range.rangeSize i j c).toNat) else none
 | _ => none
theorem ql1 {av : Addr -> Prop} {A : Nat -> Option Addr} {H : Hp} {q : Ql} {x : Int} {vs : List V} (h : RepQL cA av A H q [.int x] vs) : vs = [.int x] := by
 obtain ⟨v, r, rfl, h1, h2⟩ := h
 have := h1.any
 cases (show v = _ from this); cases (show r = [] from h2); rfl
theorem ql2 {av : Addr -> Prop} {A : Nat -> Option Addr} {H : Hp} {q : Ql} {x y : Int} {vs : List V} (h : RepQL cA av A H q [.int x, .int y] vs) : vs = [.int x, .int y] := by
 obtain ⟨v, r, rfl, h1, h2⟩ := h
 have := h1.any
 cases (show v = _ from this); rw [ql1 h2]
theorem Vg {ta : TA} {q : Ql} {a : Env -> Option (List D)} (h : VA G ow ta q a) (hl : ∀ δ ds, a δ = some ds -> ds.length = 1) : VI G ow (Qw ta) (Zt a) := fun H0 av A σ H δ E xs e R k => by
 unfold Zt at e
 cases he : a δ with
 | none => rw [he] at e; cases e
 | some ds =>
  rw [he] at e
  refine h H0 av A σ H δ E ds he _ fun vs H1 s r => ?_
  have hln := hl δ ds he
  split at e
  · rename_i j he2
    cases he2
    by_cases hz : -(2 ^ 62) <= j /\ j < 2 ^ 62
    · rw [if_pos hz] at e
      cases e
      exact ⟨j, ql1 r, hz.1, hz.2, k _ H1 s UQ⟩
    · rw [if_neg hz] at e; cases e
  · rename_i he2; cases he2; simp at hln
  · rename_i he2; cases he2; simp at hln
  · cases e
theorem Zd3 {ta : TA} {q : Ql} {a : Env -> Option (List D)} (h : VA G ow ta q a) (hl : ∀ δ ds, a δ = some ds -> ds.length = 2) : VI G ow (Qx ta) (Zt a) := fun H0 av A σ H δ E xs e R k => by
 unfold Zt at e
 cases he : a δ with
 | none => rw [he] at e; cases e
 | some ds =>
  rw [he] at e
  refine h H0 av A σ H δ E ds he _ fun vs H1 s r => ?_
  have hln := hl δ ds he
  split at e
  · rename_i he2; cases he2; simp at hln
  · rename_i i j he2
    cases he2
    by_cases hz : -(2 ^ 62) <= i /\ i < 2 ^ 62 /\ -(2 ^ 62) <= j /\ j < 2 ^ 62
    · rw [if_pos hz] at e
      cases e
      exact ⟨i, j, ql2 r, hz, k _ H1 s UQ⟩
    · rw [if_neg hz] at e; cases e
  · rename_i he2; cases he2; simp at hln
  · cases e
theorem Zd4 {δ : Env} {ds : List D} (h : eNil δ = some ds) : ds.length = 0 := by cases h; rfl
theorem Za9 {a : Env -> Option D} {r : Env -> Option (List D)} {n : Nat} (hr : ∀ δ ds, r δ = some ds -> ds.length = n) : ∀ δ ds, Zb a r δ = some ds -> ds.length = n + 1 := fun δ ds h => by
 unfold Zb at h
 cases ha : a δ with
 | none => rw [ha] at h; cases h
 | some x =>
  rw [ha] at h
  cases hr' : r δ with
  | none => rw [hr'] at h; cases h
  | some xs => rw [hr'] at h; cases h; rw [List.length_cons, hr δ xs hr']
theorem Xj {a : Env -> Option D} : ∀ δ ds, Zb a eNil δ = some ds -> ds.length = 1 := Za9 fun _ _ => Zd4
theorem ZgV {a b : Env -> Option D} : ∀ δ ds, Zb a (Zb b eNil) δ = some ds -> ds.length = 2 := Za9 Xj
def Yf (n : Nat) (δ : Env) (js : List Nat) : Env := List.replicate n none ++ js.map fun j => (δ[j]?).getD none
def ZM (γ : D -> Env -> Option Env) (τ : Env -> Option Bool) (ε : Env -> Option D) (δ0 : Env) : List D -> Option (List D)
 | [] => some []
 | x :: r => match γ x δ0 with
  | none => none
  | some δ1 => match τ δ1 with
   | none => none
   | some false => ZM γ τ ε δ0 r
   | some true => match ε δ1 with
    | none => none
    | some y => match ZM γ τ ε δ0 r with
     | none => none
     | some ys => some (y :: ys)
def ZN (ι : Env -> Option (List D)) (γ : D -> Env -> Option Env) (τ : Env -> Option Bool) (ε : Env -> Option D) (n : Nat) (js : List Nat) (δ : Env) : Option D := match ι δ with
 | none => none
 | some xs => match ZM γ τ ε (Yf n δ js) xs with
  | none => none
  | some ys => if ys.length <= sizeLine then some (.lst ys) else none
theorem ER.blk {H0 H : Hp} {av : Addr -> Prop} {A : Nat -> Option Addr} {σ : L2.St} {δ : Env} (n : Nat) (js : List Nat) (hjs : js.all (fun j => !ow.contains j) = true) (E : ER G ow H0 av A σ H δ) :
 ER ⟨G.1, fun _ => none⟩ [] H (AV av A) (fun _ => none) (L2.blk n σ js) H (Yf n δ js) := by
 refine ⟨Same.refl H, E.avl, fun _ _ z => (by cases z), fun _ _ _ z => (by cases z), fun _ _ z => (by cases z), fun _ z => absurd rfl z, fun _ z => (by cases z), ?_, fun _ _ z => (by cases z), fun _ _ z => (by cases z), fun i d e => ?_⟩
 · unfold L2.blk Yf VH
   rw [List.length_append, List.length_append, List.length_replicate, List.length_replicate, List.length_map, List.length_map]
 · unfold Yf at e
   by_cases hi : i < n
   · rw [List.getElem?_append_left (by simpa using hi), List.getElem?_replicate, if_pos hi] at e
     cases e
   · rw [List.getElem?_append_right (by simpa using hi), List.length_replicate, List.getElem?_map] at e
     cases hj : js[i - n]? with
     | none => rw [hj] at e; cases e
     | some j =>
      rw [hj] at e
      have e' : (δ[j]?).getD none = some d := Option.some.inj e
      have e2 : δ[j]? = some (some d) := by
       cases q : δ[j]? with
       | none => rw [q] at e'; cases e'
       | some z => rw [q] at e'; exact congrArg some e'
      obtain ⟨v, h1, h2, _⟩ := E.var j d e2
      have hjo : A j = none := by
       cases q : A j with
       | none => rfl
       | some a =>
        have h3 := E.dom j (by rw [q]; exact fun z => by cases z)
        have h4 := List.all_eq_true.mp hjs j (List.mem_of_getElem? hj)
        simp at h4
        exact absurd h3 h4
      refine ⟨v, ?_, fun _ => (h2 hjo).av fun b z => ?_, fun _ z => (by cases z)⟩
      · unfold L2.blk VH
        rw [List.getElem?_append_right (by simpa using hi), List.length_replicate, List.getElem?_map, hj]
        show some ((σ[j]?).getD none) = _
        rw [h1]; rfl
      · rcases z with z | ⟨_, z⟩
        · exact .inl z
        · cases z
theorem V0 {wi : TI} {g : TG} {tt : TT} {te : TE} {n : Nat} {js : List Nat} {ι : Env -> Option (List D)} {γ : D -> Env -> Option Env} {τ : Env -> Option Bool} {ε : Env -> Option D}
 (hjs : js.all (fun j => !ow.contains j) = true) (hi : VI G ow wi ι) (hg : VG ⟨G.1, fun _ => none⟩ [] [] g γ) (ht : VT ⟨G.1, fun _ => none⟩ [] tt τ) (he : VE ⟨G.1, fun _ => none⟩ [] te .cl ε) : VF G ow (Ur wi g tt te n js) (ZN ι γ τ ε n js) := fun H0 av A σ H δ E d e Q k => by
 unfold ZN at e
 cases hι : ι δ with
 | none => rw [hι] at e; cases e
 | some xs =>
  rw [hι] at e
  dsimp only at e
  cases hc : ZM γ τ ε (Yf n δ js) xs with
  | none => rw [hc] at e; cases e
  | some full =>
   rw [hc] at e
   dsimp only at e
   by_cases hz : full.length <= sizeLine
   · rw [if_pos hz] at e
     have ed : D.lst full = d := Option.some.inj e
     refine hi H0 av A σ H δ E xs hι _ fun J H1 s1 W => ?_
     have E1 := E.mono s1
     refine ⟨fun i m ys H' => m = xs.length - i /\ i <= xs.length /\ Same H1 H' /\ ∃ done rest, RepL G.1 (AV av A) H' done ys /\ ZM γ τ ε (Yf n δ js) (xs.drop i) = some rest /\ done ++ rest = full,
      ⟨xs.length, by simp, Nat.zero_le _, Same.refl _, [], full, .nil, hc, rfl⟩, ?_⟩
     rintro i m ys H' ⟨rfl, hle, s', done, rest, rl, hr, hf⟩
     have E' := E1.mono s'
     have sc : Same (DL.cut A H1) H' := fun b o z => s' b o (Q0 z).1
     obtain ⟨w1, w2, w3⟩ := W H' sc
     by_cases hlt : i < xs.length
     · refine .inr ⟨w1 i hlt, fun v H2 y => ?_⟩
       have hx : xs[i]? = some xs[i] := List.getElem?_eq_getElem hlt
       obtain ⟨s2, rep⟩ := w2 i _ v H2 hx y
       have rep' : Rep G.1 (AV av A) H2 xs[i] v := rep _ E'.avl fun b z => .inl z
       have E2 := E'.mono s2
       have EB : ER ⟨G.1, fun _ => none⟩ [] H2 (AV av A) (fun _ => none) (L2.blk n σ js) H2 (Yf n δ js) := E2.blk n js hjs
       have triv : ∀ (A' : Nat -> Option Addr) {σ' : L2.St} {H3 : Hp} {δ' : Env}, ER ⟨G.1, fun _ => none⟩ [] H2 (AV av A) A' σ' H3 δ' -> ∀ b, AV (AV av A) A' b ↔ AV av A b := fun A' {σ' H3 δ'} E3 b => by
        constructor
        · rintro (z | ⟨j, z⟩)
          · exact z
          · have := E3.dom j (by rw [z]; exact fun z => by cases z)
            cases this
        · exact fun z => .inl z
       rw [List.drop_eq_getElem_cons hlt] at hr
       unfold ZM at hr
       cases hγ : γ xs[i] (Yf n δ js) with
       | none => rw [hγ] at hr; cases hr
       | some δ1 =>
        rw [hγ] at hr
        dsimp only at hr
        refine hg _ _ _ _ H2 _ EB _ v (rep'.av fun b z => .inl ((triv _ EB b).mp z)) δ1 hγ _ fun A3 σ3 H3 s3 E3 => ?_
        cases hτ : τ δ1 with
        | none => rw [hτ] at hr; cases hr
        | some c =>
         rw [hτ] at hr
         refine ht _ _ A3 σ3 H3 δ1 E3 c hτ _ fun H4 s4 => ?_
         have E4 := E3.mono s4
         cases c with
         | false =>
          exact Xe ⟨xs.length - (i + 1), by omega, rfl, hlt, (s'.trans s2).trans (s3.trans s4), done, rest, rl.same ((s2.trans s3).trans s4), hr, hf⟩
         | true =>
          dsimp only at hr
          cases hε : ε δ1 with
          | none => rw [hε] at hr; cases hr
          | some yd =>
           rw [hε] at hr
           dsimp only at hr
           cases hr' : ZM γ τ ε (Yf n δ js) (xs.drop (i + 1)) with
           | none => rw [hr'] at hr; cases hr
           | some rest' =>
            rw [hr'] at hr
            have hrr : yd :: rest' = rest := Option.some.inj hr
            subst hrr
            refine Xf (he _ _ A3 σ3 H4 δ1 E4 yd hε _ fun vy H5 s5 r5 => ?_)
            have sall : Same H' H5 := ((s2.trans s3).trans s4).trans s5
            refine ⟨?_, xs.length - (i + 1), by omega, rfl, hlt, s'.trans sall, done ++ [yd], rest', (rl.same sall).append (.cons ((RepT.r r5).av fun b z => .inl ((triv _ E4 b).mpr z)) .nil), hr', by rw [<- hf]; simp⟩
            have := congrArg List.length hf
            rw [List.length_append, List.length_cons] at this
            have := rl.length
            omega
     · have ei : i = xs.length := by omega
       subst ei
       rw [List.drop_length] at hr
       cases hr
       refine .inl ⟨w3 _ (Nat.le_refl _), fun p hp => k p ys full H' (s1.trans s') hp (by rw [<- hf, List.append_nil]; exact rl) ed.symm⟩
   · rw [if_neg hz] at e; cases e
def spD (cA : Kn) (n : Nat) (m : List D -> Option D) : Sp := fun vs H Q _ => ∃ av ds d, (∀ a, av a -> H a ≠ none) /\ RepL cA av H ds vs /\ ds.length = n /\ m ds = some d /\ ∀ v H', Same H H' -> Rep cA av H' d v -> Q v H'
def Zu (n : Nat) (m : List D -> Option D) (dds : List D) (α : Env -> Option (List D)) (δ : Env) : Option D := match α δ with
 | some ds => if (ds ++ dds).length = n then m (ds ++ dds) else none
 | none => none
def Ql.cq : Ql -> Ql
 | .cl => .cl
 | _ => .dt
theorem Yg {n : Nat} {m : List D -> Option D} {t : TA} {q : Ql} {α : Env -> Option (List D)} {E0 : XK} (dds : List D) (hd : dds.all Zi = true) (h : VA G ow t q α) : VE G ow (ZeK (spD G.1 n m) (dds.map val) E0 t) q.cq (Zu n m dds α) := fun H0 av A σ H δ E d e Q k => by
 unfold Zu at e
 cases he : α δ with
 | none => rw [he] at e; cases e
 | some ds =>
  rw [he] at e
  dsimp only at e
  by_cases hz : (ds ++ dds).length = n
  · rw [if_pos hz] at e
    refine h H0 av A σ H δ E ds he _ fun vs H1 s1 r1 => ?_
    have E1 := E.mono s1
    cases q with
    | cl => exact ⟨AV av A, ds ++ dds, d, E1.avl, r1.cl.append (.of_vals hd), hz, e, fun v H' s r => k v H' (s1.trans s) r.t⟩
    | tp => exact ⟨av, ds ++ dds, d, E1.avH, r1.any.append (.of_vals hd), hz, e, fun v H' s r => k v H' (s1.trans s) r.t⟩
    | dt => exact ⟨av, ds ++ dds, d, E1.avH, r1.any.append (.of_vals hd), hz, e, fun v H' s r => k v H' (s1.trans s) r.t⟩
  · rw [if_neg hz] at e; cases e
def run (N : Nat) (φ : Env -> Option Out) (ds : List D) : Option D := match φ (ds.map some ++ List.replicate (N - ds.length) none) with
 | some (.rt d) => some d
 | some (.nx _) => some .non
 | _ => none
theorem Zcw {N : List Str} {ds : List D} {vs : List V} {av : Addr -> Prop} {H : Hp} (r : RepL cA av H ds vs) {i : Nat} {d : D} (h : (ds.map some ++ List.replicate (N.length - ds.length) none)[i]? = some (some d)) :
 ∃ v, (L2.start N vs)[i]? = some (some v) /\ Rep cA av H d v := by
 by_cases hi : i < ds.length
 · rw [List.getElem?_append_left (by simpa using hi), List.getElem?_map] at h
   cases hd : ds[i]? with
   | none => rw [hd] at h; cases h
   | some x =>
    rw [hd] at h
    cases h
    obtain ⟨v, hv, rv⟩ := r.get hd
    refine ⟨v, ?_, rv⟩
    unfold L2.start
    have : i < vs.length := by rw [<- r.length]; exact hi
    rw [List.getElem?_append_left (by simpa using this), List.getElem?_map, hv]
    rfl
 · rw [List.getElem?_append_right (by simpa using hi), List.getElem?_replicate] at h
   split at h <;> cases h
theorem ZcX {N : List Str} {ds : List D} {vs : List V} {av : Addr -> Prop} {H : Hp} (ha : ∀ a, av a -> H a ≠ none) (r : RepL cA av H ds vs) :
 ER ⟨cA, fun _ => none⟩ [] H av (fun _ => none) (L2.start N vs) H (ds.map some ++ List.replicate (N.length - ds.length) none) := by
 refine ⟨Same.refl H, ha, fun _ _ z => (by cases z), fun _ _ _ z => (by cases z), fun _ _ z => (by cases z), fun _ z => absurd rfl z, fun _ z => (by cases z), ?_, fun _ _ z => (by cases z), fun _ _ z => (by cases z), fun i d e => ?_⟩
 · unfold L2.start
   rw [List.length_append, List.length_append, List.length_map, List.length_map, List.length_replicate, List.length_replicate, r.length]
 · obtain ⟨v, h1, h2⟩ := Zcw r e
   refine ⟨v, h1, fun _ => h2.av fun b z => ?_, fun _ z => (by cases z)⟩
   rcases z with z | ⟨_, z⟩
   · exact .inl z
   · cases z
section
variable {P : Program} {w : World} {K : PySem.W.Frag} {mg : Str -> Option Value} {base : Heap}
end
def ZgW (_ : Env) : Option (Option Int) := some none
def xP (ε : Env -> Option D) (δ : Env) : Option (Option Int) := match ε δ with
 | some (.int i) => some (some i)
 | _ => none
def slD : D -> Option Int -> Option Int -> Option D
 | .str a, lo, hi => if a.length <= sizeLine then some (.str (L2.cutL a lo hi)) else none
 | .lst xs, lo, hi => some (.lst (L2.cutL xs lo hi))
 | .tup xs, lo, hi => if VD xs.length 0 lo = 0 /\ VD xs.length xs.length hi = xs.length then none else some (.tup (L2.cutL xs lo hi))
 | _, _, _ => none
def eSl (a : Env -> Option D) (lo hi : Env -> Option (Option Int)) (δ : Env) : Option D := match a δ with
 | some x => match lo δ with
  | some l => match hi δ with
   | some u => slD x l u
   | none => none
  | none => none
 | none => none
def Q3 (K : PySem.W.Frag) : List V -> Hp -> VK -> Prop := fun xs H Q => Zg3 K xs H Q \/ ∃ p vs c cv b, xs = [.ref p, c] /\ (∀ v, RelV c v -> v = cv) /\ KL K p vs /\ PySem.W.kitOne K (.type "list") cv = some b /\ Q (.bl b) H
theorem UR {X : Cx} {K : PySem.W.Frag} (hK : X.K = K := by rfl) : ZW X (.builtin "isinstance") (Q3 K) := by
 subst hK
 intro pins s σ H xs us Q I rs h
 rcases h with h | ⟨p, vs, c, cv, b, rfl, hc, ⟨o, its, n, hk, h1, _⟩, e, q⟩
 · exact ZcS pins s σ H xs us Q I rs h
 · obtain ⟨u, w', rfl, rx, rc⟩ := QA rs
   have ec := hc _ rc
   subst ec
   cases (show u = Value.ref p from rx)
   exact PySem.W.kia_one PySem.W.kitx_list I.kIn ⟨o, I.kIn p o hk, h1⟩ e (fun z => nomatch z) fun tk => ⟨.bl b, H, I.tok tk, rfl, q⟩
def kind : D -> String
 | .non => "NoneType"
 | .bl _ => "bool"
 | .int _ => "int"
 | .str _ => "str"
 | .lst _ => "list"
 | .tup _ => "tuple"
 | .obj c _ _ => c
 | .dct _ _ => "dict"
def plainKinds : List String := ["NoneType", "bool", "int", "str", "list", "tuple"]
def Vh (tab : List (String × Bool)) : D -> Option Bool
 | .obj c _ _ => if plainKinds.contains c then none else tab.lookup c
 | .dct _ _ => none
 | d => tab.lookup (kind d)
def Yy (tab : List (String × Bool)) (a : Env -> Option D) (δ : Env) : Option D := match a δ with
 | some d => match Vh tab d with
  | some b => some (.bl b)
  | none => none
 | none => none
structure ClsI (K : PySem.W.Frag) (C : Addr) : Prop where
 cl : Cls K C
 ha : PySem.W.findIn K (.ref C) "__class__" = some (some (.builtin "object.__class__"))
 hn : PySem.W.specialIn K (.builtin "object.__class__") "__get__" = some (some (.builtin "getset_descriptor.__get__"))
 htk : PySem.W.takesIn K (.builtin "object.__class__") = some true
 hm : PySem.W.mroIn K C (.type "object") = some true
structure IsiOk (K : PySem.W.Frag) (cA : Kn) (cv : Value) (tab : List (String × Bool)) : Prop where
 plain : ∀ k ∈ plainKinds, ∀ b, tab.lookup k = some b -> PySem.W.kitOne K (.type k) cv = some b
 own : ∀ (c : String) b, plainKinds.contains c = false -> tab.lookup c = some b -> PySem.W.kitOne K (.ref (cA.c c)) cv = some b /\ ClsI K (cA.c c)
theorem Q4 {β : Type} {c : String} {b : β} : ∀ {tab : List (String × β)}, tab.lookup c = some b -> (c, b) ∈ tab
 | [], h => by simp at h
 | (c', b') :: r, h => by
  rw [List.lookup_cons] at h
  cases hc : c == c' with
  | true =>
   rw [hc] at h
   cases h
   rw [eq_of_beq hc]
   exact List.mem_cons_self
  | false =>
   rw [hc] at h
   exact List.mem_cons_of_mem _ (Q4 h)
theorem US {K : PySem.W.Frag} {cA : Kn} {cv : Value} {tab : List (String × Bool)} (h : ∀ p ∈ tab, if plainKinds.contains p.1 = true then PySem.W.kitOne K (.type p.1) cv = some p.2 else PySem.W.kitOne K (.ref (cA.c p.1)) cv = some p.2 /\ ClsI K (cA.c p.1)) : IsiOk K cA cv tab where
 plain := fun k hk b hl => by
  have := h _ (Q4 hl)
  rwa [if_pos (by simpa using hk)] at this
 own := fun c b hc hl => by
  have := h _ (Q4 hl)
  rwa [if_neg (by simpa using hc)] at this
theorem UT {ta : TE} {q : Ql} {a : Env -> Option D} {c : V} {cv : Value} {tab : List (String × Bool)} (hc : ∀ v, RelV c v -> v = cv) (I : IsiOk G.1.K G.1 cv tab) (ha : VE G ow ta q a) :
 VE G ow (tCB (Q3 G.1.K) (Vw ta (Vw (tC c) tNil))) .cl (Yy tab a) := fun H0 av A σ H δ E d e Q k => by
 unfold Yy at e
 cases he : a δ with
 | none => rw [he] at e; cases e
 | some x =>
  rw [he] at e
  dsimp only at e
  cases ht : Vh tab x with
  | none => rw [ht] at e; cases e
  | some b =>
   rw [ht] at e
   cases e
   refine ha H0 av A σ H δ E x he _ fun v H1 s r => ?_
   have r' := r.any
   have fin : ∀ t, TyOf G.1.K H1 v t -> PySem.W.kitOne G.1.K t cv = some b -> Q3 G.1.K [v, c] H1 Q := fun t ty e => .inl ⟨v, c, cv, t, b, rfl, hc, ty, e, k _ H1 s rfl⟩
   cases x with
   | non => cases (show v = _ from r'); exact fin _ .non (I.plain _ (by decide) b (by exact ht))
   | bl y => cases (show v = _ from r'); exact fin _ (.bl y) (I.plain _ (by decide) b (by exact ht))
   | int y => cases (show v = _ from r'); exact fin _ (.int y) (I.plain _ (by decide) b (by exact ht))
   | str y => cases (show v = _ from r'); exact fin _ (.str _) (I.plain _ (by decide) b (by exact ht))
   | lst y =>
    unfold Rep at r'
    obtain ⟨p, vs, rfl, _, rd, _⟩ := r'
    rcases rd with (rd | ⟨o, rd⟩) | rd
    · exact fin _ (.lst rd) (I.plain _ (by decide) b (by exact ht))
    · exact fin _ (.frz rd) (I.plain _ (by decide) b (by exact ht))
    · exact .inr ⟨p, vs, c, cv, b, rfl, hc, rd, I.plain _ (by decide) b (by exact ht), k _ H1 s rfl⟩
   | tup y =>
    unfold Rep at r'
    obtain ⟨p, vs, rfl, _, rd, _⟩ := r'
    exact fin _ (.tup rd) (I.plain _ (by decide) b (by exact ht))
   | dct ks y => cases ht
   | obj c' ks y =>
    unfold Rep at r'
    obtain ⟨p, dx, vs, rfl, _, rd, _⟩ := r'
    dsimp only [Vh] at ht
    cases hp : plainKinds.contains c' with
    | true => rw [hp, if_pos rfl] at ht; cases ht
    | false =>
    rw [hp, if_neg Bool.false_ne_true] at ht
    obtain ⟨h1, h2⟩ := I.own c' b hp ht
    exact fin _ (.ins rd h2.cl h2.ha h2.hn h2.htk h2.hm) h1
end
end DL
namespace L2
open PySem PySem.Spec
section
variable {X : Cx}
theorem ZcY : MtR X "str.index" (fun x xs H Q => ∃ a c i, x = S a /\ xs = [S [c]] /\ Yk c a = (i : Nat) /\ Q (.int (i : Nat)) H) := by
 intro pins s σ H x xs v us Q I rx rs h
 obtain ⟨a, c, i, rfl, rfl, e, q⟩ := h
 obtain ⟨t, rfl⟩ := rx
 obtain ⟨u, rfl, t', rfl⟩ := Yu rs
 have e' := ZdT a c
 rw [e] at e'
 unfold Txt.find at e'
 cases ho : Builtin.Str.occurrences (tx a) (tx [c]) 0 (tx a).length 1 with
 | nil => rw [ho] at e'; exact absurd e' (by show ¬ (-1 : Int) = (i : Int); omega)
 | cons j r =>
  rw [ho] at e'
  have e2 : j = i := by
   have : (j : Int) = (i : Int) := e'
   omega
  subst e2
  exact SC.index ho ⟨.int _, H, I.tok _, ⟨_, rfl⟩, q⟩
theorem Zar : ∀ {l : List (List Nat)} {us : List Value}, Vals (l.map S) us -> PyProof.Rows.StrsAre us (l.map tx)
 | [], us, r => by
  rw [List.map_nil] at r
  cases r
  exact .nil
 | a :: l, us, r => by
  rw [List.map_cons] at r
  cases r with
  | cons r1 r2 =>
   obtain ⟨t, rfl⟩ := r1
   exact .cons _ t (Zar r2)
theorem Zd5 {K : PySem.W.Frag} (hK : X.K = K := by rfl) : MtR X "str.join" (fun x xs H Q => ∃ sep p l, x = S sep /\ xs = [.ref p] /\ SqL K H p (l.map S) /\ (l.map List.length).sum + l.length * sep.length <= sizeLine /\ Q (S (Xg sep l)) H) := by
 subst hK
 intro pins s σ H x xs v us Q I rx rs h
 obtain ⟨sep, p, l, rfl, rfl, hq, hz, q⟩ := h
 obtain ⟨t, rfl⟩ := rx
 obtain ⟨u, rfl, rp⟩ := Yu rs
 cases rp
 obtain ⟨its, rv, pl, _⟩ := I.list hq
 have hs : sizeLine = 16777216 := sizeLine_eq
 refine PyProof.Rows.join_list (ys := l.map tx) pl.isList (by simpa using Zar rv) ?_ fun t' k => ⟨S (Xg sep l), H, I.tok _, ⟨t', ?_⟩, q⟩
 · have e : ((l.map tx).map (·.length)) = l.map List.length := by
    rw [List.map_map]
    exact List.map_congr_left fun a _ => Yv a
   rw [e, List.length_map, Yv]
   omega
 · have := QI sep l
   show Value.str (Builtin.Str.glued (tx sep) (l.map tx)) t' = _
   rw [StrLaws.glued_eq_join, QI]
end
end L2
namespace DL
open PySem PySem.Spec L2
section
variable {cA : Kn} {G : Cn} {ow : List Nat}
def Q5 (cA : Kn) (r : V -> List V -> Hp -> VK -> Prop) (f : List Nat -> List D -> Option D) : Prop :=
 ∀ (i : Addr -> Prop) (H : Hp) (a : List Nat) (ds : List D) (vs : List V) (d : D), (∀ a, i a -> H a ≠ none) -> YZ cA i H ds vs -> f a ds = some d -> ∀ Q : VK, (∀ v H', Same H H' -> Rep cA i H' d v -> Q v H') -> r (S a) vs H Q
def eBM (f : List Nat -> List D -> Option D) (a : Env -> Option D) (α : Env -> Option (List D)) (δ : Env) : Option D := match a δ with
 | some (.str cs) => match α δ with
  | some ds => f cs ds
  | none => none
 | _ => none
theorem ZeW {K : PySem.W.Frag} {r : V -> List V -> Hp -> VK -> Prop} {f : List Nat -> List D -> Option D} {to : TE} {t : TA} {q0 q : Ql} {a : Env -> Option D} {α : Env -> Option (List D)} (hr : Q5 G.1 r f) (ha : VE G ow to q0 a) (h : VA G ow t q α) :
 VE G ow (tBM K "str" r to t) q.it (eBM f a α) := fun H0 av A σ H δ E d e Q k => by
 unfold eBM at e
 cases hx : a δ with
 | none => rw [hx] at e; cases e
 | some x =>
  rw [hx] at e
  cases x <;> first | (cases e; done) | skip
  rename_i cs
  dsimp only at e
  cases he : α δ with
  | none => rw [he] at e; cases e
  | some ds =>
   rw [he] at e
   refine ha H0 av A σ H δ E _ hx _ fun v H1 s1 r1 => ?_
   have e1 : v = S cs := r1.any
   subst e1
   refine ⟨rfl, h H0 av A σ H1 δ (E.mono s1) ds he _ fun vs H2 s2 r2 => ?_⟩
   have E2 := (E.mono s1).mono s2
   have s12 := s1.trans s2
   cases q with
   | cl => exact hr _ H2 cs ds vs d E2.avl r2.il e _ fun v H' s r => k v H' (s12.trans s) r.t
   | tp => exact hr _ H2 cs ds vs d E2.avl r2.il e _ fun v H' s r => k v H' (s12.trans s) r.t
   | dt => exact hr _ H2 cs ds vs d E2.avH r2.il e _ fun v H' s r => k v H' (s12.trans s) r.t
def indexD (a : List Nat) : List D -> Option D
 | [.str [c]] => if 0 <= Yk c a then some (.int (Yk c a)) else none
 | _ => none
theorem Zfu {i : Addr -> Prop} {H : Hp} {b : List Nat} {vs : List V} (h : YZ cA i H [.str b] vs) : vs = [S b] := by
 obtain ⟨v, t, rfl, hx⟩ := il1 h
 rw [show v = S b from hx]
theorem ZcZ : Q5 cA (fun x xs H Q => ∃ a c i, x = S a /\ xs = [S [c]] /\ Yk c a = (i : Nat) /\ Q (.int (i : Nat)) H) indexD := fun i H a ds vs d _ h e Q k => by
 unfold indexD at e
 split at e
 · rename_i c
   by_cases hz : 0 <= Yk c a
   · rw [if_pos hz] at e
     cases e
     exact ⟨a, c, (Yk c a).toNat, rfl, Zfu h, by omega, k _ H (Same.refl H) (by rw [Int.toNat_of_nonneg hz]; rfl)⟩
   · rw [if_neg hz] at e; cases e
 · cases e
def strs? : List D -> Option (List (List Nat))
 | [] => some []
 | .str a :: r => match strs? r with
  | some l => some (a :: l)
  | none => none
 | _ => none
theorem ZbQ : ∀ {xs : List D} {l : List (List Nat)}, strs? xs = some l -> xs = l.map D.str
 | [], l, h => by cases h; rfl
 | x :: xs, l, h => by
  cases x <;> first | (cases h; done) | skip
  rename_i a
  unfold strs? at h
  cases hr : strs? xs with
  | none => rw [hr] at h; cases h
  | some r =>
   rw [hr] at h
   cases h
   rw [List.map_cons, ZbQ hr]
def joinD (sep : List Nat) : List D -> Option D
 | [.lst xs] => match strs? xs with
  | some l => if (l.map List.length).sum + l.length * sep.length <= sizeLine then some (.str (Xg sep l)) else none
  | none => none
 | _ => none
theorem Zd6 : Q5 cA (fun x xs H Q => ∃ sep p l, x = S sep /\ xs = [.ref p] /\ SqL cA.K H p (l.map S) /\ (l.map List.length).sum + l.length * sep.length <= sizeLine /\ Q (S (Xg sep l)) H) joinD := fun i H a ds vs d _ h e Q k => by
 unfold joinD at e
 split at e
 · rename_i xs
   cases hs : strs? xs with
   | none => rw [hs] at e; cases e
   | some l =>
    rw [hs] at e
    dsimp only at e
    by_cases hz : (l.map List.length).sum + l.length * a.length <= sizeLine
    · rw [if_pos hz] at e
      cases e
      obtain ⟨v, t, rfl, p, ws, rfl, _, rd, ll⟩ := il1 h
      have ex := ZbQ hs
      subst ex
      have ev := ll.vals (by rw [List.all_map]; exact List.all_eq_true.mpr fun _ _ => rfl)
      rw [List.map_map] at ev
      subst ev
      exact ⟨a, p, l, rfl, rfl, rd, hz, k _ H (Same.refl H) rfl⟩
    · rw [if_neg hz] at e; cases e
 · cases e
end
end DL
namespace L2
open PySem PySem.Spec
structure FunX (K : PySem.W.Frag) (x qual : Str) (st : Stmt) (f : Addr) (fd : FuncData) : Prop where
 ex : ∃ (oc : Value) (od : Option Addr) (dV kV doc pm : Value) (an : Option Addr) (cdv ct : Value) (osl : Array (Option Value)),
  fd = PySem.W.fnOf x qual (ZR st) (ZK st) (Zp st) dV kV doc pm an cdv ct /\ K.lookup f = some ⟨oc, od, .func fd, osl⟩ /\ PySem.W.codeIn K cdv qual = true
theorem Fun.x {K : PySem.W.Frag} {x qual : Str} {st : Stmt} {f : Addr} {fd : FuncData} (F : Fun K x qual st f fd) : FunX K x qual st f fd := by
 obtain ⟨oc, od, kV, doc, pm, an, cdv, ct, osl, h⟩ := F.ex
 exact ⟨oc, od, .none, kV, doc, pm, an, cdv, ct, osl, h⟩
section
variable {P : Program} {w : World} {K : PySem.W.Frag} {mg : Str -> Option Value} {base : Heap}
theorem FunX.ok {x qual : Str} {st : Stmt} {f : Addr} {fd : FuncData} {N ps : List Str} {k : Nat} {sp : Sp} (F : FunX K x qual st f fd) (S : FnScope N ps (Zp st)) (len : ∀ vs H Q E, sp vs H Q E -> vs.length = ps.length)
 (hbody : ∀ (cdv : Value) (A : Around) (outer : List Env) (s : Shared) (H : Hp) (vs : List V) (Q : VK) (E : XK), Room k (A.deeper (PyProof.Rows.envOfC qual (Zp st) s.heap.objs.size f cdv)) -> sp vs H Q E ->
   ∃ t, PSs (YD CX0 P w K mg base N qual (Zp st) f cdv A outer s H E).nox (ZK st) t /\ t { nx := fun _ H' => Q .non H', rt := Q } (start N vs) H) : FnOk P w K mg base CX0 (k + 1) f fd ps sp := by
 obtain ⟨oc, od, dV, kV, doc, pm, an, cdv, ct, osl, rfl, lk, hcd⟩ := F.ex
 refine ZeM lk hcd S len fun A outer s H vs Q E hr hsp => ?_
 obtain ⟨t, h, q⟩ := hbody cdv A outer s H vs Q E hr hsp
 exact ⟨t, h.nox, q⟩
end
section
variable {X : Cx}
end
structure CMeth (K : PySem.W.Frag) (C : Addr) (m : Str) (f : Addr) : Prop where
 ga : PySem.W.specialIn K (.ref C) "__getattribute__" = some (some (.builtin "type.__getattribute__"))
 rd : PySem.W.readsIn K C (.type "type") = true
 fc : PySem.W.findCls K (.ref C) (.type "type") m = some (.val (.ref f))
 kp : PySem.W.keepIn K (.ref f) = true
section
variable {X : Cx} {CX : CXT} {k : Nat} {f C : Addr} {fd : FuncData} {ps : List Str} {sp : Sp} {dvs : List V} {ds : List Value} {E : XK} {x m : Str} {p pos apos : Pos} {e o : Expr} {es : List Expr} {ta : TE} {t : TA}
end
end L2
namespace DL
open PySem PySem.Spec L2
theorem Zae {a b : String} (h : Str.ofString a = Str.ofString b) : a = b := by
 rw [Str.ofString_eq_toList, Str.ofString_eq_toList] at h
 have h1 : (a.toList.map Char.toNat) = (b.toList.map Char.toNat) := by
  have := congrArg (fun s : Str => s.cps.toList) h
  simpa using this
 have inj : ∀ {x y : List Char}, x.map Char.toNat = y.map Char.toNat -> x = y := by
  intro x
  induction x with
  | nil =>
   intro y h
   cases y with
   | nil => rfl
   | cons _ _ => cases h
  | cons c x ih =>
   intro y h
   cases y with
   | nil => cases h
   | cons d y =>
    rw [List.map_cons, List.map_cons, List.cons.injEq] at h
    have : c = d := Char.toNat_inj.mp h.1
    rw [this, ih h.2]
 exact String.toList_inj.mp (inj h1)
theorem Zaf (a b : String) : (Str.ofString a == Str.ofString b) = (a == b) := by
 rw [Bool.eq_iff_iff, beq_iff_eq, beq_iff_eq]
 exact ⟨Zae, fun h => by rw [h]⟩
section
variable {cA : Kn} {G : Cn} {ow owN owB owC : List Nat}
theorem Zba {av : Addr -> Prop} {H : Hp} {f : String} : ∀ {ks : List String} {xs : List D} {vs : List V} {d : D}, RepL cA av H xs vs -> (ks.zip xs).lookup f = some d -> ∃ v, ((ks.map Str.ofString).zip vs).lookup (Str.ofString f) = some v /\ Rep cA av H d v
 | [], _, _, _, _, h => by simp at h
 | k :: ks, [], _, _, _, h => by simp at h
 | k :: ks, x :: xs, vs, d, l, h => by
  obtain ⟨v, r, rfl, h1, h2⟩ := l.uncons
  rw [List.zip_cons_cons, List.lookup_cons] at h
  rw [List.map_cons, List.zip_cons_cons, List.lookup_cons, Zaf]
  cases hk : f == k with
  | true => rw [hk] at h; cases h; exact ⟨v, rfl, h1⟩
  | false => rw [hk] at h; exact Zba h2 h
theorem Zbb {f : String} : ∀ {ks : List String} {vs : List V}, ks.contains f = false -> ((ks.map Str.ofString).zip vs).lookup (Str.ofString f) = none
 | [], _, _ => by simp
 | k :: ks, [], _ => by simp
 | k :: ks, v :: vs, h => by
  rw [List.contains_cons, Bool.or_eq_false_iff] at h
  rw [List.map_cons, List.zip_cons_cons, List.lookup_cons, Zaf, h.1]
  exact Zbb h.2
theorem ZbR {f : String} {y : V} : ∀ {ks : List String} {vs : List V}, ks.length = vs.length -> ks.contains f = false -> ZS (Str.ofString f) y ((ks.map Str.ofString).zip vs) = (((ks ++ [f]).map Str.ofString).zip (vs ++ [y]))
 | [], [], _, _ => rfl
 | [], _ :: _, h, _ => by simp at h
 | _ :: _, [], h, _ => by simp at h
 | k :: ks, v :: vs, h, hf => by
  rw [List.contains_cons, Bool.or_eq_false_iff] at hf
  have hne : ¬ Str.ofString k = Str.ofString f := fun z => by
   have := Zae z
   have h1 := hf.1
   rw [this] at h1
   simp at h1
  rw [List.map_cons, List.zip_cons_cons, List.cons_append, List.cons_append, List.map_cons, List.zip_cons_cons]
  rw [show ZS (Str.ofString f) y ((Str.ofString k, v) :: (ks.map Str.ofString).zip vs) = (if Str.ofString k = Str.ofString f then (Str.ofString k, y) :: (ks.map Str.ofString).zip vs else (Str.ofString k, v) :: ZS (Str.ofString f) y ((ks.map Str.ofString).zip vs)) from rfl, if_neg hne]
  rw [ZbR (by simpa using h) hf.2]
def UU (K : PySem.W.Frag) (cA : Kn) (cls : List String) (f : String) : Prop := ∀ c ∈ cls, Cls K (cA.c c) /\ NoAttr K (cA.c c) (Str.ofString f)
def Yh (cls : List String) (f : String) (a : Env -> Option D) (δ : Env) : Option D := match a δ with
 | some (.obj c ks xs) => if cls.contains c then (ks.zip xs).lookup f else none
 | _ => none
theorem UV {K : PySem.W.Frag} {ta : TE} {q : Ql} {a : Env -> Option D} {cls : List String} {f : String} (F : UU K G.1 cls f) (ha : VE G ow ta q a) : VE G ow (QC K ta (Str.ofString f)) q.it (Yh cls f a) := fun H0 av A σ H δ E d e Q k => by
 unfold Yh at e
 cases he : a δ with
 | none => rw [he] at e; cases e
 | some x =>
  rw [he] at e
  cases x <;> first | (cases e; done) | skip
  rename_i c ks xs
  dsimp only at e
  by_cases hc : cls.contains c = true
  · rw [if_pos hc] at e
    obtain ⟨h1, h2⟩ := F c (by simpa using hc)
    refine ha H0 av A σ H δ E _ he _ fun v H1 s r => ?_
    obtain ⟨p, dx, vs, rfl, _, rd, _, l⟩ := r.tp
    obtain ⟨w, hw, rw'⟩ := Zba l e
    refine ⟨p, _, dx, _, w, rfl, rd, h1, h2, hw, k w H1 s ?_⟩
    cases q <;> exact rw'.t
  · rw [if_neg hc] at e; cases e
def Xk (i : Nat) (cls : List String) (f : String) (ε : Env -> Option D) (δ : Env) : Option Out := match ε δ with
 | some d => match Za i δ with
  | some (.obj c ks xs) => if cls.contains c && !ks.contains f && decide (ks.length < 1000) then some (.nx (δ.set i (some (.obj c (ks ++ [f]) (xs ++ [d]))))) else none
  | _ => none
 | none => none
theorem Zdy {K : PySem.W.Frag} {te : TE} {ε : Env -> Option D} {cls : List String} {f : String} (i : Nat) (hi : ow.contains i = true) (F : UU K G.1 cls f) (h : VE G ow te .cl ε) : VS G ow ow owB owC (ZgM K (Y9 i) te (Str.ofString f)) (Xk i cls f ε) := fun H0 av A σ H δ E o e De k => by
 unfold Xk at e
 cases he : ε δ with
 | none => rw [he] at e; cases e
 | some d =>
  rw [he] at e
  dsimp only at e
  cases hv : Za i δ with
  | none => rw [hv] at e; cases e
  | some x =>
   rw [hv] at e
   cases x <;> first | (cases e; done) | skip
   rename_i c ks xs
   dsimp only at e
   by_cases hz : (cls.contains c && !ks.contains f && decide (ks.length < 1000)) = true
   · rw [if_pos hz] at e
     cases e
     simp only [Bool.and_eq_true, decide_eq_true_eq, Bool.not_eq_true'] at hz
     obtain ⟨⟨z1, z2⟩, z3⟩ := hz
     obtain ⟨h1, h2⟩ := F c (by simpa using z1)
     have hi' : i ∈ ow := by simpa using hi
     cases hA : A i with
     | none => exact absurd hA (E.dom' i hi')
     | some a =>
      refine h H0 av A σ H δ E d he _ fun y H1 s r => ?_
      have E1 := E.mono s
      obtain ⟨v, g1, _, g3⟩ := E1.var i _ (Ys hv)
      obtain ⟨rfl, dx, vs, q1, q0, q2⟩ := g3 a hA
      have hl : ks.length = vs.length := q0.trans q2.length
      refine ⟨_, g1, a, _, dx, _, rfl, q1, h1, h2, ?_, k A σ _ (E1.put hA (Ys hv) (fun b o hb e => by rw [Zs hb]; exact e) (by rw [ZJ]; exact fun z => by cases z) ?_)⟩
      · rw [List.length_zip, List.length_map]; omega
      · refine ⟨dx, vs ++ [y], ?_, by rw [List.length_append, List.length_append, q0]; rfl, ?_⟩
        · rw [ZJ, ZbR hl z2]
        · have ex : ∀ b o, ¬ AV av A b -> H1 b = some o -> upd H1 a (.ins (G.1.c c) dx (ZS (Str.ofString f) y ((ks.map Str.ofString).zip vs))) b = some o := fun b o n e => by
           rw [Zs fun z => n (.inr ⟨i, by rw [z]; exact hA⟩)]
           exact e
          exact (q2.append (.cons (RepT.r r) .nil)).ext ex
   · rw [if_neg hz] at e; cases e
def spI (cA : Kn) (n : Nat) (m : List D -> Option D) : Sp := fun vs H Q _ => ∃ (x : Addr) (r : List V) (av : Addr -> Prop) (ds : List D) (d d' : D), vs = .ref x :: r /\ (∀ a, av a -> H a ≠ none) /\ ¬ av x /\ Own cA (fun a => av a \/ a = x) H d x /\ RepL cA (fun a => av a \/ a = x) H ds r /\ (d :: ds).length = n /\ m (d :: ds) = some d' /\
 ∀ H', (∀ b o, b ≠ x -> H b = some o -> H' b = some o) -> Own cA (fun a => av a \/ a = x) H' d' x -> Q .non H'
theorem Own.live {av : Addr -> Prop} {H : Hp} {d : D} {a : Addr} (h : Own cA av H d a) : H a ≠ none := by
 cases d with
 | lst xs => obtain ⟨vs, q, _⟩ := h; rw [q]; exact fun z => by cases z
 | obj c ks xs => obtain ⟨dx, vs, q, _⟩ := h; rw [q]; exact fun z => by cases z
 | dct ks xs => obtain ⟨vs, q, _⟩ := h; rw [q]; exact fun z => by cases z
 | _ => exact h.elim
theorem Own.av {av av' : Addr -> Prop} {H : Hp} {d : D} {a : Addr} (k : ∀ b, av' b -> av b \/ H b = none) (h : Own cA av H d a) : Own cA av' H d a := by
 cases d with
 | lst xs => obtain ⟨vs, q, l⟩ := h; exact ⟨vs, q, l.av k⟩
 | obj c ks xs => obtain ⟨dx, vs, q, z, l⟩ := h; exact ⟨dx, vs, q, z, l.av k⟩
 | dct ks xs => obtain ⟨vs, q, z, l⟩ := h; exact ⟨vs, q, z, l.av k⟩
 | _ => exact h.elim
theorem Own.rep {av : Addr -> Prop} {H : Hp} {d : D} {a : Addr} (n : ¬ av a) (h : Own cA av H d a) : Rep cA av H d (.ref a) := by
 cases d with
 | lst xs => obtain ⟨vs, q, l⟩ := h; unfold Rep; exact ⟨a, vs, rfl, fun z => (n z).elim, SqL.of q, l⟩
 | obj c ks xs => obtain ⟨dx, vs, q, z, l⟩ := h; unfold Rep; exact ⟨a, dx, vs, rfl, n, q, z, l⟩
 | dct ks xs => obtain ⟨vs, q, z, l⟩ := h; unfold Rep; exact ⟨a, vs, rfl, n, q, z, l⟩
 | _ => exact h.elim
def Y0 (c : String) (n : Nat) (m : List D -> Option D) (dds : List D) (α : Env -> Option (List D)) (δ : Env) : Option D := match α δ with
 | some ds => if (D.obj c [] [] :: (ds ++ dds)).length = n then m (.obj c [] [] :: (ds ++ dds)) else none
 | none => none
theorem Zd7 {n : Nat} {m : List D -> Option D} {t : TA} {α : Env -> Option (List D)} {E0 : XK} {c : String} (dds : List D) (hd : dds.all Zi = true) (h : VA G ow t .cl α) : VE G ow (ZeL (G.1.c c) (spI G.1 n m) (dds.map val) E0 t) .cl (Y0 c n m dds α) := fun H0 av A σ H δ E d e Q k => by
 unfold Y0 at e
 cases he : α δ with
 | none => rw [he] at e; cases e
 | some ds =>
  rw [he] at e
  dsimp only at e
  by_cases hz : (D.obj c [] [] :: (ds ++ dds)).length = n
  · rw [if_pos hz] at e
    refine h H0 av A σ H δ E ds he _ fun vs H1 s1 r1 x dx hx hdx hne => ?_
    have E1 := E.mono s1
    have s2 : Same H1 (upd (upd H1 dx (.own x)) x (.ins (G.1.c c) dx [])) := (Z1 hdx).trans (Z1 (by rw [Zs (Ne.symm hne)]; exact hx))
    have nx : ¬ AV av A x := fun z => E1.avl x z hx
    refine ⟨x, vs ++ dds.map val, AV av A, ds ++ dds, .obj c [] [], d, rfl, fun a z => ?_, nx, ⟨dx, [], ZJ, rfl, .nil⟩, ?_, hz, e, fun H' hk ho => ⟨rfl, k _ H' ?_ ?_⟩⟩
    · have := E1.avl a z
      cases q : H1 a with
      | none => exact absurd q this
      | some o => rw [s2 a o q]; exact fun z => by cases z
    · refine RepL.same s2 ((r1.cl.append (.of_vals hd)).av fun b z => ?_)
      rcases z with z | z
      · exact .inl z
      · exact .inr (by rw [z]; exact hx)
    · refine s1.trans fun b o e => hk b o (fun z => by rw [z, hx] at e; cases e) (s2 b o e)
    · exact ((ho.av fun b z => .inl (.inl z)).rep nx).t
  · rw [if_neg hz] at e; cases e
def ZeX (i n : Nat) (m : List D -> Option D) (dds : List D) (α : Env -> Option (List D)) (δ : Env) : Option Out := match Za i δ with
 | some d => match α δ with
  | some ds => if (d :: (ds ++ dds)).length = n then (match m (d :: (ds ++ dds)) with
   | some d' => some (.nx (δ.set i (some d')))
   | none => none) else none
  | none => none
 | none => none
def runI (N : Nat) (φ : Env -> Option Out) (ds : List D) : Option D := match φ (ds.map some ++ List.replicate (N - ds.length) none) with
 | some (.nx δ) => Za 0 δ
 | _ => none
section
variable {P : Program} {w : World} {K : PySem.W.Frag} {mg : Str -> Option Value} {base : Heap}
theorem Zg4 {x qual : Str} {st : Stmt} {f : Addr} {fd : FuncData} {N ps : List Str} {k : Nat} {φ : Env -> Option Out} (F : FunX K x qual st f fd) (S : FnScope N ps (Zp st))
 (hbody : ∀ (cdv : Value) (A : Around) (outer : List PySem.Env) (s : Shared) (H : Hp) (E : XK) (a : Addr), Room k (A.deeper (PyProof.Rows.envOfC qual (Zp st) s.heap.objs.size f cdv)) ->
   ∃ t, PSs (YD CX0 P w K mg base N qual (Zp st) f cdv A outer s H E).nox (ZK st) t /\ VS ⟨cA, fun j => if j = 0 then some (.inl a) else none⟩ [0] [0] [] [] t φ) : FnOk P w K mg base CX0 (k + 1) f fd ps (spI cA ps.length (runI N.length φ)) := by
 refine F.ok S (fun vs H Q E h => ?_) fun cdv A outer s H vs Q E hr h => ?_
 · obtain ⟨x, r, av, ds, d, d', rfl, _, _, _, l, hl, _⟩ := h
   rw [<- hl, List.length_cons, List.length_cons, l.length]
 · obtain ⟨x, r, av, ds, d, d', rfl, ha, nx, ho, l, hl, hm, q⟩ := h
   obtain ⟨t, ht, hv⟩ := hbody cdv A outer s H E x hr
   refine ⟨t, ht, ?_⟩
   unfold runI at hm
   cases hφ : φ ((d :: ds).map some ++ List.replicate (N.length - (d :: ds).length) none) with
   | none => rw [hφ] at hm; cases hm
   | some o =>
    rw [hφ] at hm
    cases o <;> first | (cases hm; done) | skip
    rename_i δ'
    have hm : Za 0 δ' = some d' := hm
    have hAV : ∀ b, AV av (fun j => if j = 0 then some x else none) b ↔ av b \/ b = x := fun b => by
     constructor
     · rintro (z | ⟨j, z⟩)
       · exact .inl z
       · by_cases e : j = 0
         · simp [e] at z; exact .inr z.symm
         · simp [e] at z
     · rintro (z | z)
       · exact .inl z
       · exact .inr ⟨0, by simp [z]⟩
    have E0 : ER ⟨cA, fun j => if j = 0 then some (.inl x) else none⟩ [0] (fun b => if b = x then none else H b) av (fun j => if j = 0 then some x else none) (L2.start N (.ref x :: r)) H ((d :: ds).map some ++ List.replicate (N.length - (d :: ds).length) none) := by
     refine ⟨fun b o e => ?_, fun a z => ?_, fun i a e => ?_, fun i j a e1 e2 => ?_, fun i a e => ?_, fun i e => ?_, fun i hi => ?_, ?_, (fun i a e => by
      by_cases q : i = 0
      · simp [q] at e; simp [q, e]
      · simp [q] at e), (fun i v e => by
      by_cases q : i = 0
      · simp [q] at e
      · simp [q] at e), fun i d'' e => ?_⟩
     · by_cases q : b = x
       · simp [q] at e
       · simpa [q] using e
     · have : a ≠ x := fun q => nx (q ▸ z)
       simp [this]
       exact ha a z
     · by_cases q : i = 0
       · simp [q] at e; simp [e]
       · simp [q] at e
     · by_cases q : i = 0
       · by_cases q2 : j = 0
         · rw [q, q2]
         · simp [q2] at e2
       · simp [q] at e1
     · by_cases q : i = 0
       · simp [q] at e; subst e; exact ho.live
       · simp [q] at e
     · by_cases q : i = 0
       · simp [q]
       · simp [q] at e
     · have : i = 0 := by simpa using hi
       simp [this]
     · unfold L2.start
       rw [List.length_append, List.length_append, List.length_map, List.length_map, List.length_replicate, List.length_replicate, List.length_cons, List.length_cons, l.length]
     · by_cases q : i = 0
       · subst q
         have e' : d = d'' := by simpa using e
         subst e'
         exact ⟨.ref x, by simp [L2.start], fun z => by simp at z, fun a z => by
          simp at z
          subst z
          exact ⟨rfl, ho.av fun b z => .inl ((hAV b).mp z)⟩⟩
       · obtain ⟨i, rfl⟩ : ∃ i', i = i' + 1 := ⟨i - 1, by omega⟩
         have e2 : (ds.map some ++ List.replicate (N.length - (ds.length + 1)) none)[i]? = some (some d'') := by simpa using e
         by_cases hi : i < ds.length
         · rw [List.getElem?_append_left (by simpa using hi), List.getElem?_map] at e2
           cases hd : ds[i]? with
           | none => rw [hd] at e2; cases e2
           | some z =>
            rw [hd] at e2
            cases e2
            obtain ⟨v, hv', rv⟩ := l.get hd
            refine ⟨v, ?_, fun _ => rv.av fun b z => .inl ((hAV b).mp z), fun a z => by simp at z⟩
            unfold L2.start
            have : i + 1 < (V.ref x :: r).length := by rw [List.length_cons, <- l.length]; omega
            rw [List.getElem?_append_left (by simpa using this), List.getElem?_map]
            simp [hv']
         · rw [List.getElem?_append_right (by simpa using hi), List.getElem?_replicate] at e2
           split at e2 <;> cases e2
    refine hv _ av _ _ H _ E0 _ hφ _ fun A' σ' H' E' => ?_
    have hA' : A' 0 = some x := E'.pin 0 x (by simp)
    obtain ⟨v, _, _, g3⟩ := E'.var 0 d' (Ys hm)
    obtain ⟨_, ho'⟩ := g3 x hA'
    refine q H' (fun b o hb e => E'.same b o (by simpa [hb] using e)) (ho'.av fun b z => ?_)
    rcases z with z | z
    · exact .inl (.inl z)
    · exact .inl (.inr ⟨0, by rw [hA', z]⟩)
theorem Zf6 {x qual : Str} {st : Stmt} {f : Addr} {fd : FuncData} {N ps : List Str} {k : Nat} {φ : Env -> Option Out} (F : FunX K x qual st f fd) (S : FnScope N ps (Zp st))
 (hbody : ∀ (cdv : Value) (A : Around) (outer : List PySem.Env) (s : Shared) (H : Hp) (E : XK), Room k (A.deeper (PyProof.Rows.envOfC qual (Zp st) s.heap.objs.size f cdv)) ->
   ∃ t, PSs (YD CX0 P w K mg base N qual (Zp st) f cdv A outer s H E).nox (ZK st) t /\ ∃ owN, VS ⟨cA, fun _ => none⟩ [] owN [] [] t φ) : FnOk P w K mg base CX0 (k + 1) f fd ps (spD cA ps.length (run N.length φ)) := by
 refine F.ok S (fun vs H Q E h => ?_) fun cdv A outer s H vs Q E hr h => ?_
 · obtain ⟨av, ds, d, _, r, hl, _⟩ := h
   rw [<- r.length, hl]
 · obtain ⟨av, ds, d, ha, r, hl, hm, q⟩ := h
   obtain ⟨t, ht, owN, hv⟩ := hbody cdv A outer s H E hr
   refine ⟨t, ht, ?_⟩
   unfold run at hm
   cases hφ : φ (ds.map some ++ List.replicate (N.length - ds.length) none) with
   | none => rw [hφ] at hm; cases hm
   | some o =>
    rw [hφ] at hm
    refine hv H av _ _ H _ (ZcX ha r) o hφ _ ?_
    cases o with
    | nx δ' => cases hm; exact fun A' σ' H' E' => q .non H' E'.same rfl
    | rt d' => cases hm; exact fun v H' s' r' => q v H' s' r'
    | bk δ' => cases hm
    | ct δ' => cases hm
end
abbrev MTab := List (String × (Nat × (List D -> Option D)))
structure MethOk (X : Cx) (cA : Kn) (k : Nat) (m : String) (c : String) (n : Nat) (mm : List D -> Option D) : Prop where
 ex : ∃ f fd ps, Cls X.K (cA.c c) /\ Meth X.K (cA.c c) (Str.ofString m) f /\ FnOk X.prog X.w X.K X.mg X.base CX0 k f fd ps (spD cA n mm) /\ Binds X.K fd ps []
def MTOk (X : Cx) (cA : Kn) (k : Nat) (m : String) : MTab -> Prop
 | [] => True
 | (c, n, mm) :: r => MethOk X cA k m c n mm /\ MTOk X cA k m r
theorem MTOk.get {X : Cx} {k : Nat} {m : String} : ∀ {tab : MTab} {c : String} {n : Nat} {mm : List D -> Option D}, MTOk X cA k m tab -> tab.lookup c = some (n, mm) -> MethOk X cA k m c n mm
 | [], _, _, _, _, h => by simp at h
 | (c', n', mm') :: r, c, n, mm, T, h => by
  rw [List.lookup_cons] at h
  cases hc : c == c' with
  | true =>
   rw [hc] at h
   cases h
   have : c = c' := eq_of_beq hc
   subst this
   exact T.1
  | false =>
   rw [hc] at h
   exact MTOk.get T.2 h
def Zdz (cA : Kn) (m : String) (tab : MTab) (ta : TE) (t : TA) : TE := fun σ H Q => ta σ H fun x H1 => ∃ a dx fs c n mm, x = .ref a /\ H1 a = some (.ins (cA.c c) dx fs) /\ fs.lookup (Str.ofString m) = none /\ tab.lookup c = some (n, mm) /\ t σ H1 fun vs H2 => spD cA n mm (x :: vs) H2 Q E0
theorem Zc0 {X : Cx} {k : Nat} {m : String} {tab : MTab} {o e : Expr} {es : List Expr} {ta : TE} {t : TA} {pos apos : Pos} {pl : Sem Bool} (T : MTOk X cA k m tab) (hr : Room k X.A) (he : PE X o ta) (ha : PA X (e :: es) t)
 (hst : starEach (e :: es) X.env = (false, eval e X.env) :: starEach es X.env := by rfl) (hpl : (backTo pos (starEach es X.env)).any (·.1) = false := by rfl)
 (ht : eval (.Call (.Attribute o (Str.ofString m) apos) (e :: es) [] pos) X.env = (do
   let ov <- eval o X.env
   standAt apos.atName
   let (f, first) <- holding [ov] (getMethod ov (Str.ofString m) pl)
   callWith pos f first (backTo pos (starEach (e :: es) X.env)) (backToKw pos (keywordEach [] X.env))) := by rfl) :
 PE X (.Call (.Attribute o (Str.ofString m) apos) (e :: es) [] pos) (Zdz cA m tab ta t) := by
 intro pins s σ H Q I h
 refine PySem.W.methodCall_KW (pl := pl) (thn (he pins s σ H _ I h) fun u s1 ⟨x, H1, I1, rx, a, dx, fs, c, n, mm, ex, ea, l, tl, q⟩ => ?_) ht
 subst ex
 obtain rfl : u = Value.ref a := rx
 obtain ⟨f, fd, ps, hc, hm, F, hb⟩ := (T.get tl).ex
 refine Zbp I1 ea hc hm l ?_
 refine PySem.W.callWith_K (first := [.ref a]) (h₀ := X.base) I.ok.mod.kin hm.kp (thn (ha pos pins s1 σ H1 _ I1 q) fun us s2 ⟨vs, H2, I2, r, q2⟩ => ⟨I2.kIn, ?_⟩) hst hpl
 exact Zdn (us := .ref a :: us) (vs := .ref a :: vs) (dvs := []) (ds := []) F hr hb .nil Z4 I2 (.cons rfl r) (by rw [List.append_nil]; exact q2)
def XR (m : String) (tab : MTab) (a : Env -> Option D) (α : Env -> Option (List D)) (δ : Env) : Option D := match a δ with
 | some (.obj c ks xs) => if ks.contains m then none else (match tab.lookup c with
  | some (n, mm) => match α δ with
   | some ds => if (D.obj c ks xs :: ds).length = n then mm (.obj c ks xs :: ds) else none
   | none => none
  | none => none)
 | _ => none
theorem Zd8 {m : String} {tab : MTab} {ta : TE} {t : TA} {a : Env -> Option D} {α : Env -> Option (List D)} (ha : VE G ow ta .cl a) (h : VA G ow t .cl α) : VE G ow (Zdz G.1 m tab ta t) .cl (XR m tab a α) := fun H0 av A σ H δ E d e Q k => by
 unfold XR at e
 cases hx : a δ with
 | none => rw [hx] at e; cases e
 | some x =>
  rw [hx] at e
  cases x <;> first | (cases e; done) | skip
  rename_i c ks xs
  dsimp only at e
  cases hf : ks.contains m with
  | true => rw [hf, if_pos rfl] at e; cases e
  | false =>
   rw [hf, if_neg Bool.false_ne_true] at e
   cases htb : tab.lookup c with
   | none => rw [htb] at e; cases e
   | some p =>
    obtain ⟨n, mm⟩ := p
    rw [htb] at e
    dsimp only at e
    cases he : α δ with
    | none => rw [he] at e; cases e
    | some ds =>
     rw [he] at e
     dsimp only at e
     by_cases hz : (D.obj c ks xs :: ds).length = n
     · rw [if_pos hz] at e
       refine ha H0 av A σ H δ E _ hx _ fun v H1 s1 r1 => ?_
       obtain ⟨p, dx, vs, rfl, np, rd, zl, l⟩ := r1
       refine ⟨p, dx, _, c, n, mm, rfl, rd, Zbb hf, htb, h H0 av A σ H1 δ (E.mono s1) ds he _ fun ws H2 s2 r2 => ?_⟩
       have E2 := (E.mono s1).mono s2
       refine ⟨AV av A, .obj c ks xs :: ds, d, E2.avl, .cons ?_ r2.cl, hz, e, fun v H' s r => k v H' ((s1.trans s2).trans s) r.t⟩
       unfold Rep
       exact ⟨p, dx, vs, rfl, np, s2 _ _ rd, zl, l.same s2⟩
     · rw [if_neg hz] at e; cases e
def isD : D -> D -> Option D
 | .bl a, .bl b => some (.bl (a == b))
 | _, _ => none
end
end DL
namespace DL
open PySem PySem.Spec L2
section
variable {cA : Kn} {G : Cn} {ow : List Nat}
end
end DL
namespace DL
open PySem PySem.Spec L2
section
variable {cA : Kn} {P : Program} {w : World} {K : PySem.W.Frag} {mg : Str -> Option Value} {base : Heap}
theorem YI {x qual : Str} {st : Stmt} {f : Addr} {fd : FuncData} {N ps : List Str} {k : Nat} {φ : Env -> Option Out} {body : List Stmt} {scope : Scope} {n : Nat} {m : List D -> Option D} (F : FunX K x qual st f fd) (S : FnScope N ps (Zp st)) (hS : Zp st = scope) (hB : ZK st = body)
 (hbody : ∀ (cdv : Value) (A : Around) (outer : List PySem.Env) (s : Shared) (H : Hp) (E : XK), Room k (A.deeper (PyProof.Rows.envOfC qual scope s.heap.objs.size f cdv)) ->
   ∃ t, PSs (YD CX0 P w K mg base N qual scope f cdv A outer s H E).nox body t /\ ∃ owN, VS ⟨cA, fun _ => none⟩ [] owN [] [] t φ)  (hm : m = run N.length φ) (hn : ps.length = n) : FnOk P w K mg base CX0 (k + 1) f fd ps (spD cA n m) := by
 subst hS hB hm hn
 exact Zf6 F S hbody
theorem Zf7 {x qual : Str} {st : Stmt} {f : Addr} {fd : FuncData} {N ps : List Str} {k : Nat} {φ : Env -> Option Out} {body : List Stmt} {scope : Scope} {n : Nat} {m : List D -> Option D} (F : FunX K x qual st f fd) (S : FnScope N ps (Zp st)) (hS : Zp st = scope) (hB : ZK st = body)
 (hbody : ∀ (cdv : Value) (A : Around) (outer : List PySem.Env) (s : Shared) (H : Hp) (E : XK) (a : Addr), Room k (A.deeper (PyProof.Rows.envOfC qual scope s.heap.objs.size f cdv)) ->
   ∃ t, PSs (YD CX0 P w K mg base N qual scope f cdv A outer s H E).nox body t /\ VS ⟨cA, fun j => if j = 0 then some (.inl a) else none⟩ [0] [0] [] [] t φ)  (hm : m = runI N.length φ) (hn : ps.length = n) : FnOk P w K mg base CX0 (k + 1) f fd ps (spI cA n m) := by
 subst hS hB hm hn
 exact Zg4 F S hbody
end
end DL
namespace DL
open PySem PySem.Spec L2 PyProof.Rows
def YJ : List D -> Option (List Int)
 | [] => some []
 | .int b :: r => match YJ r with
  | some bs => some (b :: bs)
  | none => none
 | _ => none
theorem Q6 : ∀ {xs : List D} {bs : List Int}, YJ xs = some bs -> xs = bs.map D.int
 | [], bs, h => by cases h; rfl
 | x :: xs, bs, h => by
  cases x <;> first | (cases h; done) | skip
  rename_i b
  unfold YJ at h
  cases hr : YJ xs with
  | none => rw [hr] at h; cases h
  | some cs =>
   rw [hr] at h
   cases h
   rw [List.map_cons, Q6 hr]
theorem intsD_map (bs : List Int) : YJ (bs.map D.int) = some bs := by
 induction bs with
 | nil => rfl
 | cons b bs ih => rw [List.map_cons, YJ, ih]
theorem Q7 : ∀ (ns : List Int) (its : List Value), Vals (ns.map V.int) its -> IntsAre its ns
 | [], its, h => by cases h; exact .nil
 | n :: ns, its, h => by
  cases h with
  | cons r1 r2 =>
   obtain ⟨t, rfl⟩ := r1
   exact .cons _ _ (Q7 ns _ r2)
section
variable {X : Cx} {K : PySem.W.Frag} {cA : Kn}
end
end DL
namespace L2
open PySem PySem.Spec PyProof.Rows
section
variable {X : Cx} {scope : Scope} {tn cn : List Str} {js : List Nat} {tg iter elt : Expr} {ifs : List Expr} {pos spos pos' : Pos} {wi : TI} {g : TG} {tt : TT} {te : TE}
theorem Q8 {i : Nat} {x : Str} (hN : X.N.Nodup) (hi : X.N[i]? = some x) (hx : X.env.scope.names.lookup x = some .local) (hc : X.calm = true) (S : CompSc X scope tn cn js) (hI : PI X tg iter wi)
 (hg : ∀ C s₂ H₂ fp, PG (Yw X scope (tn ++ cn) C s₂ H₂ fp) tg g) (ht : ∀ C s₂ H₂ fp, PTs (Yw X scope (tn ++ cn) C s₂ H₂ fp) ifs tt) (he : ∀ C s₂ H₂ fp, PE (Yw X scope (tn ++ cn) C s₂ H₂ fp) elt te)
 (hsw : swapsWith (.ListComp elt [⟨tg, iter, ifs, 0⟩] scope pos) (some (.Name x pos')) spos.line X.env = pure true := by rfl)
 (hs : ∀ x, foldedSetIterable iter X.env x = pure x := by intro _; rfl) :
 PS X (.Assign [.Name x pos'] (.ListComp elt [⟨tg, iter, ifs, 0⟩] scope pos) spos) (Xd (Ur wi g tt te tn.length js) (Xc i)) := by
 intro pins s σ H D I h
 rw [exec_Assign_Name_used _ _ _ _ hsw]
 refine wpAny_bind (wpAny_standAt (wpAny_bind ?_))
 show wpAny _ X.A (do let _ <- comprehension (.ListComp elt [⟨tg, iter, ifs, 0⟩] scope pos) scope X.env _ (newList []) false (eval iter X.env) (some (assign (.Name x pos') X.env))) _ _ s
 refine wpAny_bind (wpAny_mono (wpAny_comprehension_free (use := some (assign (.Name x pos') X.env)) (Q := fun _ s' => SP X pins D .next s') (cl := Z7 X.env.cells scope.names []) rfl hs (Zab (S.clos I.ok)) S.kind S.names
  (thn (hI pins s σ H _ I h) fun v s1 h1 => thn h1 fun itv s2 h2 => ?_)) (fun _ s' hq => wpAny_pure (wpAny_pure hq)) fun _ _ e => e)
 obtain ⟨it, fp, tnx, J, H2, e, I2, T, st2, f2, W, ⟨m0, w0⟩, turn⟩ := h2
 subst e
 refine Zap (RR := fun acc C => compPost (model X.prog X.w) X.A X.xe (some (assign (.Name x pos') X.env)) (fun _ s' => SP X pins D .next s') acc C) (W := W) (m0 := m0) hc S hg ht he I2 T st2 f2 w0 fun i' m ys H w => ?_
 rcases turn i' m ys H w with ⟨stop, qn⟩ | r
 · refine .inl ⟨stop, fun C D' s its n σ' hC hD hDC hv hz I' => ?_⟩
   obtain ⟨m', hn, _⟩ := id I'.loc
   have pd := I'.pin (D', { cls := .type "list", data := .seq its.toArray n }) (List.mem_append_right _ List.mem_cons_self)
   have hCf : H C = none := I'.free
   have I1 : Inv X pins σ (upd H D' (.lst ys)) { s with heap := s.heap } := Za6 S I2 hC hD hDC f2 I' hv hz (Heap.SameBut.refl _ _)
   show wpAny _ X.A (assign (.Name x pos') X.env (.ref D')) _ _ _
   have hlC : X.env.locals ≠ C := fun z => absurd (z ▸ I2.lt) (Nat.not_lt.mpr hC)
   have hcC : ∀ y c, X.env.cells.lookup y = some c -> c ≠ C := fun y c e z => by
    obtain ⟨v', o', q, _⟩ := I2.cell y c e
    exact absurd (Heap.lt_size q) (Nat.not_lt.mpr (z ▸ hC))
   refine wpAny_assign_Name (JS I1 hN hi (.inl hx) (v := .ref D') rfl (fun s3 I3 ⟨a, hsb, ha⟩ => ?_) (.inr hx))
   have hCa : C ≠ a := by
    rcases ha with rfl | ha
    · exact Ne.symm hlC
    · exact Ne.symm (hcC _ _ ha)
   refine ⟨m', hn.sameBut hsb hCa, fun h' hs' => ?_⟩
   have hCn : upd H D' (.lst ys) C = none := by rw [Zs (Ne.symm hDC)]; exact hCf
   have I4 : Inv X pins (σ.set i (some (.ref D'))) (upd H D' (.lst ys)) { s3 with heap := h', toks := s3.toks } := I3.turned (it := C) (fun b o hb e => (hs'.2 b hb).trans e) hCn (Ne.symm hlC) (.inr (Nat.le_trans (Nat.le_trans I2.ok.above (Nat.le_of_lt I2.lt)) hC)) (fun y c e => hcC y c e) fun p hp z => by
    have := (I2.pin p hp).1
    exact absurd (Heap.lt_size this) (Nat.not_lt.mpr (z ▸ hC))
   exact ⟨_, _, I4, qn D' pd.2.1⟩
 · exact .inr r
end
end L2
namespace PySem
open Builtin SmallTypes
open AutoSeq1 (wpAny_loadPart')
end PySem
namespace PySem
open Sem (wp)
end PySem
namespace PySem
open Sem (wp)
section
variable {P : Program} {w : World} {A : Around} {E : Value -> Shared -> Prop} {s : Shared}
end
end PySem
namespace L2
open PySem PySem.Spec PyProof.Rows
end L2
namespace L2
open PySem PySem.Spec PyProof.Rows
section
variable {X : Cx} {elts : List Expr} {x1 : Nat} {tpos : Pos}
end
end L2
namespace DL
open PySem PySem.Spec L2
section
variable {cA : Kn} {G : Cn} {ow : List Nat}
end
end DL
namespace PySem
open Builtin SmallTypes
open AutoSeq1 (wpAny_loadPart')
end PySem
namespace PySem
section
variable {P : Program} {w : World} {A : Around} {E : Value -> Shared -> Prop} {s : Shared}
end
end PySem
namespace L2
open PySem PySem.Spec PyProof.Rows
section
variable {X : Cx} {elts : List Expr} {x1 : Nat} {tpos : Pos}
end
end L2
namespace DL
open PySem PySem.Spec L2
section
variable {cA : Kn} {G : Cn} {ow : List Nat}
end
end DL
namespace DL
open PySem PySem.Spec L2 PyProof.Rows
def Wd (i : Int) : Prop := i.natAbs < 2 ^ 8000
instance (i : Int) : Decidable (Wd i) := by unfold Wd; infer_instance
def CMulW (i j : Int) : Prop := (Wd i /\ Wd j) \/ CMul i j
instance (i j : Int) : Decidable (CMulW i j) := by unfold CMulW; infer_instance
def ZeY (_ j : Int) : Prop := j ≠ 0 /\ Wd j
instance (i j : Int) : Decidable (ZeY i j) := by unfold ZeY; infer_instance
instance (i j : Int) : Decidable (ZgL i j) := by unfold ZgL; infer_instance
theorem Zfv {i : Int} (h : Wd i) (h0 : i ≠ 0) : i.natAbs.log2 < 8000 := (Nat.log2_lt (by omega)).mpr h
theorem CMulW.ok {i j : Int} (h : CMulW i j) : IntMulOk i j := by
 rcases h with ⟨h1, h2⟩ | h
 · have bits : ∀ {a : Int}, Wd a -> Builtin.Int.intBits a <= 2 ^ 20 := fun {a} ha => by
    unfold Builtin.Int.intBits
    by_cases h0 : a = 0
    · subst h0; decide
    · have := Zfv ha h0
      have e : (2 : Nat) ^ 20 = 1048576 := by decide
      rw [e]
      split <;> omega
   exact .of_bits (bits h1) (bits h2)
 · exact h.ok
section
variable {X : Cx} {cA : Kn}
theorem op_mulW : OpR X (binaryOp .Mult) (rI CMulW fun i j => .int (i * j)) := opI fun _ _ _ _ _ _ _ hc q => mul_int q hc.ok
end
end DL
namespace L2
open PySem PySem.Spec PySem.W PyProof.Rows
def bmV : List Value := [.type "ValueError", .type "Exception", .type "BaseException", .type "object"]
section
variable {X : Cx} {E : XK} {C : Addr} {x : Str} {p cpos pos : Pos} {e : Expr} {es : List Expr} {t : TA}
end
def CX1 (P : Program) (w : World) : CXT := fun outer H s E ev s' => ∃ (ea : Addr) (cls a0 : Value) (B : Heap) (H' : Hp), ev = .ref ea /\ s'.os = s.os /\ AllBare s'.gens /\ Heap.FlyingW B outer ea cls a0 s'.heap /\
 (∀ b o, s.heap.get? b = some o -> H b = none -> b ∉ frs outer -> B.get? b = some o) /\ HOk P w H' B /\ Same H H' /\ (∀ b o, s.heap.get? b = some o -> H b = none -> H' b = none) /\ (∀ b o, s.heap.get? b = some o -> b ∈ frs outer -> ∃ sl, s'.heap.get? b = some { o with slots := sl }) /\ E cls none H'
section
variable {P : Program} {w : World} {K : PySem.W.Frag} {mg : Str -> Option Value} {base : Heap} {N : List Str} {qual : Str} {scope : Scope} {f : Addr} {cd : Value} {A : Around} {outer : List Env} {s : Shared} {H : Hp} {E : XK}
end
end L2
namespace L2
open PySem PySem.Spec PySem.W PyProof.Rows PySem.Calls PySem.Builtin PySem.Builtin.ObjectAttr PySem.Builtin.Getset_descriptor
def Zf8 (e : Addr) (C : Value) (hp : Heap) : Prop := ∃ o : Obj, hp.get? e = some o /\ o.cls = C
structure ExCls (K : PySem.W.Frag) (C : Addr) : Prop where
 ex : excIn K C bmV "ValueError.__new__" = true
 ga : findIn K (.ref C) "__getattribute__" = some (some (.builtin "BaseException.__getattribute__"))
 mb : mroIn K C (.type "BaseException") = some true
 gt : findIn K (.ref C) "__getattr__" = some none
 ca : findIn K (.ref C) "__class__" = some (some (.builtin "object.__class__"))
 cg : specialIn K (.builtin "object.__class__") "__get__" = some (some (.builtin "getset_descriptor.__get__"))
 ct : takesIn K (.builtin "object.__class__") = some true
 mo : mroIn K C (.type "object") = some true
 cl : (clsIn K C).isSome = true
section
variable {P : Program} {w : World} {A : Around} {E : Value -> Shared -> Prop} {s : Shared} {K : PySem.W.Frag} {e C : Addr}
end
end L2
namespace L2
open PySem PySem.Spec PySem.W PyProof.Rows
theorem ObjOk.there {P : Program} {w : World} {H : Hp} {hp : Heap} {a : Addr} {o : HO} (x : ObjOk P w H hp a o) : ∃ u, hp.get? a = some u := by
 cases o with
 | lst xs => obtain ⟨_, _, _, _, e⟩ := x; exact ⟨_, e⟩
 | tup xs => obtain ⟨_, _, _, ob, e, _⟩ := x; exact ⟨_, e⟩
 | dK kvs => obtain ⟨_, _, _, _, o, _, _, e, _⟩ := x; exact ⟨_, e⟩
 | dT kvs => obtain ⟨_, _, _, _, o, _, _, e, _⟩ := x; exact ⟨_, e⟩
 | set S n => obtain ⟨o, _, _, _, e, _⟩ := x; exact ⟨_, e⟩
 | ins C dx fs => obtain ⟨_, _, _, e, _⟩ := x; exact ⟨_, e⟩
 | own y => exact x
 | xd fs => obtain ⟨_, ⟨_, _, _, e, _⟩, _⟩ := x; exact ⟨_, e⟩
 | rng lo hi => obtain ⟨_, _, _, e⟩ := x; exact ⟨_, e⟩
 | frz ob u => obtain ⟨e, _⟩ := x; exact ⟨_, e⟩
 | tbl ps => exact ⟨_, x⟩
 | met f y => exact ⟨_, x⟩
 | ext φ => exact x.2.1
section
variable {X : Cx} {pins : List (Addr × Obj)} {σ : St} {H H' : Hp} {s s' : Shared} {B hp : Heap} {ea : Addr} {C : Value}
end
section
variable {X : Cx} {E : XK}
end
end L2
namespace L2
open PySem PySem.Spec PySem.W PyProof.Rows
section
variable {X : Cx} {G : Addr} {g n : Str} {i : Nat} {body suite : List Stmt} {b₀ : Stmt} {gp hpos pos : Pos} {tb : XK -> TS} {ts : Addr -> Addr -> TS}
end
end L2
namespace DL
open PySem PySem.Spec L2
def spX (cA : Kn) (n : Nat) (m : List D -> Option D) (x : List D -> Option String) : Sp := fun vs H Q E => spD cA n m vs H Q E \/
 ∃ (av : Addr -> Prop) (ds : List D) (c : String), (∀ a, av a -> H a ≠ none) /\ RepL cA av H ds vs /\ ds.length = n /\ x ds = some c /\ ∀ H', Same H H' -> E (.ref (cA.c c)) none H'
def VX (G : Cn) (ow : List Nat) (E : XK) (ts : TS) (χ : Env -> Option String) : Prop :=
 ∀ H0 av A σ H δ, ER G ow H0 av A σ H δ -> ∀ c, χ δ = some c -> (∀ H', Same H0 H' -> E (.ref (G.1.c c)) none H') -> ∀ De : Ends, ts De σ H
section
variable {cA : Kn} {G : Cn} {ow ow1 owB owC owN : List Nat} {E : XK}
end
section
variable {P : Program} {w : World} {K : PySem.W.Frag} {mg : Str -> Option Value} {base : Heap} {cA : Kn}
end
end DL
namespace DL
open PySem PySem.Spec L2
def Zg5 (K : PySem.W.Frag) (cA : Kn) (v : V) (tab : List (String × Bool)) : Prop := ∀ c b, tab.lookup c = some b -> ∃ cv, (∀ u, RelV v u -> u = cv) /\ PySem.W.kitOne K (.ref (cA.c c)) cv = some b
inductive IsiEs (K : PySem.W.Frag) (cA : Kn) : List V -> List (List (String × Bool)) -> Prop where
 | nil : IsiEs K cA [] []
 | cons {v : V} {t : List (String × Bool)} {vs : List V} {ts : List (List (String × Bool))} : Zg5 K cA v t -> IsiEs K cA vs ts -> IsiEs K cA (v :: vs) (t :: ts)
section
variable {cA : Kn} {G : Cn} {ow owB owC : List Nat}
theorem ER.none {H0 H : Hp} {av : Addr -> Prop} {A : Nat -> Option Addr} {σ : L2.St} {δ : Env} {i : Nat} {x : Option V} (R : ER G ow H0 av A σ H δ) (hi : ow.contains i = false) (hn : G.2 i = Option.none) : ER G ow H0 av A (σ.set i x) H (δ.set i Option.none) :=
 ⟨R.same, R.avd, R.fr, R.inj, R.live, R.dom, R.dom', by rw [List.length_set, List.length_set]; exact R.len, R.pin, (fun j v' e => by
   have q : j ≠ i := fun z => by rw [z, hn] at e; cases e
   rw [List.getElem?_set_ne (Ne.symm q)]; exact R.kept j v' e), fun j d e => by
   have hj : j ≠ i := by
    intro z
    subst z
    by_cases hl : j < δ.length
    · rw [List.getElem?_set_self hl] at e; cases e
    · rw [List.getElem?_eq_none (by rw [List.length_set]; omega)] at e; cases e
   rw [List.getElem?_set_ne (Ne.symm hj)] at e
   obtain ⟨v, h1, h2⟩ := R.var j d e
   exact ⟨v, by rw [List.getElem?_set_ne (Ne.symm hj)]; exact h1, h2⟩⟩
end
end DL
namespace L2
open PySem PySem.Spec PyProof.Rows
section
variable {X : Cx}
def ZeZ (K : PySem.W.Frag) : R2 := fun x y H Q => ∃ l b xs zs, x = .ref l /\ y = .ref b /\ SqL K H l xs /\ SqL K H b zs /\ xs.length + zs.length <= sizeLine /\ ∀ p, H p = none -> Q (.ref p) (upd H p (.lst (xs ++ zs)))
theorem Zd9 : OpR X (binaryOp .Add) (ZeZ X.K) := by
 intro pins s σ H x y v u Q I rx ry h
 obtain ⟨l, b, xs, zs, rfl, rfl, hH, hB, hz, q⟩ := h
 cases rx
 cases ry
 obtain ⟨its, r, pl, _⟩ := I.list hH
 obtain ⟨its2, r2, pl2, _⟩ := I.list hB
 obtain ⟨⟨c1, d1, da1, sl1⟩, n1, g1, e1, e2, e3⟩ := pl
 obtain ⟨⟨c2, d2, da2, sl2⟩, n2, g2, f1, f2, f3⟩ := pl2
 dsimp only at e1 e2 e3 f1 f2 f3
 subst e1 e2 e3 f1 f2 f3
 have hl := r.length
 have hl2 := r2.length
 refine concat_meets ⟨_, g1, rfl⟩ ⟨_, g2, rfl⟩ noFill_list_add seq_list_add PySem.F.slot_list_add PySem.F.entry_list_add (PySem.F.args_list_add_2 _ _) (list_addW l b its.toArray its2.toArray n1 n2 none none sl1 sl2 (by rw [List.size_toArray, List.size_toArray]; omega)) ⟨g1, g2, ?_⟩
 have ea : its.toArray ++ its2.toArray = (its ++ its2).toArray := by simp
 rw [ea]
 exact ⟨.ref _, _, I.lnew (t' := s.toks) (r.append r2) (by rw [List.length_append]; omega), rfl, q _ I.fresh⟩
def Ze0 (K : PySem.W.Frag) : R2 := fun x y H Q => ∃ l k xs, x = .ref l /\ y = .int k /\ SqL K H l xs /\ -(2 ^ 63) <= k /\ k < 2 ^ 63 /\ xs.length * k.toNat <= sizeLine /\ ∀ p, H p = none -> Q (.ref p) (upd H p (.lst (List.replicate k.toNat xs).flatten))
theorem Zea : OpR X (binaryOp .Mult) (Ze0 X.K) := by
 intro pins s σ H x y v u Q I rx ry h
 obtain ⟨l, k, xs, rfl, rfl, hH, h1, h2, hz, q⟩ := h
 cases rx
 obtain ⟨t, rfl⟩ := ry
 obtain ⟨its, r, pl, _⟩ := I.list hH
 obtain ⟨⟨c1, d1, da1, sl1⟩, n1, g1, e1, e2, e3⟩ := pl
 dsimp only at e1 e2 e3
 subst e1 e2 e3
 have hl := r.length
 have hlen : its.toArray.size * k.toNat <= sizeLine := by rw [List.size_toArray, <- hl]; exact hz
 have hcap : ¬ its.toArray.size * k.toNat > (2 ^ 63 - 1) / 8 := by
  have : (sizeLine : Nat) <= (2 ^ 63 - 1) / 8 := by decide
  omega
 have hfit : ¬ (!Builtin.List.listFitsIndex k) = true := by
  rw [fitsIndex_both h1 h2]
  exact Bool.false_ne_true
 have hlong : ¬ Builtin.List.listTooLong (its.toArray.size * k.toNat) = true := by
  rw [ZcP hlen]
  exact Bool.false_ne_true
 have hnew : List.foldl (fun x1 x2 => x1 ++ x2) #[] (List.replicate (if its.toArray.isEmpty = true then 0 else k.toNat) its.toArray) = (List.replicate k.toNat its).flatten.toArray := by
  have f0 : ∀ m : Nat, List.foldl (fun x1 x2 => x1 ++ x2) #[] (List.replicate m its.toArray) = (List.replicate m its).flatten.toArray := fun m => by
   have := ZaD its m []
   rw [List.nil_append] at this
   exact this
  rw [f0]
  cases its with
  | nil => simp
  | cons a r' => rw [if_neg (by simp)]
 refine wpAny_binaryOp_repeat_ref (T := "list") (U := "int") (by decide) ⟨_, g1, rfl⟩ (fun s' => typeIs_int s' k t) noFill_list_mul F.fills_int_mul F.slot_int_rmul repeat_list F.slot_int_index.lookup
  (call_meets F.slot_int_rmul (typeIs_int s k t) F.entry_int_rmul (F.args_int_rmul_2 _ _) (lm_int_rmul_list_any k t l its.toArray n1 none sl1)
    ⟨g1, rfl, ⟨_, g1, rfl⟩, call_meets F.slot_list_mul ⟨_, g1, rfl⟩ F.entry_list_mul (F.args_list_mul_2 _ _) (lm_list_mul_any l its.toArray n1 none sl1 k t hfit hcap hlong) ⟨g1, ?_⟩⟩)
 rw [hnew]
 exact ⟨.ref _, _, I.lnew (t' := s.toks) (r.rep k.toNat) (by rw [ZdS, Nat.mul_comm]; exact hz), rfl, q _ I.fresh⟩
def UW (K : PySem.W.Frag) : R2 := fun x y H Q => rI0 (fun i j => .int (i + j)) x y H Q \/ rAddS x y H Q \/ ZeZ K x y H Q
theorem Zeb : OpR X (binaryOp .Add) (UW X.K) := op_add.or (op_addS.or Zd9)
theorem Z8 {K : PySem.W.Frag} (hK : X.K = K := by rfl) : OpR X (binaryOp .Add) (UW K) := hK ▸ Zeb
def UX (K : PySem.W.Frag) : R2 := fun x y H Q => rI DL.CMulW (fun i j => .int (i * j)) x y H Q \/ DL.rMulS x y H Q \/ Ze0 K x y H Q
theorem Zec : OpR X (binaryOp .Mult) (UX X.K) := DL.op_mulW.or (DL.op_mulS.or Zea)
theorem Xy {K : PySem.W.Frag} (hK : X.K = K := by rfl) : OpR X (binaryOp .Mult) (UX K) := hK ▸ Zec
end
end L2
namespace DL
open PySem PySem.Spec L2
section
variable {cA : Kn} {G : Cn} {ow owB owC : List Nat}
theorem ZbS {i : Addr -> Prop} {H : Hp} {p : Addr} {xs : List D} {vs : List V} (hi : ∀ a, i a -> H a ≠ none) (hp : H p = none) (l : RepL cA i H xs vs) : Rep cA i (upd H p (.lst vs)) (.lst xs) (.ref p) := by
 unfold Rep
 exact ⟨p, vs, rfl, fun z => (hi p z hp).elim, SqL.of ZJ, l.same (Z1 hp)⟩
def addX : D -> D -> Option D
 | .lst a, .lst b => if a.length + b.length <= sizeLine then some (.lst (a ++ b)) else none
 | x, y => addD x y
theorem Z9 : Yx cA (UW cA.K) addX := fun t t' i H x y vx vy d hi hx hy e Q k => by
 have old : addD x y = some d -> UW cA.K vx vy H Q := fun e => by
  rcases (Zfo (cA := cA) t t' i H x y vx vy d hi hx hy e Q k) with h | h | h
  · exact .inl h
  · exact .inr (.inl h)
  · obtain ⟨l, b, xs, zs, e1, e2, h1, h2, h3, h4⟩ := h
    exact .inr (.inr ⟨l, b, xs, zs, e1, e2, SqL.of h1, SqL.of h2, h3, h4⟩)
 cases x with
 | lst a =>
  cases y with
  | lst b =>
   dsimp only [addX] at e
   by_cases hz : a.length + b.length <= sizeLine
   · rw [if_pos hz] at e
     cases e
     obtain ⟨a1, vs1, rfl, _, r1, l1⟩ := hx
     obtain ⟨a2, vs2, rfl, _, r2, l2⟩ := hy
     exact .inr (.inr ⟨a1, a2, vs1, vs2, rfl, rfl, r1, r2, by rw [<- l1.length, <- l2.length]; exact hz, fun p hp => k _ _ (Z1 hp) (ZbS hi hp (l1.append l2))⟩)
   · rw [if_neg hz] at e; cases e
  | _ => exact old e
 | _ => exact old e
theorem RepL.rep {av : Addr -> Prop} {H : Hp} {xs : List D} {vs : List V} (l : RepL cA av H xs vs) : ∀ n : Nat, RepL cA av H (List.replicate n xs).flatten (List.replicate n vs).flatten
 | 0 => .nil
 | n + 1 => by
  rw [List.replicate_succ, List.replicate_succ, List.flatten_cons, List.flatten_cons]
  exact l.append (RepL.rep l n)
def mulX : D -> D -> Option D
 | .int i, .int j => if CMulW i j then some (.int (i * j)) else none
 | .str a, .int n => if n < 2 ^ 63 /\ -(2 ^ 63) <= n /\ a.length * n.toNat <= sizeLine then some (.str (Vc a n)) else none
 | .lst a, .int n => if n < 2 ^ 63 /\ -(2 ^ 63) <= n /\ a.length * n.toNat <= sizeLine then some (.lst (List.replicate n.toNat a).flatten) else none
 | _, _ => none
theorem Vi : Yx cA (UX cA.K) mulX := fun t t' i H x y vx vy d hi hx hy e Q k => by
 cases x <;> cases y <;> first | (cases e; done) | skip
 · cases (show vx = _ from hx); cases (show vy = _ from hy)
   rename_i a b
   dsimp only [mulX] at e
   by_cases hz : CMulW a b
   · rw [if_pos hz] at e
     cases e
     exact .inl ⟨_, _, rfl, rfl, hz, k _ H (Same.refl H) rfl⟩
   · rw [if_neg hz] at e; cases e
 · cases (show vx = _ from hx); cases (show vy = _ from hy)
   rename_i a n
   dsimp only [mulX] at e
   by_cases hz : n < 2 ^ 63 /\ -(2 ^ 63) <= n /\ a.length * n.toNat <= sizeLine
   · rw [if_pos hz] at e
     cases e
     exact .inr (.inl ⟨_, _, rfl, rfl, hz, k _ H (Same.refl H) rfl⟩)
   · rw [if_neg hz] at e; cases e
 · rename_i a n
   cases (show vy = _ from hy)
   dsimp only [mulX] at e
   by_cases hz : n < 2 ^ 63 /\ -(2 ^ 63) <= n /\ a.length * n.toNat <= sizeLine
   · rw [if_pos hz] at e
     cases e
     obtain ⟨a1, vs1, rfl, _, r1, l1⟩ := hx
     exact .inr (.inr ⟨a1, n, vs1, rfl, rfl, r1, hz.2.1, hz.1, by rw [<- l1.length]; exact hz.2.2, fun p hp => k _ _ (Z1 hp) (ZbS hi hp (l1.rep n.toNat))⟩)
   · rw [if_neg hz] at e; cases e
def Vj (i : Nat) (κ ε : Env -> Option D) (δ : Env) : Option Out := match ε δ with
 | some d => match Za i δ with
  | some (.lst xs) => match κ δ with
   | some (.int k) => match ixN xs.length k with
    | some j => some (.nx (δ.set i (some (.lst (xs.set j d)))))
    | none => none
   | _ => none
  | _ => none
 | none => none
theorem Zed {te ti : TE} {q : Ql} {ε κ : Env -> Option D} (i : Nat) (hi : ow.contains i = true) (h : VE G ow te .cl ε) (hk : VE G ow ti q κ) : VS G ow ow owB owC (Xd te (Qs (Y9 i) ti rSetL)) (Vj i κ ε) := fun H0 av A σ H δ E o e De k => by
 unfold Vj at e
 cases he : ε δ with
 | none => rw [he] at e; cases e
 | some d =>
  rw [he] at e
  dsimp only at e
  cases hv : Za i δ with
  | none => rw [hv] at e; cases e
  | some x =>
   rw [hv] at e
   cases x <;> first | (cases e; done) | skip
   rename_i xs
   dsimp only at e
   cases hq : κ δ with
   | none => rw [hq] at e; cases e
   | some y =>
    rw [hq] at e
    cases y <;> first | (cases e; done) | skip
    rename_i n
    dsimp only at e
    cases hj : ixN xs.length n with
    | none => rw [hj] at e; cases e
    | some j =>
     rw [hj] at e
     cases e
     have hi' : i ∈ ow := by simpa using hi
     cases hA : A i with
     | none => exact absurd hA (E.dom' i hi')
     | some a =>
      refine h H0 av A σ H δ E d he _ fun v H1 s1 r1 => ?_
      have E1 := E.mono s1
      obtain ⟨v0, h1, _, h3⟩ := E1.var i _ (Ys hv)
      obtain ⟨rfl, vs, q1, q2⟩ := h3 a hA
      refine ⟨_, h1, hk H0 av A σ H1 δ E1 _ hq _ fun y H2 s2 r2 => ?_⟩
      have ey : y = .int n := r2.any
      subst ey
      have E2 := E1.mono s2
      have q1' := s2 _ _ q1
      refine ⟨a, vs, n, j, rfl, rfl, q1', by rw [<- q2.length]; exact hj, k A σ _ (E2.put hA (Ys hv) (fun b o hb e => by rw [Zs hb]; exact e) (by rw [ZJ]; exact fun z => by cases z) ⟨_, ZJ, ?_⟩)⟩
      have ex : ∀ b o, ¬ AV av A b -> H2 b = some o -> upd H2 a (.lst (vs.set j v)) b = some o := fun b o nb e => by
       rw [Zs fun z => nb (.inr ⟨i, by rw [z]; exact hA⟩)]
       exact e
      exact (((q2.same s2).set ((RepT.r r1).same s2) j)).ext ex
end
end DL
namespace L2
open PySem PySem.W
end L2
namespace DL
open L2
theorem VX.frz {G : Cn} {ow ow1 : List Nat} {E : XK} {t : TS} {χ : Env -> Option String} (i : Nat) (h : VX G ow1 E t χ) (hn : G.2 i = none) (h1 : sub ow1 ow = true) (h2 : ow1.contains i = false) (h3 : sub ow (i :: ow1) = true) : VX G ow E t χ := fun H0 av A σ H δ R c e k De =>
 h H0 av _ σ H δ (R.freeze i (Q1 h1 h2 h3) hn) c e k De
end DL
namespace L2
open PySem
end L2
namespace L2
open PySem
end L2
namespace L2
open PySem PySem.Spec PySem.W PyProof.Rows
section
variable {X : Cx} {e : Expr} {te : TE} {pos : Pos}
inductive PJ (X : Cx) : List Expr -> List TE -> Prop where
 | nil : PJ X [] []
 | cons {e : Expr} {es : List Expr} {t : TE} {ts : List TE} : PE X e t -> PJ X es ts -> PJ X (e :: es) (t :: ts)
end
end L2
namespace DL
open PySem PySem.Spec L2
section
variable {G : Cn} {ow : List Nat}
inductive VJ (G : Cn) (ow : List Nat) : List TE -> List (Env -> Option D) -> Prop where
 | nil : VJ G ow [] []
 | cons {t : TE} {a : Env -> Option D} {ts : List TE} {as : List (Env -> Option D)} : VE G ow t .cl a -> VJ G ow ts as -> VJ G ow (t :: ts) (a :: as)
end
end DL
namespace L2
open PySem PySem.Spec PySem.W PyProof.Rows
section
variable {X : Cx} {E : XK}
end
end L2
namespace DL
open PySem PySem.Spec L2
abbrev XTab := List (String × (Nat × (List D -> Option D) × (List D -> Option String)))
structure MethOkX (X : Cx) (cA : Kn) (k : Nat) (m : String) (c : String) (n : Nat) (mm : List D -> Option D) (xm : List D -> Option String) : Prop where
 ex : ∃ f fd ps, Cls X.K (cA.c c) /\ Meth X.K (cA.c c) (Str.ofString m) f /\ FnOk X.prog X.w X.K X.mg X.base (CX1 X.prog X.w) k f fd ps (spX cA n mm xm) /\ Binds X.K fd ps []
def MTOkX (X : Cx) (cA : Kn) (k : Nat) (m : String) : XTab -> Prop
 | [] => True
 | (c, n, mm, xm) :: r => MethOkX X cA k m c n mm xm /\ MTOkX X cA k m r
theorem MTOkX.get {X : Cx} {cA : Kn} {k : Nat} {m : String} : ∀ {tab : XTab} {c : String} {n : Nat} {mm : List D -> Option D} {xm : List D -> Option String}, MTOkX X cA k m tab -> tab.lookup c = some (n, mm, xm) -> MethOkX X cA k m c n mm xm
 | [], _, _, _, _, _, h => by simp at h
 | (c', n', mm', xm') :: r, c, n, mm, xm, T, h => by
  rw [List.lookup_cons] at h
  cases hc : c == c' with
  | true =>
   rw [hc] at h
   cases h
   have : c = c' := eq_of_beq hc
   subst this
   exact T.1
  | false =>
   rw [hc] at h
   exact MTOkX.get T.2 h
section
variable {X : Cx} {cA : Kn} {k : Nat} {m : String} {tab : XTab} {o e : Expr} {es : List Expr} {ta : TE} {t : TA} {pos apos : Pos} {pl : Sem Bool} {E : XK}
end
section
variable {cA : Kn} {G : Cn} {ow ow1 owB owC owN : List Nat} {E : XK}
end
end DL
namespace L2
open PySem PySem.Spec PySem.W PyProof.Rows
theorem Zas : ∀ (cs : List Nat) (its : List Value), its.length = cs.length -> (∀ (j : Nat) (v : Value), its[j]? = some v -> ∃ (c : Nat) (u : Tok), cs[j]? = some c /\ v = Value.str ⟨#[c]⟩ u) -> Vals (cs.map fun c => S [c]) its
 | [], [], _, _ => .nil
 | c :: cs, [], h, _ => by simp at h
 | [], v :: its, h, _ => by simp at h
 | c :: cs, v :: its, h, k => by
  refine .cons ?_ (Zas cs its (by simpa using h) fun j v hj => by simpa using k (j + 1) v (by simpa using hj))
  obtain ⟨c', u, e1, e2⟩ := k 0 v rfl
  cases e1
  exact ⟨u, e2⟩
def Ze1 (K : PySem.W.Frag) : List V -> Hp -> VK -> Prop := fun xs H Q => Zfm K xs H Q \/ ∃ cs, xs = [S cs] /\ cs.length <= sizeLine /\ ∀ l, H l = none -> Q (.ref l) (upd H l (.lst (cs.map fun c => S [c])))
theorem Zbx {X : Cx} {K : PySem.W.Frag} (hc : X.calm = true := by rfl) (hK : X.K = K := by rfl) : ZW X (.type "list") (Ze1 K) := by
 subst hK
 intro pins s σ H xs us Q I r h
 rcases h with h | ⟨cs, rfl, hz, q⟩
 · exact ZaU pins s σ H xs us Q I r h
 · obtain ⟨u, rfl, rx⟩ := Yu r
   obtain ⟨t, rfl⟩ := rx
   refine call_list_str (I.ok.hd hc) (tx cs) t (fun h' tk acc' c' kp e hi => ?_) (by simpa using hz)
   have hv : Vals (cs.map fun c => S [c]) acc'.toList := Zas cs _ (by simpa using hi.1) fun j v hj => by
    obtain ⟨c, u, e1, e2⟩ := hi.2 j v (by simpa using hj)
    exact ⟨c, u, by simpa using e1, e2⟩
   exact ⟨.ref s.heap.objs.size, _, I.laid (t' := tk) kp (Nat.le_refl _) (show ObjOk X.prog X.w _ h' _ (.lst _) from ⟨by rw [List.length_map]; exact hz, acc'.toList, c', hv, e⟩), rfl, q _ (I.hok.fresh (Nat.le_refl _))⟩
end L2
namespace DL
open PySem PySem.Spec L2
def V1 : List D -> Option D
 | [.str cs] => if cs.length <= sizeLine then some (.lst (cs.map fun c => .str [c])) else none
 | ds => ZeT ds
section
variable {G : Cn} {ow : List Nat}
theorem Zat {cA : Kn} {av : Addr -> Prop} {H : Hp} : ∀ cs : List Nat, RepL cA av H (cs.map fun c => D.str [c]) (cs.map fun c => S [c])
 | [] => .nil
 | c :: cs => .cons rfl (Zat cs)
theorem Zc1 {t : TA} {q : Ql} {α : Env -> Option (List D)} (hq : q = .cl \/ q = .tp) (h : VA G ow t q α) : VF G ow (tCB (Ze1 G.1.K) t) (eCB V1 α) := fun H0 av A σ H δ E d e Q k => by
 unfold eCB at e
 cases he : α δ with
 | none => rw [he] at e; cases e
 | some ds =>
  rw [he] at e
  replace e : V1 ds = some d := e
  unfold V1 at e
  split at e
  · rename_i cs
    by_cases hz : cs.length <= sizeLine
    · rw [if_pos hz] at e
      cases e
      refine h H0 av A σ H δ E _ he _ fun vs H1 s1 r1 => ?_
      have il : YZ G.1 (AV av A) H1 [.str cs] vs := by
       rcases hq with rfl | rfl <;> exact r1.il
      obtain ⟨v, t, rfl, hx⟩ := il1 il
      cases (show v = _ from hx)
      exact .inr ⟨cs, rfl, hz, fun p hp => k p _ _ H1 s1 hp (Zat cs) rfl⟩
    · rw [if_neg hz] at e; cases e
  · exact h H0 av A σ H δ E _ he _ fun vs H1 s1 r1 => by
     have il : YZ G.1 (AV av A) H1 ds vs := by
      rcases hq with rfl | rfl <;> exact r1.il
     refine .inl ?_
     unfold ZeT at e
     split at e
     · rename_i xs
       cases e
       obtain ⟨v, t, rfl, a, ws, rfl, _, rd, l⟩ := il1 il
       exact ⟨a, ws, rfl, .inl rd, fun p hp => k p ws _ H1 s1 hp l rfl⟩
     · rename_i xs
       cases e
       obtain ⟨v, t, rfl, a, ws, rfl, _, rd, l⟩ := il1 il
       exact ⟨a, ws, rfl, .inr (SqT.of rd), fun p hp => k p ws _ H1 s1 hp l rfl⟩
     · cases e
end
end DL
namespace L2
open PySem PySem.Spec PySem.W PyProof.Rows
structure RoomE (k : Nat) (A : Around) : Prop where
 dp : A.depth + 3 * k + 5 < recursionLimit
 un : A.units + 16 * k + 200 < cLine
structure FnOkE (P : Program) (w : World) (K : PySem.W.Frag) (mg : Str -> Option Value) (base : Heap) (k : Nat) (f : Addr) (fd : FuncData) (ps : List Str) (sp : List V -> Hp -> VK -> Prop) : Prop where
 len : ∀ vs H Q, sp vs H Q -> vs.length = ps.length
 run : ∀ (A : Around) (outer : List PySem.Env) (s : Shared) (H : Hp) (args : Args) (us : List Value) (vs : List V) (Q : VK), RoomE k A -> Env0 P w K mg base A outer s H -> BindsTo s fd args (ps.zip us) -> Vals vs us -> sp vs H Q ->
  codeAny (model P w) A (.call (.ref f) args) (CR CX0 outer P w H s Q E0) s
end L2
namespace DL
open PySem PySem.Spec L2
def Zfw (K : PySem.W.Frag) (cA : Kn) (i : Nat) (mk : Addr -> Addr -> TE) (tab : List (String × Bool)) : Prop := ∀ (c : String) (b : Bool) (ea : Addr) (σ : L2.St) (H : Hp) (Q : VK), ExCls K (cA.c c) -> tab.lookup c = some b -> σ[i]? = some (some (.ref ea)) -> H ea = some (.ext (Zf8 ea (.ref (cA.c c)))) -> (∀ H', Same H H' -> Q (.bl b) H') -> mk (cA.c c) ea σ H Q
inductive Items (K : PySem.W.Frag) (cA : Kn) (i : Nat) : List (Addr -> Addr -> TE) -> List (List (String × Bool)) -> Prop where
 | nil : Items K cA i [] []
 | cons {m : Addr -> Addr -> TE} {t : List (String × Bool)} {ms : List (Addr -> Addr -> TE)} {ts : List (List (String × Bool))} : Zfw K cA i m t -> Items K cA i ms ts -> Items K cA i (m :: ms) (t :: ts)
section
variable {cA : Kn} {G : Cn} {ow owB owC : List Nat}
end
end DL
namespace L2
open PySem PySem.Spec PyProof.Rows
section
variable {X : Cx} {elts : List Expr} {x1 : Nat} {tpos : Pos}
end
end L2
namespace DL
open PySem PySem.Spec L2
section
variable {cA : Kn} {G : Cn} {ow : List Nat}
end
end DL
namespace DL
open PySem PySem.Spec L2
def mat (rows : List (List D)) : D := .lst (rows.map D.lst)
structure Mx (H : Hp) (a : Addr) (bs : List Addr) (rows : List (List D)) : Prop where
 top : H a = some (.lst (bs.map V.ref))
 len : bs.length = rows.length
 nd : bs.Nodup
 na : a ∉ bs
 row : ∀ (k : Nat) (b : Addr) (r : List D), bs[k]? = some b -> rows[k]? = some r -> H b = some (.lst (r.map val))
 sc : ∀ r ∈ rows, r.all Zi = true
section
variable {H H' : Hp} {a : Addr} {bs : List Addr} {rows : List (List D)}
theorem Mx.mem (M : Mx H a bs rows) {b : Addr} (h : b ∈ bs) : ∃ r ∈ rows, H b = some (.lst (r.map val)) := by
 obtain ⟨k, hk, e⟩ := List.mem_iff_getElem.mp h
 have hk2 : k < rows.length := by rw [<- M.len]; exact hk
 exact ⟨rows[k], List.getElem_mem hk2, M.row k b _ (by rw [List.getElem?_eq_getElem hk, e]) (List.getElem?_eq_getElem hk2)⟩
theorem Mx.there (M : Mx H a bs rows) {x : Addr} (h : x ∈ a :: bs) : ∃ vs, H x = some (.lst vs) := by
 rcases List.mem_cons.mp h with rfl | h
 · exact ⟨_, M.top⟩
 · obtain ⟨r, _, e⟩ := M.mem h
   exact ⟨_, e⟩
theorem Mx.mono (M : Mx H a bs rows) (k : Same H H') : Mx H' a bs rows := ⟨k _ _ M.top, M.len, M.nd, M.na, fun n b r h1 h2 => k _ _ (M.row n b r h1 h2), M.sc⟩
theorem Mx.rep {cA : Kn} {av : Addr -> Prop} (M : Mx H a bs rows) (hn : ∀ x ∈ a :: bs, ¬ av x) : Rep cA av H (mat rows) (.ref a) := by
 have go : ∀ (bs : List Addr) (rows : List (List D)), bs.length = rows.length -> (∀ x ∈ bs, ¬ av x) -> (∀ (k : Nat) (b : Addr) (r : List D), bs[k]? = some b -> rows[k]? = some r -> H b = some (.lst (r.map val))) -> (∀ r ∈ rows, r.all Zi = true) -> RepL cA av H (rows.map D.lst) (bs.map V.ref) := by
  intro bs
  induction bs with
  | nil =>
   intro rows hl _ _ _
   cases rows with
   | nil => exact .nil
   | cons _ _ => simp at hl
  | cons b bs ih =>
   intro rows hl hn hr hs
   cases rows with
   | nil => simp at hl
   | cons r rows =>
    refine .cons ?_ (ih rows (by simpa using hl) (fun x hx => hn x (List.mem_cons_of_mem _ hx)) (fun k b r h1 h2 => hr (k + 1) b r (by simpa using h1) (by simpa using h2)) fun r hr => hs r (List.mem_cons_of_mem _ hr))
    unfold Rep
    exact ⟨b, r.map val, rfl, fun z => (hn b List.mem_cons_self z).elim, SqL.of (hr 0 b r rfl rfl), .of_vals (hs r List.mem_cons_self)⟩
 unfold mat Rep
 exact ⟨a, bs.map V.ref, rfl, fun z => (hn a List.mem_cons_self z).elim, SqL.of M.top, go bs rows M.len (fun x hx => hn x (List.mem_cons_of_mem _ hx)) M.row M.sc⟩
end
open Classical in
noncomputable def ovl (H0 H : Hp) (F : List Addr) : Hp := fun x => if x ∈ F then H x else H0 x
theorem YK {H0 H : Hp} {F : List Addr} {x : Addr} (h : x ∈ F) : ovl H0 H F x = H x := if_pos h
theorem Yp {H0 H : Hp} {F : List Addr} {x : Addr} (h : x ∉ F) : ovl H0 H F x = H0 x := if_neg h
abbrev Cn.keep (G : Cn) (i : Nat) (v : V) : Cn := ⟨G.1, fun j => if j = i then some (.inr v) else G.2 j⟩
abbrev avF (av : Addr -> Prop) (F : List Addr) : Addr -> Prop := fun x => av x \/ x ∈ F
def PinOk (G : Cn) (i : Nat) (σ : L2.St) : Prop := ∀ z, G.2 i = some z -> ∃ v, z = .inr v /\ σ[i]? = some (some v)
theorem PinOk.none {G : Cn} {i : Nat} {σ : L2.St} (h : G.2 i = Option.none) : PinOk G i σ := fun z e => by rw [h] at e; cases e
theorem PinOk.set {G : Cn} {i k : Nat} {σ : L2.St} {x : Option V} (h : PinOk G i σ) (hk : k ≠ i) : PinOk G i (σ.set k x) := fun z e => by
 obtain ⟨v, h1, h2⟩ := h z e
 exact ⟨v, h1, by rw [List.getElem?_set_ne hk]; exact h2⟩
structure MR (G : Cn) (ow : List Nat) (i : Nat) (H0 : Hp) (av : Addr -> Prop) (A : Nat -> Option Addr) (σ : L2.St) (H : Hp) (δ : Env) : Prop where
 ni : i ∉ ow
 nn : PinOk G i σ
 avd : ∀ x, av x -> H0 x ≠ none
 ex : ∃ a bs rows, δ[i]? = some (some (mat rows)) /\ Mx H a bs rows /\ (∀ x ∈ a :: bs, H0 x = none) /\ ER (G.keep i (.ref a)) ow (ovl H0 H (a :: bs)) (avF av (a :: bs)) A σ H (δ.set i none)
section
variable {cA : Kn} {G : Cn} {ow owN owB owC ow1 : List Nat} {i : Nat} {H0 H H' : Hp} {av : Addr -> Prop} {A : Nat -> Option Addr} {σ : L2.St} {δ : Env}
theorem Vk {j : Nat} {v : V} (h : j ≠ i) : (G.keep i v).2 j = G.2 j := if_neg h
theorem Vl {v : V} : (G.keep i v).2 i = some (.inr v) := if_pos rfl
theorem MR.view (R : MR G ow i H0 av A σ H δ) : ER G ow H0 av A σ H δ := by
 obtain ⟨a, bs, rows, hd, M, h0, E⟩ := R.ex
 have nF : ∀ j x, A j = some x -> x ∉ a :: bs := fun j x e z => by
  have := E.fr j x e
  rw [YK z] at this
  obtain ⟨vs, q⟩ := M.there z
  rw [q] at this; cases this
 have hAi : A i = none := by
  cases q : A i with
  | none => rfl
  | some x => exact (R.ni (E.dom i (by rw [q]; exact fun z => by cases z))).elim
 have less : ∀ b, AV av A b -> AV (avF av (a :: bs)) A b := fun b z => z.elim (fun z => .inl (.inl z)) .inr
 have hil : i < δ.length := (List.getElem?_eq_some_iff.mp hd).1
 refine ⟨fun b o e => ?_, R.avd, fun j x e => ?_, E.inj, E.live, E.dom, E.dom', by rw [E.len, List.length_set], fun j x e => ?_, fun j v e => ?_, fun j d e => ?_⟩
 · have nb : b ∉ a :: bs := fun z => by rw [h0 b z] at e; cases e
   exact E.same b o (by rw [Yp nb]; exact e)
 · have := E.fr j x e
   rw [Yp (nF j x e)] at this
   exact this
 · have q : j ≠ i := fun z => by
    obtain ⟨v, h1, _⟩ := R.nn _ (z ▸ e)
    cases h1
   exact E.pin j x (by rw [Vk q]; exact e)
 · by_cases q : j = i
   · obtain ⟨v', h1, h2⟩ := R.nn _ (q ▸ e)
     cases h1
     rw [q]
     exact h2
   · exact E.kept j v (by rw [Vk q]; exact e)
 · by_cases q : j = i
   · subst q
     rw [hd] at e
     cases e
     refine ⟨.ref a, E.kept j _ Vl, fun _ => M.rep fun x hx z => ?_, fun b z => by rw [hAi] at z; cases z⟩
     rcases z with z | ⟨k, z⟩
     · exact R.avd x z (h0 x hx)
     · exact nF k x z hx
   · obtain ⟨v, h1, h2, h3⟩ := E.var j d (by rw [List.getElem?_set_ne (Ne.symm q)]; exact e)
     refine ⟨v, h1, fun z => (h2 z).av fun b z => .inl (less b z), fun b z => ?_⟩
     obtain ⟨r1, r2⟩ := h3 b z
     refine ⟨r1, ?_⟩
     cases d with
     | lst xs => obtain ⟨vs, q1, q2⟩ := r2; exact ⟨vs, q1, q2.av fun b z => .inl (less b z)⟩
     | obj c ks xs => obtain ⟨dx, vs, q1, q0, q2⟩ := r2; exact ⟨dx, vs, q1, q0, q2.av fun b z => .inl (less b z)⟩
     | dct ks xs => obtain ⟨vs, q1, q0, q2⟩ := r2; exact ⟨vs, q1, q0, q2.av fun b z => .inl (less b z)⟩
     | _ => exact r2
theorem Q9 {a : Addr} {bs : List Addr} {rows : List (List D)} (M : Mx H a bs rows) (k : Same H H') : ovl H0 H' (a :: bs) = ovl H0 H (a :: bs) := by
 funext x
 by_cases h : x ∈ a :: bs
 · rw [YK h, YK h]
   obtain ⟨vs, q⟩ := M.there h
   rw [q, k _ _ q]
 · rw [Yp h, Yp h]
theorem MR.mono (R : MR G ow i H0 av A σ H δ) (k : Same H H') : MR G ow i H0 av A σ H' δ := by
 obtain ⟨a, bs, rows, hd, M, h0, E⟩ := R.ex
 exact ⟨R.ni, R.nn, R.avd, a, bs, rows, hd, M.mono k, h0, by rw [Q9 M k]; exact E.mono k⟩
theorem MR.set {k : Nat} {d : D} (R : MR G ow i H0 av A σ H δ) (hs : Zi d = true) (hk : k ≠ i) (hw : ∀ j, j ∈ owN ↔ j ∈ ow /\ j ≠ k) (hn : G.2 k = none) : MR G owN i H0 av (fun j => if j = k then none else A j) (σ.set k (some (val d))) H (δ.set k (some d)) := by
 obtain ⟨a, bs, rows, hd, M, h0, E⟩ := R.ex
 refine ⟨fun z => R.ni ((hw i).mp z).1, R.nn.set hk, R.avd, a, bs, rows, by rw [List.getElem?_set_ne hk]; exact hd, M, h0, ?_⟩
 rw [List.set_comm _ _ hk]
 exact E.set (.of_val hs) hw (by rw [Vk hk]; exact hn)
theorem MR.turn {a : Addr} {bs : List Addr} {rows rows' : List (List D)} (ni : i ∉ ow) (nn : PinOk G i σ) (havd : ∀ x, av x -> H0 x ≠ none) (hd : δ[i]? = some (some (mat rows))) (M : Mx H a bs rows) (h0 : ∀ x ∈ a :: bs, H0 x = none) (E : ER (G.keep i (.ref a)) ow (ovl H0 H (a :: bs)) (avF av (a :: bs)) A σ H (δ.set i none))
 (M' : Mx H' a bs rows') (hk : ∀ x, x ∉ a :: bs -> H' x = H x) : MR G ow i H0 av A σ H' (δ.set i (some (mat rows'))) := by
 have hil : i < δ.length := (List.getElem?_eq_some_iff.mp hd).1
 have nF : ∀ j x, A j = some x -> x ∉ a :: bs := fun j x e z => by
  have := E.fr j x e
  rw [YK z] at this
  obtain ⟨vs, q⟩ := M.there z
  rw [q] at this; cases this
 refine ⟨ni, nn, havd, a, bs, rows', List.getElem?_set_self hil, M', h0, ?_⟩
 have e1 : (δ.set i (some (mat rows'))).set i none = δ.set i none := List.set_set ..
 rw [e1]
 refine ⟨fun b o e => ?_, fun x z => ?_, fun j x e => ?_, E.inj, fun j x e => ?_, E.dom, E.dom', E.len, E.pin, E.kept, fun j d e => ?_⟩
 · by_cases h : b ∈ a :: bs
   · rw [YK h] at e; exact e
   · rw [Yp h] at e
     rw [hk b h]
     exact E.same b o (by rw [Yp h]; exact e)
 · by_cases h : x ∈ a :: bs
   · rw [YK h]
     obtain ⟨vs, q⟩ := M'.there h
     rw [q]; exact fun z => by cases z
   · rw [Yp h]
     exact havd x (z.resolve_right h)
 · have := E.fr j x e
   rw [Yp (nF j x e)] at this ⊢
   exact this
 · rw [hk x (nF j x e)]
   exact E.live j x e
 · have ex : ∀ b o, ¬ AV (avF av (a :: bs)) A b -> H b = some o -> H' b = some o := fun b o n e => by
    rw [hk b fun z => n (.inl (.inr z))]; exact e
   obtain ⟨v, h1, h2, h3⟩ := E.var j d e
   refine ⟨v, h1, fun z => (h2 z).ext ex, fun b z => ?_⟩
   obtain ⟨r1, r2⟩ := h3 b z
   refine ⟨r1, ?_⟩
   cases d with
   | lst xs => obtain ⟨vs, q1, q2⟩ := r2; exact ⟨vs, by rw [hk b (nF j b z)]; exact q1, q2.ext ex⟩
   | obj c ks xs => obtain ⟨dx, vs, q1, q0, q2⟩ := r2; exact ⟨dx, vs, by rw [hk b (nF j b z)]; exact q1, q0, q2.ext ex⟩
   | dct ks xs => obtain ⟨vs, q1, q0, q2⟩ := r2; exact ⟨vs, by rw [hk b (nF j b z)]; exact q1, q0, q2.ext ex⟩
   | _ => exact r2
end
end DL
namespace DL
open PySem PySem.Spec L2
def WantsM (G : Cn) (owN owB owC : List Nat) (i : Nat) (H0 : Hp) (av : Addr -> Prop) (De : Ends) : Out -> Prop
 | .nx δ' => ∀ A' σ' H', MR G owN i H0 av A' σ' H' δ' -> De.nx σ' H'
 | .rt d => ∀ v H', Same H0 H' -> Rep G.1 av H' d v -> De.rt v H'
 | .bk δ' => ∀ A' σ' H', MR G owB i H0 av A' σ' H' δ' -> De.bk σ' H'
 | .ct δ' => ∀ A' σ' H', MR G owC i H0 av A' σ' H' δ' -> De.ct σ' H'
def VM (G : Cn) (ow owN owB owC : List Nat) (i : Nat) (ts : TS) (φ : Env -> Option Out) : Prop :=
 ∀ H0 av A σ H δ, MR G ow i H0 av A σ H δ -> ∀ o, φ δ = some o -> ∀ De : Ends, WantsM G owN owB owC i H0 av De o -> ts De σ H
section
variable {cA : Kn} {G : Cn} {ow owN owB owC ow1 : List Nat} {i : Nat}
theorem ZbT : VM G ow ow owB owC i tNext sNext := fun H0 av A σ H δ R o e De k => by
 cases e
 exact k A σ H R
theorem Vm {t u : TS} {φ ψ : Env -> Option Out} (h1 : VM G ow ow1 owB owC i t φ) (h2 : VM G ow1 owN owB owC i u ψ) : VM G ow owN owB owC i (Uf t u) (Zd φ ψ) := fun H0 av A σ H δ R o e De k => by
 unfold Zd at e
 cases he : φ δ with
 | none => rw [he] at e; cases e
 | some o1 =>
  rw [he] at e
  refine h1 H0 av A σ H δ R o1 he _ ?_
  cases o1 with
  | nx δ' => exact fun A' σ' H' R' => h2 H0 av A' σ' H' δ' R' o e De k
  | rt d => cases e; exact k
  | bk δ' => cases e; exact k
  | ct δ' => cases e; exact k
theorem Ze2 {c : TT} {t u : TS} {τ : Env -> Option Bool} {φ ψ : Env -> Option Out} (hc : VT G ow c τ) (h1 : VM G ow owN owB owC i t φ) (h2 : VM G ow owN owB owC i u ψ) : VM G ow owN owB owC i (Qr c t u) (sIf τ φ ψ) := fun H0 av A σ H δ R o e De k => by
 unfold sIf at e
 cases he : τ δ with
 | none => rw [he] at e; cases e
 | some b =>
  rw [he] at e
  refine hc H0 av A σ H δ R.view b he _ fun H' s => ?_
  cases b with
  | true => exact Xf (h1 H0 av A σ H' δ (R.mono s) o e De k)
  | false => exact Xe (h2 H0 av A σ H' δ (R.mono s) o e De k)
theorem Zfx {te : TE} {q : Ql} {ε : Env -> Option D} (h : VE G ow te q ε) : VM G ow owN owB owC i (Qq te) (ZE ε) := fun H0 av A σ H δ R o e De k => by
 unfold ZE at e
 cases he : ε δ with
 | none => rw [he] at e; cases e
 | some d =>
  rw [he] at e
  cases e
  exact h H0 av A σ H δ R.view d he _ fun v H' s r => k v H' (R.view.same.trans s) r.any
def VIr (G : Cn) (ow : List Nat) (wi : TI) (ι : Env -> Option (List D)) : Prop :=
 ∀ H0 av A σ H δ, ER G ow H0 av A σ H δ -> ∀ xs, ι δ = some xs -> ∀ R : It -> Hp -> Prop, (∀ J H1, Same H H1 -> Vf G.1 (fun _ => True) J xs (fun _ => none) -> (∀ x ∈ xs, Zi x = true) -> R J H1) -> wi σ H R
theorem ZbU {lo c : Int} {n : Nat} : ∀ x ∈ Zy lo c n, Zi x = true := fun x hx => by
 obtain ⟨k, _, rfl⟩ := List.mem_map.mp hx
 rfl
theorem Zbc {ta : TA} {q : Ql} {a : Env -> Option (List D)} (h : VA G ow ta q a) (hl : ∀ δ ds, a δ = some ds -> ds.length = 1) : VIr G ow (Qw ta) (Zt a) := fun H0 av A σ H δ E xs e R k => by
 unfold Zt at e
 cases he : a δ with
 | none => rw [he] at e; cases e
 | some ds =>
  rw [he] at e
  refine h H0 av A σ H δ E ds he _ fun vs H1 s r => ?_
  have hln := hl δ ds he
  split at e
  · rename_i j he2
    cases he2
    by_cases hz : -(2 ^ 62) <= j /\ j < 2 ^ 62
    · rw [if_pos hz] at e
      cases e
      exact ⟨j, ql1 r, hz.1, hz.2, k _ H1 s UQ ZbU⟩
    · rw [if_neg hz] at e; cases e
  · rename_i he2; cases he2; simp at hln
  · rename_i he2; cases he2; simp at hln
  · cases e
theorem Zc2 {ta : TA} {q : Ql} {a : Env -> Option (List D)} (h : VA G ow ta q a) (hl : ∀ δ ds, a δ = some ds -> ds.length = 2) : VIr G ow (Qx ta) (Zt a) := fun H0 av A σ H δ E xs e R k => by
 unfold Zt at e
 cases he : a δ with
 | none => rw [he] at e; cases e
 | some ds =>
  rw [he] at e
  refine h H0 av A σ H δ E ds he _ fun vs H1 s r => ?_
  have hln := hl δ ds he
  split at e
  · rename_i he2; cases he2; simp at hln
  · rename_i i j he2
    cases he2
    by_cases hz : -(2 ^ 62) <= i /\ i < 2 ^ 62 /\ -(2 ^ 62) <= j /\ j < 2 ^ 62
    · rw [if_pos hz] at e
      cases e
      exact ⟨i, j, ql2 r, hz, k _ H1 s UQ ZbU⟩
    · rw [if_neg hz] at e; cases e
  · rename_i he2; cases he2; simp at hln
  · cases e
theorem Ja {wi : TI} {tb : TS} {ι : Env -> Option (List D)} {φ : Env -> Option Out} (k' : Nat) (hk : k' ≠ i) (hko : ow.contains k' = false) (hn : G.2 k' = none) (hi : VIr G ow wi ι) (hb : VM G ow ow ow ow i tb φ) : VM G ow ow owB owC i (Qy wi (Xc k') tb) (ZL ι (Zl k') φ) := fun H0 av A σ H δ R o e De k => by
 unfold ZL at e
 cases he : ι δ with
 | none => rw [he] at e; cases e
 | some xs =>
  rw [he] at e
  have e : Z2 (Zl k') φ xs δ = some o := e
  refine hi H0 av A σ H δ R.view xs he _ fun J H1 s1 W hsc => ?_
  refine ⟨fun j m σ' H' => m = xs.length - j /\ j <= xs.length /\ ∃ A' δ', MR G ow i H0 av A' σ' H' δ' /\ Z2 (Zl k') φ (xs.drop j) δ' = some o, ⟨xs.length, by simp, Nat.zero_le _, A, δ, R.mono s1, e⟩, ?_⟩
  rintro j m σ' H' ⟨rfl, hle, A', δ', R', e'⟩
  obtain ⟨w1, w2, w3⟩ := W H' (fun b o z => by cases z)
  by_cases hlt : j < xs.length
  · refine .inr ⟨w1 j hlt, fun σ2 H2 => ∃ A2 δ2, MR G ow i H0 av A2 σ2 H2 δ2 /\ Z2 (Zl k') φ (xs.drop (j + 1)) δ2 = some o, fun σ2 H2 ⟨A2, δ2, E2, e2⟩ => ⟨xs.length - (j + 1), by omega, rfl, hlt, A2, δ2, E2, e2⟩, fun v H2 y => ?_⟩
    have hx : xs[j]? = some xs[j] := List.getElem?_eq_getElem hlt
    obtain ⟨s2, rep⟩ := w2 j _ v H2 hx y
    have hs := hsc xs[j] (List.getElem_mem hlt)
    have ev : v = val xs[j] := (rep (fun _ => False) (fun _ z => z.elim) (fun _ z => z.elim)).val hs
    subst ev
    rw [List.drop_eq_getElem_cons hlt] at e'
    unfold Z2 at e'
    have e' : (match φ (δ'.set k' (some xs[j])) with
     | none => none
     | some (.nx δ2) => Z2 (Zl k') φ (xs.drop (j + 1)) δ2
     | some (.ct δ2) => Z2 (Zl k') φ (xs.drop (j + 1)) δ2
     | some (.bk δ2) => some (.nx δ2)
     | some (.rt d) => some (.rt d)) = some o := e'
    have R2 := (R'.mono s2).set (owN := ow) hs hk (fun j => by
     have : k' ∉ ow := by simpa using hko
     exact ⟨fun h => ⟨h, fun z => this (z ▸ h)⟩, fun h => h.1⟩) hn
    cases hφ : φ (δ'.set k' (some xs[j])) with
    | none => rw [hφ] at e'; cases e'
    | some o1 =>
     rw [hφ] at e'
     refine hb _ av _ _ H2 _ R2 o1 hφ _ ?_
     cases o1 with
     | nx δ2 => exact fun A4 σ4 H4 E4 => ⟨A4, δ2, E4, e'⟩
     | ct δ2 => exact fun A4 σ4 H4 E4 => ⟨A4, δ2, E4, e'⟩
     | bk δ2 => cases e'; exact fun A4 σ4 H4 E4 => k A4 σ4 H4 E4
     | rt d => cases e'; exact k
  · have ei : j = xs.length := by omega
    subst ei
    rw [List.drop_length] at e'
    cases e'
    exact .inl ⟨w3 _ (Nat.le_refl _), k A' σ' H' R'⟩
theorem Zc3 {c : TT} {tb : TS} {τ : Env -> Option Bool} {φ : Env -> Option Out} (hc : VT G ow c τ) (hb : VM G ow ow ow ow i tb φ) : VM G ow ow owB owC i (Qt c tb) (Z3 τ φ) := fun H0 av A σ H δ E o e De k => by
 obtain ⟨n, e⟩ := Zai e
 refine ⟨fun m σ' H' => ∃ A' δ', MR G ow i H0 av A' σ' H' δ' /\ ZU τ φ m δ' = some o, ⟨n, A, δ, E, e⟩, ?_⟩
 rintro m σ' H' ⟨A', δ', E', e'⟩
 cases m with
 | zero => cases e'
 | succ m =>
  unfold ZU at e'
  cases ht : τ δ' with
  | none => rw [ht] at e'; cases e'
  | some b =>
   rw [ht] at e'
   refine hc H0 av A' σ' H' δ' E'.view b ht _ fun H2 s2 => ?_
   have E2 := E'.mono s2
   cases b with
   | false => cases e'; exact Xe (k A' σ' H2 E2)
   | true =>
    dsimp only at e'
    refine Xf ⟨fun σ3 H3 => ∃ A3 δ3, MR G ow i H0 av A3 σ3 H3 δ3 /\ ZU τ φ m δ3 = some o, fun σ3 H3 ⟨A3, δ3, E3, e3⟩ => ⟨m, Nat.lt_succ_self _, A3, δ3, E3, e3⟩, ?_⟩
    cases hφ : φ δ' with
    | none => rw [hφ] at e'; cases e'
    | some o1 =>
     rw [hφ] at e'
     refine hb H0 av A' σ' H2 δ' E2 o1 hφ _ ?_
     cases o1 with
     | nx δ2 => exact fun A4 σ4 H4 E4 => ⟨A4, δ2, E4, e'⟩
     | ct δ2 => exact fun A4 σ4 H4 E4 => ⟨A4, δ2, E4, e'⟩
     | bk δ2 => cases e'; exact k
     | rt d => cases e'; exact k
def Y1 (i : Nat) (φ : Env -> Option Out) (δ : Env) : Option Out := match φ (δ.set i none) with
 | some (.nx δ') => match δ'[i]? with
  | some none => some (.nx (δ'.set i ((δ[i]?).getD none)))
  | _ => none
 | some (.rt d) => some (.rt d)
 | _ => none
theorem Jb {t : TS} {φ : Env -> Option Out} (h : ∀ v, VS (G.keep i v) ow owN [] [] t φ) (ho : owN.contains i = false) : VM G ow owN owB owC i t (Y1 i φ) := fun H0 av A σ H δ R o e De k => by
 obtain ⟨a, bs, rows, hd, M, h0, E⟩ := R.ex
 unfold Y1 at e
 cases hp : φ (δ.set i none) with
 | none => rw [hp] at e; cases e
 | some o1 =>
  rw [hp] at e
  refine h (.ref a) _ _ A σ H _ E o1 hp De ?_
  cases o1 with
  | nx δ1 =>
   dsimp only at e
   intro A' σ' H' E'
   have hs : Same (ovl H0 H (a :: bs)) H' := E'.same
   have hF : ∀ x ∈ a :: bs, H' x = H x := fun x hx => by
    obtain ⟨vs, q⟩ := M.there hx
    rw [q]
    exact hs x _ (by rw [YK hx]; exact q)
   cases hi : δ1[i]? with
   | none => rw [hi] at e; cases e
   | some z =>
    rw [hi] at e
    cases z with
    | some y => cases e
    | none =>
     dsimp only at e
     rw [hd] at e
     have e : some (Out.nx (δ1.set i (some (mat rows)))) = some o := e
     cases e
     have hil : i < δ1.length := (List.getElem?_eq_some_iff.mp hi).1
     have M' : Mx H' a bs rows := ⟨(hF a List.mem_cons_self).trans M.top, M.len, M.nd, M.na, fun k b r h1 h2 => (hF b (List.mem_cons_of_mem _ (List.mem_of_getElem? h1))).trans (M.row k b r h1 h2), M.sc⟩
     have eo : ovl H0 H' (a :: bs) = ovl H0 H (a :: bs) := by
      funext x
      by_cases hx : x ∈ a :: bs
      · rw [YK hx, YK hx, hF x hx]
      · rw [Yp hx, Yp hx]
     have es : (δ1.set i (some (mat rows))).set i none = δ1 := by
      rw [List.set_set]
      apply List.ext_getElem?
      intro j
      by_cases hj : j = i
      · subst hj
        rw [List.getElem?_set_self hil, hi]
      · rw [List.getElem?_set_ne (Ne.symm hj)]
     exact k A' σ' H' ⟨by simpa using ho, (fun z e => by
      obtain ⟨v, h1, h2⟩ := R.nn z e
      have h3 := E.kept i _ Vl
      rw [h2] at h3
      cases h3
      exact ⟨_, h1, E'.kept i _ Vl⟩), R.avd, a, bs, rows, List.getElem?_set_self hil, M', h0, by rw [eo, es]; exact E'⟩
  | rt d =>
   cases e
   intro v H' s r
   refine k v H' (fun b o q => s b o ?_) (r.av fun b z => .inl (.inl z))
   have nb : b ∉ a :: bs := fun z => by rw [h0 b z] at q; cases q
   rw [Yp nb]
   exact q
  | bk δ1 => cases e
  | ct δ1 => cases e
end
end DL
namespace DL
open PySem PySem.Spec L2
theorem Zee {α : Type} {xs : List α} {n : Int} {j : Nat} {x : α} (h : ixN xs.length n = some j) (hx : xs[j]? = some x) : atI xs n = some x := by
 unfold atI
 rw [h]
 exact hx
section
variable {H : Hp} {a b : Addr} {bs : List Addr} {rows : List (List D)} {j : Nat} {r r' : List D}
theorem Mx.put (M : Mx H a bs rows) (hb : bs[j]? = some b) (hr : rows[j]? = some r) (hs : r'.all Zi = true) : Mx (upd H b (.lst (r'.map val))) a bs (rows.set j r') := by
 have hbm : b ∈ bs := List.mem_of_getElem? hb
 have hab : a ≠ b := fun z => M.na (z ▸ hbm)
 have hjl : j < rows.length := (List.getElem?_eq_some_iff.mp hr).1
 refine ⟨by rw [Zs hab]; exact M.top, by rw [List.length_set]; exact M.len, M.nd, M.na, fun k b' r1 h1 h2 => ?_, fun r1 h1 => ?_⟩
 · by_cases hk : k = j
   · subst hk
     rw [hb] at h1
     cases h1
     rw [List.getElem?_set_self hjl] at h2
     cases h2
     exact ZJ
   · rw [List.getElem?_set_ne (Ne.symm hk)] at h2
     have : b' ≠ b := fun z => hk (by
      subst z
      obtain ⟨p1, k1⟩ := (List.getElem?_eq_some_iff.mp h1)
      obtain ⟨p2, k2⟩ := (List.getElem?_eq_some_iff.mp hb)
      rcases Nat.lt_trichotomy k j with h | h | h
      · exact absurd (k1.trans k2.symm) (List.pairwise_iff_getElem.mp M.nd k j p1 p2 h)
      · exact h
      · exact absurd (k2.trans k1.symm) (List.pairwise_iff_getElem.mp M.nd j k p2 p1 h))
     rw [Zs this]
     exact M.row k b' r1 h1 h2
 · rcases List.mem_or_eq_of_mem_set h1 with h1 | rfl
   · exact M.sc r1 h1
   · exact hs
theorem Za0 : (rows.map D.lst).set j (.lst r') = (rows.set j r').map D.lst := by rw [List.map_set]
theorem Zef {d : D} (h : (rows.map D.lst)[j]? = some d) : ∃ r, rows[j]? = some r /\ d = .lst r := by
 rw [List.getElem?_map] at h
 cases hr : rows[j]? with
 | none => rw [hr] at h; cases h
 | some r => rw [hr] at h; cases h; exact ⟨r, rfl, rfl⟩
theorem Mx.at (M : Mx H a bs rows) (hr : rows[j]? = some r) : ∃ b, bs[j]? = some b /\ H b = some (.lst (r.map val)) := by
 have hjl : j < bs.length := by rw [M.len]; exact (List.getElem?_eq_some_iff.mp hr).1
 exact ⟨bs[j], List.getElem?_eq_getElem hjl, M.row j _ r (List.getElem?_eq_getElem hjl) hr⟩
end
section
variable {cA : Kn} {G : Cn} {ow owN owB owC ow1 : List Nat} {i : Nat}
theorem ZbV {ε : Env -> Option D} {δ : Env} {d : D} (h : YV ε δ = some d) : Zi d = true := by
 unfold YV at h
 cases hx : ε δ with
 | none => rw [hx] at h; cases h
 | some d' =>
  rw [hx] at h
  by_cases hs : Zi d' = true
  · have e' : d' = d := by simpa [hs] using h
    rw [<- e']; exact hs
  · simp [hs] at h
theorem Zeg {r : List D} {l : Nat} {d : D} (h : r.all Zi = true) (hd : Zi d = true) : (r.set l d).all Zi = true := by
 rw [List.all_eq_true] at h ⊢
 intro x hx
 rcases List.mem_or_eq_of_mem_set hx with hx | rfl
 · exact h x hx
 · exact hd
def YL (i : Nat) (κ1 κ2 ε : Env -> Option D) (δ : Env) : Option Out := match YV ε δ, Za i δ, κ1 δ, κ2 δ with
 | some d, some (.lst xs), some (.int n), some (.int m) => match ixN xs.length n with
  | some j => match xs[j]? with
   | some (.lst r) => match ixN r.length m with
    | some l => some (.nx (δ.set i (some (.lst (xs.set j (.lst (r.set l d)))))))
    | none => none
   | _ => none
  | none => none
 | _, _, _, _ => none
theorem Zby {κ1 κ2 ε : Env -> Option D} {δ : Env} {o : Out} (h : YL i κ1 κ2 ε δ = some o) : ∃ d xs n m j r l, YV ε δ = some d /\ Za i δ = some (.lst xs) /\ κ1 δ = some (.int n) /\ κ2 δ = some (.int m) /\ ixN xs.length n = some j /\ xs[j]? = some (.lst r) /\ ixN r.length m = some l /\ o = .nx (δ.set i (some (.lst (xs.set j (.lst (r.set l d)))))) := by
 unfold YL at h
 split at h
 · rename_i d xs n m h1 h2 h3 h4
   split at h
   · rename_i j hj
     split at h
     · rename_i r hr
       split at h
       · rename_i l hl
         exact ⟨d, xs, n, m, j, r, l, h1, h2, h3, h4, hj, hr, hl, (Option.some.inj h).symm⟩
       · cases h
     · cases h
   · cases h
 · cases h
theorem Jc {te t1 t2 : TE} {q q1 q2 : Ql} {ε κ1 κ2 : Env -> Option D} (h : VE G ow te q ε) (h1 : VE G ow t1 q1 κ1) (h2 : VE G ow t2 q2 κ2) : VM G ow ow owB owC i (Xd te (Qs (tOp (Uu G.1.K) (Y9 i) t1) t2 rSetL)) (YL i κ1 κ2 ε) := fun H0 av A σ H δ R o e De k => by
 obtain ⟨d, xs, n, m, j, r, l, e1, e2, e3, e4, e5, e6, e7, rfl⟩ := Zby e
 refine h.scal H0 av A σ H δ R.view d e1 _ fun v H1 s1 r1 => ?_
 have hs := ZbV e1
 have ev : v = val d := (RepT.r r1).val hs
 subst ev
 have R1 := R.mono s1
 obtain ⟨a, bs, rows, hd, M, h0, E⟩ := R1.ex
 have ex : xs = rows.map D.lst := by
  have := Ys e2
  rw [hd] at this
  cases this
  rfl
 subst ex
 obtain ⟨r0, hr, er⟩ := Zef e6
 cases er
 obtain ⟨b, hb, hH⟩ := M.at hr
 refine ⟨.ref a, E.kept i _ Vl, h1 H0 av A σ H1 δ R1.view _ e3 _ fun y H2 s2 r2 => ?_⟩
 have ey : y = .int n := r2.any
 subst ey
 refine .inl ⟨a, bs.map V.ref, n, .ref b, rfl, rfl, SqL.of (s2 _ _ M.top), Zee (j := j) (by rw [List.length_map] at e5 ⊢; rw [M.len]; exact e5) (by rw [List.getElem?_map, hb]; rfl), ?_⟩
 have R2 := R1.mono s2
 refine h2 H0 av A σ H2 δ R2.view _ e4 _ fun z H3 s3 r3 => ?_
 have ez : z = .int m := r3.any
 subst ez
 have s23 := s2.trans s3
 have M3 := M.mono s23
 refine ⟨b, r.map val, m, l, rfl, rfl, s23 _ _ hH, by rw [List.length_map]; exact e7, k A σ _ ?_⟩
 rw [Za0]
 rw [<- List.map_set]
 have hrs : (r.set l d).all Zi = true := Zeg (M.sc r (List.mem_of_getElem? hr)) hs
 refine MR.turn R.ni R.nn R.avd hd M3 h0 (by rw [Q9 M s23]; exact E.mono s23) (M3.put hb hr hrs) fun x hx => Zs fun z => hx (z ▸ List.mem_cons_of_mem _ (List.mem_of_getElem? hb))
end
end DL
namespace DL
open PySem PySem.Spec L2
def VFM (G : Cn) (ow : List Nat) (te : TE) (ε : Env -> Option D) : Prop :=
 ∀ H0 av A σ H δ, ER G ow H0 av A σ H δ -> ∀ d, ε δ = some d -> ∀ Q : VK, (∀ a bs rows H', Same H H' -> (∀ x ∈ a :: bs, H x = none) -> Mx H' a bs rows -> d = mat rows -> Q (.ref a) H') -> te σ H Q
def XS (i : Nat) (ε : Env -> Option D) (δ : Env) : Option Out := match ε δ with
 | some d => if i < δ.length then some (.nx (δ.set i (some d))) else none
 | none => none
section
variable {cA : Kn} {G : Cn} {ow owN owB owC ow1 : List Nat} {i : Nat}
theorem Zc4 {H0 H H' : Hp} {av : Addr -> Prop} {A : Nat -> Option Addr} {σ : L2.St} {δ : Env} {a : Addr} {bs : List Addr} {rows : List (List D)} (E : ER G ow H0 av A σ H δ) (hi : i ∉ ow) (hn : G.2 i = none) (hil : i < δ.length) (s : Same H H') (hf : ∀ x ∈ a :: bs, H x = none) (M : Mx H' a bs rows) :
 MR G ow i H0 av A (σ.set i (some (.ref a))) H' (δ.set i (some (mat rows))) := by
 have h0 : ∀ x ∈ a :: bs, H0 x = none := fun x hx => E.same.free (hf x hx)
 have nF : ∀ j x, A j = some x -> x ∉ a :: bs := fun j x e z => E.live j x e (hf x z)
 have E' := E.mono s
 refine ⟨hi, .none hn, E.avd, a, bs, rows, List.getElem?_set_self hil, M, h0, ?_⟩
 rw [List.set_set]
 refine ⟨fun b o e => ?_, fun x z => ?_, fun j x e => ?_, E.inj, E'.live, E.dom, E.dom', by rw [List.length_set, List.length_set]; exact E.len, fun j x e => ?_, fun j v e => ?_, fun j d e => ?_⟩
 · by_cases hx : b ∈ a :: bs
   · rw [YK hx] at e; exact e
   · rw [Yp hx] at e; exact E'.same b o e
 · by_cases hx : x ∈ a :: bs
   · rw [YK hx]
     obtain ⟨vs, q⟩ := M.there hx
     rw [q]; exact fun z => by cases z
   · rw [Yp hx]
     exact E.avd x (z.resolve_right hx)
 · rw [Yp (nF j x e)]
   exact E.fr j x e
 · have q : j ≠ i := fun z => by rw [z, Vl] at e; cases e
   exact E.pin j x (by rw [Vk q] at e; exact e)
 · by_cases q : j = i
   · subst q
     rw [Vl] at e
     cases e
     exact List.getElem?_set_self (by rw [E.len]; exact hil)
   · rw [Vk q] at e
     rw [List.getElem?_set_ne (Ne.symm q)]
     exact E.kept j v e
 · have q : j ≠ i := fun z => by
    rw [z, List.getElem?_set_self hil] at e
    cases e
   rw [List.getElem?_set_ne (Ne.symm q)] at e
   obtain ⟨v, h1, h2, h3⟩ := E.var j d e
   have more : ∀ b, AV (avF av (a :: bs)) A b -> AV av A b \/ H b = none := fun b z => by
    rcases z with (z | z) | z
    · exact .inl (.inl z)
    · exact .inr (hf b z)
    · exact .inl (.inr z)
   refine ⟨v, by rw [List.getElem?_set_ne (Ne.symm q)]; exact h1, fun z => ((h2 z).av more).same s, fun b z => ?_⟩
   obtain ⟨r1, r2⟩ := h3 b z
   refine ⟨r1, ?_⟩
   cases d with
   | lst xs => obtain ⟨vs, q1, q2⟩ := r2; exact ⟨vs, s _ _ q1, (q2.av more).same s⟩
   | obj c ks xs => obtain ⟨dx, vs, q1, q0, q2⟩ := r2; exact ⟨dx, vs, s _ _ q1, q0, (q2.av more).same s⟩
   | dct ks xs => obtain ⟨vs, q1, q0, q2⟩ := r2; exact ⟨vs, s _ _ q1, q0, (q2.av more).same s⟩
   | _ => exact r2
theorem WantsM.of {H0 : Hp} {av : Addr -> Prop} {De : Ends} {o : Out} (k : ZeU G owN owB owC H0 av De o) : WantsM G owN owB owC i H0 av De o := by
 cases o with
 | nx δ' => exact fun A' σ' H' R => k A' σ' H' R.view
 | rt d => exact k
 | bk δ' => exact fun A' σ' H' R => k A' σ' H' R.view
 | ct δ' => exact fun A' σ' H' R => k A' σ' H' R.view
theorem Zfy {te : TE} {u : TS} {ε : Env -> Option D} {ψ : Env -> Option Out} (i : Nat) (hi : ow.contains i = false) (hn : G.2 i = none) (h1 : VFM G ow te ε) (h2 : VM G ow owN owB owC i u ψ) : VS G ow owN owB owC (Uf (Xd te (Xc i)) u) (Zd (XS i ε) ψ) := fun H0 av A σ H δ E o e De k => by
 unfold Zd XS at e
 cases he : ε δ with
 | none => rw [he] at e; cases e
 | some d =>
  rw [he] at e
  dsimp only at e
  by_cases hil : i < δ.length
  · rw [if_pos hil] at e
    dsimp only at e
    refine h1 H0 av A σ H δ E d he _ fun a bs rows H' s hf M hd => ?_
    subst hd
    exact h2 H0 av A _ H' _ (Zc4 E (by simpa using hi) hn hil s hf M) o e De (WantsM.of k)
  · rw [if_neg hil] at e; cases e
theorem VFM.cl {te : TE} {ε : Env -> Option D} (h : VFM G ow te ε) : VE G ow te .cl ε := fun H0 av A σ H δ E d e Q k =>
 h H0 av A σ H δ E d e Q fun a bs rows H' s hf M hd => by
  subst hd
  exact k _ H' s (M.rep fun x hx z => E.avl x z (hf x hx)).t
def Y2 : D -> D -> Option D
 | .lst a, .int n => mulX (.lst a) (.int n)
 | _, _ => none
theorem ZdA {ta tb : TE} {q : Ql} {a b : Env -> Option D} (ha : VE G ow ta .cl a) (hb : VE G ow tb q b) : VF G ow (tOp (UX G.1.K) ta tb) (eOp Y2 a b) := fun H0 av A σ H δ E d e Q k => by
 obtain ⟨x, y, ex, ey, ed⟩ := UE e
 unfold Y2 at ed
 split at ed
 · rename_i xs n
   unfold mulX at ed
   dsimp only at ed
   by_cases hz : n < 2 ^ 63 /\ -(2 ^ 63) <= n /\ xs.length * n.toNat <= sizeLine
   · rw [if_pos hz] at ed
     cases ed
     refine ha H0 av A σ H δ E _ ex _ fun v H1 s1 r1 => hb H0 av A σ H1 δ (E.mono s1) _ ey _ fun w H2 s2 r2 => ?_
     have ew : w = .int n := r2.any
     subst ew
     obtain ⟨a1, vs1, rfl, na, rd, l1⟩ := r1
     refine .inr (.inr ⟨a1, n, vs1, rfl, rfl, s2.seq rd, hz.2.1, hz.1, by rw [<- l1.length]; exact hz.2.2, fun p hp => k p _ _ H2 (s1.trans s2) hp ((l1.same s2).rep n.toNat) rfl⟩)
   · rw [if_neg hz] at ed; cases ed
 · cases ed
end
section
variable {P : Program} {w : World} {K : PySem.W.Frag} {mg : Str -> Option Value} {base : Heap} {cA : Kn}
end
end DL
namespace DL
open PySem PySem.Spec L2
def Xz : List D -> Option (List (List D))
 | [] => some []
 | .lst r :: xs => if r.all Zi = true then (match Xz xs with
  | some rs => some (r :: rs)
  | none => none) else none
 | _ :: _ => none
theorem Zaj : ∀ {xs : List D} {rs : List (List D)}, Xz xs = some rs -> xs = rs.map D.lst /\ ∀ r ∈ rs, r.all Zi = true
 | [], rs, h => by
  cases h
  exact ⟨rfl, fun r z => by cases z⟩
 | x :: xs, rs, h => by
  unfold Xz at h
  split at h
  · cases ‹_ :: _ = []›
  · rename_i r ys he
    cases he
    by_cases hr : r.all Zi = true
    · rw [if_pos hr] at h
      cases hq : Xz xs with
      | none => rw [hq] at h; cases h
      | some rs' =>
       rw [hq] at h
       cases h
       obtain ⟨h1, h2⟩ := Zaj hq
       refine ⟨by rw [List.map_cons, <- h1], fun r' hr' => ?_⟩
       rcases List.mem_cons.mp hr' with rfl | z
       · exact hr
       · exact h2 r' z
    · rw [if_neg hr] at h; cases h
  · cases h
def XA (ε : Env -> Option D) (δ : Env) : Option D := match ε δ with
 | some (.lst xs) => match Xz xs with
  | some _ => some (.lst xs)
  | none => none
 | _ => none
section
variable {cA : Kn} {G : Cn} {ow : List Nat}
structure RowsAt (H0 H : Hp) (bs : List Addr) (rows : List (List D)) : Prop where
 len : bs.length = rows.length
 nd : bs.Nodup
 row : ∀ (k : Nat) (b : Addr) (r : List D), bs[k]? = some b -> rows[k]? = some r -> H b = some (.lst (r.map val))
 fr : ∀ b ∈ bs, H0 b = none
 sc : ∀ r ∈ rows, r.all Zi = true
theorem RowsAt.snoc {H0 H H' : Hp} {bs : List Addr} {rows : List (List D)} {p : Addr} {r : List D} (R : RowsAt H0 H bs rows) (s0 : Same H0 H) (s : Same H H') (hp : H' p = none) (hs : r.all Zi = true) : RowsAt H0 (upd H' p (.lst (r.map val))) (bs ++ [p]) (rows ++ [r]) := by
 have there : ∀ b ∈ bs, H b ≠ none := fun b hb => by
  obtain ⟨k, hk, e⟩ := List.mem_iff_getElem.mp hb
  have hk2 : k < rows.length := by rw [<- R.len]; exact hk
  rw [R.row k b _ (by rw [List.getElem?_eq_getElem hk, e]) (List.getElem?_eq_getElem hk2)]
  exact fun z => by cases z
 have np : ∀ b ∈ bs, b ≠ p := fun b hb z => there b hb (by rw [z]; exact s.free hp)
 refine ⟨by rw [List.length_append, List.length_append, R.len]; rfl, ?_, fun n b' r' g1 g2 => ?_, fun b hb => ?_, fun r' hr' => ?_⟩
 · rw [List.nodup_append]
   refine ⟨R.nd, by simp, fun x hx y hy => ?_⟩
   rw [List.mem_singleton.mp hy]
   exact np x hx
 · by_cases hn' : n < bs.length
   · rw [List.getElem?_append_left hn'] at g1
     rw [List.getElem?_append_left (by rw [<- R.len]; exact hn')] at g2
     rw [Zs (np b' (List.mem_of_getElem? g1))]
     exact s _ _ (R.row n b' r' g1 g2)
   · rw [List.getElem?_append_right (by omega)] at g1
     rw [List.getElem?_append_right (by rw [<- R.len]; omega), <- R.len] at g2
     have hnn : n - bs.length = 0 := by
      by_cases z : n - bs.length = 0
      · exact z
      · rw [List.getElem?_eq_none (by simp; omega)] at g1; cases g1
     rw [hnn] at g1 g2
     cases g1
     cases g2
     exact ZJ
 · rcases List.mem_append.mp hb with z | z
   · exact R.fr b z
   · rw [List.mem_singleton.mp z]
     exact s0.free (s.free hp)
 · rcases List.mem_append.mp hr' with z | z
   · exact R.sc r' z
   · rw [List.mem_singleton.mp z]; exact hs
theorem RowsAt.same {H0 H H' : Hp} {bs : List Addr} {rows : List (List D)} (R : RowsAt H0 H bs rows) (s : Same H H') : RowsAt H0 H' bs rows := ⟨R.len, R.nd, fun k b r h1 h2 => s _ _ (R.row k b r h1 h2), R.fr, R.sc⟩
theorem Zc5 {wi : TI} {g : TG} {te : TE} {n : Nat} {js : List Nat} {ι : Env -> Option (List D)} {γ : D -> Env -> Option Env} {ε : Env -> Option D} {tt : TT} {τ : Env -> Option Bool}
 (hjs : js.all (fun j => !ow.contains j) = true) (hi : VI G ow wi ι) (hg : VG ⟨G.1, fun _ => none⟩ [] [] g γ) (ht : VT ⟨G.1, fun _ => none⟩ [] tt τ) (he : VF ⟨G.1, fun _ => none⟩ [] te ε) : VFM G ow (Ur wi g tt te n js) (XA (ZN ι γ τ ε n js)) := fun H0 av A σ H δ E d e Q k => by
 unfold XA at e
 split at e
 · rename_i full hfull
   split at e
   · rename_i rs hrs
     have ed : D.lst full = d := Option.some.inj e
     obtain ⟨hfe, hfs⟩ := Zaj hrs
     unfold ZN at hfull
     cases hι : ι δ with
     | none => rw [hι] at hfull; cases hfull
     | some xs =>
      rw [hι] at hfull
      dsimp only at hfull
      cases hc : ZM γ τ ε (Yf n δ js) xs with
      | none => rw [hc] at hfull; cases hfull
      | some full' =>
       rw [hc] at hfull
       dsimp only at hfull
       by_cases hz : full'.length <= sizeLine
       · rw [if_pos hz] at hfull
         have hff : full' = full := by cases hfull; rfl
         subst hff
         refine hi H0 av A σ H δ E xs hι _ fun J H1 s1 W => ?_
         have E1 := E.mono s1
         refine ⟨fun i m ys H' => m = xs.length - i /\ i <= xs.length /\ Same H1 H' /\ ∃ bs done rest, ys = bs.map V.ref /\ RowsAt H1 H' bs done /\ ZM γ τ ε (Yf n δ js) (xs.drop i) = some rest /\ done.map D.lst ++ rest = full',
          ⟨xs.length, by simp, Nat.zero_le _, Same.refl _, [], [], full', rfl, ⟨rfl, List.nodup_nil, (fun k b r h1 h2 => by simp at h1), (fun b z => by cases z), (fun r z => by cases z)⟩, hc, rfl⟩, ?_⟩
         rintro i m ys H' ⟨rfl, hle, s', bs, done, rest, rfl, RA, hr, hf⟩
         have E' := E1.mono s'
         have sc : Same (DL.cut A H1) H' := fun b o z => s' b o (Q0 z).1
         obtain ⟨w1, w2, w3⟩ := W H' sc
         by_cases hlt : i < xs.length
         · refine .inr ⟨w1 i hlt, fun v H2 y => ?_⟩
           have hx : xs[i]? = some xs[i] := List.getElem?_eq_getElem hlt
           obtain ⟨s2, rep⟩ := w2 i _ v H2 hx y
           have rep' : Rep G.1 (AV av A) H2 xs[i] v := rep _ E'.avl fun b z => .inl z
           have E2 := E'.mono s2
           have EB : ER ⟨G.1, fun _ => none⟩ [] H2 (AV av A) (fun _ => none) (L2.blk n σ js) H2 (Yf n δ js) := E2.blk n js hjs
           have triv : ∀ (A' : Nat -> Option Addr) {σ' : L2.St} {H3 : Hp} {δ' : Env}, ER ⟨G.1, fun _ => none⟩ [] H2 (AV av A) A' σ' H3 δ' -> ∀ b, AV (AV av A) A' b ↔ AV av A b := fun A' {σ' H3 δ'} E3 b => by
            constructor
            · rintro (z | ⟨j, z⟩)
              · exact z
              · have := E3.dom j (by rw [z]; exact fun z => by cases z)
                cases this
            · exact fun z => .inl z
           rw [List.drop_eq_getElem_cons hlt] at hr
           unfold ZM at hr
           cases hγ : γ xs[i] (Yf n δ js) with
           | none => rw [hγ] at hr; cases hr
           | some δ1 =>
            rw [hγ] at hr
            dsimp only at hr
            refine hg _ _ _ _ H2 _ EB _ v (rep'.av fun b z => .inl ((triv _ EB b).mp z)) δ1 hγ _ fun A3 σ3 H3 s3 E3 => ?_
            cases hτ : τ δ1 with
            | none => rw [hτ] at hr; cases hr
            | some c =>
             rw [hτ] at hr
             refine ht _ _ A3 σ3 H3 δ1 E3 c hτ _ fun H4 s4 => ?_
             have E4 := E3.mono s4
             cases c with
             | false =>
              exact Xe ⟨xs.length - (i + 1), by omega, rfl, hlt, (s'.trans s2).trans (s3.trans s4), bs, done, rest, rfl, RA.same ((s2.trans s3).trans s4), hr, hf⟩
             | true =>
              dsimp only at hr
              cases hε : ε δ1 with
              | none => rw [hε] at hr; cases hr
              | some yd =>
               rw [hε] at hr
               dsimp only at hr
               cases hr' : ZM γ τ ε (Yf n δ js) (xs.drop (i + 1)) with
               | none => rw [hr'] at hr; cases hr
               | some rest' =>
                rw [hr'] at hr
                have hrr : yd :: rest' = rest := Option.some.inj hr
                subst hrr
                refine Xf (he _ _ A3 σ3 H4 δ1 E4 yd hε _ fun p vs zs H5 s5 hp l hyd => ?_)
                subst hyd
                have hzs : zs.all Zi = true := by
                 have hm : D.lst zs ∈ full' := by rw [<- hf]; simp
                 rw [hfe] at hm
                 obtain ⟨r, hr1, hr2⟩ := List.mem_map.mp hm
                 cases hr2
                 exact hfs _ hr1
                have ev : vs = zs.map val := l.vals hzs
                subst ev
                have sall : Same H' H5 := ((s2.trans s3).trans s4).trans s5
                refine ⟨?_, xs.length - (i + 1), by omega, rfl, hlt, (s'.trans sall).trans (Z1 hp), bs ++ [p], done ++ [zs], rest', by rw [List.map_append]; rfl, RA.snoc s' sall hp hzs, hr', by rw [<- hf, List.map_append, List.append_assoc]; rfl⟩
                have := congrArg List.length hf
                rw [List.length_append, List.length_cons, List.length_map] at this
                have := RA.len
                rw [List.length_map]
                omega
         · have ei : i = xs.length := by omega
           subst ei
           rw [List.drop_length] at hr
           cases hr
           rw [List.append_nil] at hf
           refine .inl ⟨w3 _ (Nat.le_refl _), fun p hp => k p bs done _ ((s1.trans s').trans (Z1 hp)) (fun x hx => ?_) ⟨ZJ, RA.len, RA.nd, ?_, fun k b r h1 h2 => ?_, RA.sc⟩ (by rw [<- ed, <- hf]; rfl)⟩
           · rcases List.mem_cons.mp hx with rfl | z
             · exact s1.free (s'.free hp)
             · exact s1.free (RA.fr x z)
           · intro z
             obtain ⟨j, hj, ej⟩ := List.mem_iff_getElem.mp z
             have hj2 : j < done.length := by rw [<- RA.len]; exact hj
             have := RA.row j p _ (by rw [List.getElem?_eq_getElem hj, ej]) (List.getElem?_eq_getElem hj2)
             rw [hp] at this; cases this
           · have hb := RA.row k b r h1 h2
             have : b ≠ p := fun z => by rw [z, hp] at hb; cases hb
             rw [Zs this]
             exact hb
       · rw [if_neg hz] at hfull; cases hfull
   · cases e
 · cases e
end
end DL
namespace DL
open PySem PySem.Spec L2
section
variable {cA : Kn} {G : Cn} {ow owN owB owC ow1 : List Nat} {i : Nat}
open Classical in
end
section
variable {P : Program} {w : World} {K : PySem.W.Frag} {mg : Str -> Option Value} {base : Heap} {cA : Kn}
end
end DL
namespace L2
open PySem PySem.Spec PySem.W PyProof.Rows
end L2
namespace DL
open PySem PySem.Spec L2
section
variable {cA : Kn} {G : Cn} {ow owN owB owC ow1 : List Nat} {i : Nat}
theorem MR.own {H0 H : Hp} {av : Addr -> Prop} {A : Nat -> Option Addr} {σ : L2.St} {δ : Env} {k : Nat} {xs : List D} {p : Addr} (R : MR G ow i H0 av A σ H δ) (hs : xs.all Zi = true) (hp : H p = none) (hk : k ≠ i) (hw : ∀ j, j ∈ ow1 ↔ j ∈ ow \/ j = k) (hn : G.2 k = none) : MR G ow1 i H0 av (fun j => if j = k then some p else A j) (σ.set k (some (.ref p))) (upd H p (.lst (xs.map val))) (δ.set k (some (.lst xs))) := by
 obtain ⟨a, bs, rows, hd, M, h0, E⟩ := R.ex
 refine ⟨fun z => ((hw i).mp z).elim R.ni fun z => hk z.symm, R.nn.set hk, R.avd, a, bs, rows, by rw [List.getElem?_set_ne hk]; exact hd, M.mono (Z1 hp), h0, ?_⟩
 rw [List.set_comm _ _ hk, Q9 M (Z1 hp)]
 exact E.own hp (.of_vals hs) hw (by rw [Vk hk]; exact hn)
end
end DL
namespace DL
open PySem PySem.Spec L2
def Yz : D -> Option Key
 | .int i => some (.inl i)
 | .str cs => some (.inr (tx cs))
 | _ => none
theorem UY {d : D} {k : Key} (h : Yz d = some k) : val d = kV k /\ Zi d = true := by
 cases d <;> first | (cases h; done) | (cases h; exact ⟨rfl, rfl⟩)
def XT {α : Type} (k : Key) : List Key -> List α -> Option α
 | k0 :: ks, x :: xs => if k0 = k then some x else XT k ks xs
 | _, _ => none
def Y3 {α : Type} (k : Key) (d : α) : List Key -> List α -> List α
 | k0 :: ks, x :: xs => (if k0 = k then d else x) :: Y3 k d ks xs
 | _, xs => xs
def YA (k : Key) : List Key -> Bool
 | [] => false
 | k0 :: ks => decide (k0 = k) || YA k ks
def Vn (ks : List Key) (xs : List D) (k : Key) (d : D) : D := if YA k ks = true then .dct ks (Y3 k d ks xs) else .dct (ks ++ [k]) (xs ++ [d])
theorem Zbd {α : Type} (k : Key) (d : α) : ∀ (ks : List Key) (xs : List α), (Y3 k d ks xs).length = xs.length
 | [], _ => rfl
 | _ :: _, [] => rfl
 | k0 :: ks, x :: xs => by rw [Y3, List.length_cons, List.length_cons, Zbd k d ks xs]
theorem Jd (k : Key) : ∀ (ks : List Key) (vs : List V), ks.length = vs.length -> ((ks.zip vs).any fun kv => decide (kv.1 = k)) = YA k ks
 | [], _, _ => rfl
 | k0 :: ks, [], h => by simp at h
 | k0 :: ks, v :: vs, h => by
  rw [List.zip_cons_cons, List.any_cons, Jd k ks vs (by simpa using h)]
  rfl
theorem Zc6 (k : Key) {ks : List Key} {vs : List V} (h : ks.length = vs.length) : (Yl (ks.zip vs) k).isSome = YA k ks := by rw [<- QR, Jd k ks vs h]
theorem ZbW (k : Key) (v : V) : ∀ (ks : List Key) (vs : List V), ks.length = vs.length -> (ks.zip vs).map (fun kv => if kv.1 = k then (kv.1, v) else kv) = ks.zip (Y3 k v ks vs)
 | [], _, _ => by simp
 | k0 :: ks, [], h => by simp at h
 | k0 :: ks, x :: vs, h => by
  rw [List.zip_cons_cons, List.map_cons, Y3, List.zip_cons_cons, ZbW k v ks vs (by simpa using h)]
  by_cases e : k0 = k
  · simp [e]
  · simp [e]
section
variable {cA : Kn} {av : Addr -> Prop} {H : Hp}
theorem Zbe (k : Key) : ∀ {ks : List Key} {xs : List D} {vs : List V} {x : D}, RepL cA av H xs vs -> XT k ks xs = some x -> ∃ v, Yl (ks.zip vs) k = some v /\ Rep cA av H x v
 | [], xs, vs, x, _, h => by cases h
 | k0 :: ks, [], vs, x, _, h => by cases h
 | k0 :: ks, y :: xs, vs, x, l, h => by
  obtain ⟨v, r, rfl, h1, h2⟩ := l.uncons
  rw [List.zip_cons_cons]
  unfold XT at h
  by_cases e : k0 = k
  · rw [if_pos e] at h
    cases h
    exact ⟨v, Uz e, h1⟩
  · rw [if_neg e] at h
    obtain ⟨u, h3, h4⟩ := Zbe k h2 h
    exact ⟨u, (UA e).trans h3, h4⟩
theorem Zbf (k : Key) {d : D} {v : V} (hd : Rep cA av H d v) : ∀ (ks : List Key) {xs : List D} {vs : List V}, RepL cA av H xs vs -> RepL cA av H (Y3 k d ks xs) (Y3 k v ks vs)
 | [], xs, vs, l => l
 | k0 :: ks, [], vs, l => by rw [l.nil_of]; exact .nil
 | k0 :: ks, y :: xs, vs, l => by
  obtain ⟨u, r, rfl, h1, h2⟩ := l.uncons
  rw [Y3, Y3]
  refine .cons ?_ (Zbf k hd ks h2)
  by_cases e : k0 = k
  · rw [if_pos e, if_pos e]; exact hd
  · rw [if_neg e, if_neg e]; exact h1
theorem Zeh (k : Key) {d : D} {v : V} {ks : List Key} {xs : List D} {vs : List V} {a : Addr} {H' : Hp} (hks : ks.length = xs.length) (l : RepL cA av H' xs vs) (hd : Rep cA av H' d v) (e : H' a = some (.dK (ZX (ks.zip vs) k v))) : Own cA av H' (Vn ks xs k d) a := by
 have hl : ks.length = vs.length := by rw [hks, l.length]
 unfold ZX at e
 rw [Jd k ks vs hl] at e
 unfold Vn
 by_cases h : YA k ks = true
 · rw [if_pos h, ZbW k v ks vs hl] at e
   rw [if_pos h]
   exact ⟨_, e, by rw [Zbd]; exact hks, Zbf k hd ks l⟩
 · rw [if_neg h] at e
   rw [if_neg h]
   refine ⟨vs ++ [v], ?_, by rw [List.length_append, List.length_append, hks]; rfl, l.append (.cons hd .nil)⟩
   rw [e, List.zip_append hl]
   rfl
end
section
variable {G : Cn} {ow owN owB owC ow1 : List Nat} {H0 H : Hp} {av : Addr -> Prop} {A : Nat -> Option Addr} {σ : L2.St} {δ : Env}
theorem Zei {i : Nat} {ks : List Key} {xs : List D} {vs : List V} {p : Addr} (E : ER G ow H0 av A σ H δ) (hp : H p = none) (hks : ks.length = xs.length) (l : RepL G.1 (AV av A) H xs vs) (hw : ∀ j, j ∈ ow1 ↔ j ∈ ow \/ j = i) (hn : G.2 i = none) :
 ER G ow1 H0 av (fun j => if j = i then some p else A j) (σ.set i (some (.ref p))) (upd H p (.dK (ks.zip vs))) (δ.set i (some (.dct ks xs))) := by
 have hs : Same H (upd H p (.dK (ks.zip vs))) := Z1 hp
 have less : ∀ b, AV av (fun j => if j = i then some p else A j) b -> AV av A b \/ H b = none := fun b z => by
  rcases z with z | ⟨j, z⟩
  · exact .inl (.inl z)
  · by_cases e : j = i
    · simp [e] at z; subst z; exact .inr hp
    · simp [e] at z; exact .inl (.inr ⟨j, z⟩)
 have np : ∀ j a, A j = some a -> a ≠ p := fun j a e z => by subst z; exact E.live j a e hp
 have h0 : H0 p = none := by
  cases q : H0 p with
  | none => rfl
  | some o => rw [E.same p o q] at hp; cases hp
 refine ⟨E.same.trans hs, E.avd, fun j a e => ?_, fun j k a e1 e2 => ?_, fun j a e => ?_, fun j e => ?_, fun j hj => ?_, by simp [E.len], fun j a e => (by
  have q : j ≠ i := fun z => by rw [z, hn] at e; cases e
  simp only [q, if_false]; exact E.pin j a e), (fun j v' e => by
  have q : j ≠ i := fun z => by rw [z, hn] at e; cases e
  rw [List.getElem?_set_ne (Ne.symm q)]; exact E.kept j v' e), fun j d' e => ?_⟩
 · by_cases q : j = i
   · simp [q] at e; subst e; exact h0
   · simp [q] at e; exact E.fr j a e
 · by_cases q : j = i
   · by_cases q2 : k = i
     · rw [q, q2]
     · simp [q] at e1; simp [q2] at e2
       exact absurd e1.symm (np k a e2)
   · by_cases q2 : k = i
     · simp [q] at e1; simp [q2] at e2
       exact absurd e2.symm (np j a e1)
     · simp [q] at e1; simp [q2] at e2; exact E.inj j k a e1 e2
 · by_cases q : j = i
   · simp [q] at e; subst e; rw [ZJ]; exact fun z => by cases z
   · simp [q] at e
     rw [Zs (np j a e)]
     exact E.live j a e
 · by_cases q : j = i
   · exact (hw j).mpr (.inr q)
   · simp [q] at e; exact (hw j).mpr (.inl (E.dom j e))
 · by_cases q : j = i
   · simp [q]
   · simp [q]
     exact E.dom' j (((hw j).mp hj).resolve_right q)
 · rcases UM e with ⟨rfl, rfl, hl⟩ | ⟨q, e'⟩
   · refine ⟨.ref p, ?_, fun z => by simp at z, fun a z => ?_⟩
     · rw [List.getElem?_set_self (by rw [E.len]; exact hl)]
     · simp at z
       subst z
       exact ⟨rfl, vs, ZJ, hks, (l.av less).same hs⟩
   · obtain ⟨v', h1, h2, h3⟩ := E.var j d' e'
     refine ⟨v', by rw [List.getElem?_set_ne (Ne.symm q)]; exact h1, fun z => ?_, fun a z => ?_⟩
     · simp [q] at z
       exact ((h2 z).av less).same hs
     · simp [q] at z
       obtain ⟨r1, r2⟩ := h3 a z
       refine ⟨r1, ?_⟩
       cases d' with
       | lst xs => obtain ⟨vs', q1, q2⟩ := r2; exact ⟨vs', hs _ _ q1, (q2.av less).same hs⟩
       | obj c ks xs => obtain ⟨dx, vs', q1, q0, q2⟩ := r2; exact ⟨dx, vs', hs _ _ q1, q0, (q2.av less).same hs⟩
       | dct ks xs => obtain ⟨vs', q1, q0, q2⟩ := r2; exact ⟨vs', hs _ _ q1, q0, (q2.av less).same hs⟩
       | _ => exact r2
def VFD (G : Cn) (ow : List Nat) (te : TE) (ε : Env -> Option D) : Prop :=
 ∀ H0 av A σ H δ, ER G ow H0 av A σ H δ -> ∀ d, ε δ = some d -> ∀ Q : VK, (∀ p ks vs xs H1, Same H H1 -> H1 p = none -> ks.length = xs.length -> RepL G.1 (AV av A) H1 xs vs -> d = .dct ks xs -> Q (.ref p) (upd H1 p (.dK (ks.zip vs)))) -> te σ H Q
theorem Zej {te : TE} {ε : Env -> Option D} (i : Nat) (h : VFD G ow te ε) (hn : G.2 i = none) (h1 : sub owN (i :: ow) = true) (h2 : owN.contains i = true) (h3 : sub ow owN = true) : VS G ow owN owB owC (Xd te (Xc i)) (Zh i ε) := fun H0 av A σ H δ E o e De k => by
 unfold Zh at e
 cases he : ε δ with
 | none => rw [he] at e; cases e
 | some d =>
  rw [he] at e
  cases e
  refine h H0 av A σ H δ E d he _ fun p ks vs xs H1 s hp hk l hd => ?_
  subst hd
  exact k _ _ _ (Zei (E.mono s) hp hk l (Za7 h1 h2 h3) hn)
def inK (neg : Bool) : D -> D -> Option D
 | x, .dct ks _ => match Yz x with
  | some k => some (.bl (neg != YA k ks))
  | none => none
 | _, _ => none
theorem Zc7 {neg : Bool} {x y d : D} (h : inK neg x y = some d) : ∃ ks xs k, y = .dct ks xs /\ Yz x = some k /\ d = .bl (neg != YA k ks) := by
 unfold inK at h
 split at h
 · rename_i ks xs
   cases hk : Yz x with
   | none => rw [hk] at h; cases h
   | some k => rw [hk] at h; exact ⟨ks, xs, k, rfl, rfl, (Option.some.inj h).symm⟩
 · cases h
theorem Zcx {ta tb : TE} {qa qb : Ql} {a b : Env -> Option D} (ha : VE G ow ta qa a) (hb : VE G ow tb qb b) : VE G ow (ZbL ta tb) .cl (eOp (inK true) a b) := fun H0 av A σ H δ E d e Q k => by
 obtain ⟨x, y, ex, ey, ed⟩ := UE e
 obtain ⟨ks, xs, kk, rfl, hk, rfl⟩ := Zc7 ed
 obtain ⟨hv, hs⟩ := UY hk
 refine ha H0 av A σ H δ E _ ex _ fun v H1 s1 r1 => hb H0 av A σ H1 δ (E.mono s1) _ ey _ fun w H2 s2 r2 => ?_
 have e1 : v = kV kk := (r1.any.val hs).trans hv
 obtain ⟨p, vs, rfl, _, rd, hl, l⟩ := r2.tp
 refine ⟨p, _, rfl, e1 ▸ DGet.k rd, ?_⟩
 rw [Zc6 kk (hl.trans l.length)]
 have := k (.bl (true != YA kk ks)) H2 (s1.trans s2) blq
 rw [Bool.true_bne] at this
 exact this
def Y4 : D -> D -> Option D
 | .dct ks xs, x => match Yz x with
  | some k => XT k ks xs
  | none => none
 | _, _ => none
theorem Zcy {x y d : D} (h : Y4 y x = some d) : ∃ ks xs k, y = .dct ks xs /\ Yz x = some k /\ XT k ks xs = some d := by
 unfold Y4 at h
 split at h
 · rename_i ks xs
   cases hk : Yz x with
   | none => rw [hk] at h; cases h
   | some k => rw [hk] at h; exact ⟨ks, xs, k, rfl, rfl, h⟩
 · cases h
theorem ZbX {ta tb : TE} {qa qb : Ql} {a b : Env -> Option D} (hq : qa = .cl \/ qa = .tp) (ha : VE G ow ta qa a) (hb : VE G ow tb qb b) : VE G ow (ZeP ta tb) .cl (eOp Y4 a b) := fun H0 av A σ H δ E d e Q k => by
 obtain ⟨y, x, ey, ex, ed⟩ := UE e
 obtain ⟨ks, xs, kk, rfl, hk, hlk⟩ := Zcy ed
 obtain ⟨hv, hs⟩ := UY hk
 refine ha H0 av A σ H δ E _ ey _ fun v H1 s1 r1 => hb H0 av A σ H1 δ (E.mono s1) _ ex _ fun w H2 s2 r2 => ?_
 have e1 : w = kV kk := (r2.any.val hs).trans hv
 have r3 : RepT G.1 av (AV av A) H2 (.dct ks xs) v := by
  have := (r1.same s2).tp
  rcases hq with rfl | rfl <;> exact this
 obtain ⟨p, vs, rfl, _, rd, hl, l⟩ := r3
 obtain ⟨u, h1, h2⟩ := Zbe kk l hlk
 refine ⟨p, u, rfl, ?_, k u H2 (s1.trans s2) h2.t⟩
 rw [<- h1, e1]
 exact DGet.k rd
def XU (i : Nat) (κ ε : Env -> Option D) (δ : Env) : Option Out := match ε δ, Za i δ, κ δ with
 | some d, some (.dct ks xs), some x => match Yz x with
  | some k => if ks.length < sizeLine then some (.nx (δ.set i (some (Vn ks xs k d)))) else none
  | none => none
 | _, _, _ => none
theorem Zbz {i : Nat} {κ ε : Env -> Option D} {δ : Env} {o : Out} (h : XU i κ ε δ = some o) : ∃ d ks xs x k, ε δ = some d /\ Za i δ = some (.dct ks xs) /\ κ δ = some x /\ Yz x = some k /\ ks.length < sizeLine /\ o = .nx (δ.set i (some (Vn ks xs k d))) := by
 unfold XU at h
 split at h
 · rename_i d ks xs x h1 h2 h3
   cases hk : Yz x with
   | none => rw [hk] at h; cases h
   | some k =>
    rw [hk] at h
    dsimp only at h
    by_cases hz : ks.length < sizeLine
    · rw [if_pos hz] at h
      exact ⟨d, ks, xs, x, k, h1, h2, h3, hk, hz, (Option.some.inj h).symm⟩
    · rw [if_neg hz] at h; cases h
 · cases h
theorem Zek {te ti : TE} {q : Ql} {ε κ : Env -> Option D} (i : Nat) (hi : ow.contains i = true) (h : VE G ow te .cl ε) (hk : VE G ow ti q κ) : VS G ow ow owB owC (ZeQ (Y9 i) ti te) (XU i κ ε) := fun H0 av A σ H δ E o e De k => by
 obtain ⟨d, ks, xs, x, kk, e1, e2, e3, hkk, hz, rfl⟩ := Zbz e
 obtain ⟨hv, hs⟩ := UY hkk
 have hi' : i ∈ ow := by simpa using hi
 cases hA : A i with
 | none => exact absurd hA (E.dom' i hi')
 | some a =>
  refine h H0 av A σ H δ E d e1 _ fun v H1 s1 r1 => ?_
  have E1 := E.mono s1
  obtain ⟨u, g1, _, g3⟩ := E1.var i _ (Ys e2)
  refine ⟨u, g1, hk H0 av A σ H1 δ E1 _ e3 _ fun y H2 s2 r2 => ?_⟩
  have E2 := E1.mono s2
  obtain ⟨u', g1', _, g3'⟩ := E2.var i _ (Ys e2)
  obtain ⟨rfl, vs, q1, q0, q2⟩ := g3' a hA
  have eu : u = .ref a := (g3 a hA).1
  subst eu
  have ey : y = kV kk := (r2.any.val hs).trans hv
  subst ey
  refine ⟨a, _, rfl, DPut.k q1 ?_, k A σ _ (E2.put hA (Ys e2) (fun b o hb e => by rw [Zs hb]; exact e) (by rw [ZJ]; exact fun z => by cases z) ?_)⟩
  · have : (ks.zip vs).length = ks.length := by rw [List.length_zip, <- q2.length, q0]; omega
    rw [this]
    exact hz
  · have ex : ∀ b o, ¬ AV av A b -> H2 b = some o -> upd H2 a (.dK (ZX (ks.zip vs) kk v)) b = some o := fun b o n e => by
     rw [Zs fun z => n (.inr ⟨i, by rw [z]; exact hA⟩)]
     exact e
    exact Zeh kk q0 (q2.ext ex) ((RepT.r (r1.same s2)).ext ex) ZJ
end
end DL
namespace L2
open PySem
theorem UZ {X : Cx} (h : X.A.units + 64 < cLine) : X.A.units + 1 < cLine := by omega
end L2
namespace DL
open PySem PySem.Spec L2
section
variable {G : Cn} {ow owN owB owC ow1 : List Nat}
end
section
variable {cA : Kn} {G : Cn} {ow owN owB owC ow1 : List Nat} {i : Nat}
end
section
variable {P : Program} {w : World} {K : PySem.W.Frag} {mg : Str -> Option Value} {base : Heap} {cA : Kn}
open Classical in
end
end DL
namespace L2
open PySem PySem.Spec PyProof.Rows
section
variable {X : Cx}
end
end L2
namespace DL
open PySem PySem.Spec L2
section
variable {cA : Kn} {G : Cn} {ow owN owB owC ow1 : List Nat} {i : Nat}
mutual
def frz : D -> Bool
 | .non => true
 | .bl _ => true
 | .int _ => true
 | .str _ => true
 | .lst _ => false
 | .tup xs => frzL xs
 | .obj _ _ xs => frzL xs
 | .dct _ _ => false
def frzL : List D -> Bool
 | [] => true
 | x :: xs => frz x && frzL xs
end
mutual
theorem Rep.frz {av av' : Addr -> Prop} {H : Hp} : ∀ {d : D} {v : V}, frz d = true -> (∀ b, av' b -> av b \/ ∃ vs, H b = some (.lst vs)) -> Rep cA av H d v -> Rep cA av' H d v
 | .non, _, _, _, h => h
 | .bl _, _, _, _, h => h
 | .int _, _, _, _, h => h
 | .str _, _, _, _, h => h
 | .lst xs, v, hf, k, h => by cases hf
 | .tup xs, v, hf, k, h => by
  unfold DL.frz at hf
  unfold Rep at h ⊢
  obtain ⟨a, vs, e, n, r, l⟩ := h
  exact ⟨a, vs, e, fun z => (k a z).elim n (by rw [r]; exact fun ⟨_, z⟩ => by cases z), r, RepL.frz hf k l⟩
 | .obj c ks xs, v, hf, k, h => by
  unfold DL.frz at hf
  unfold Rep at h ⊢
  obtain ⟨a, dx, vs, e, n, r, z, l⟩ := h
  exact ⟨a, dx, vs, e, fun z => (k a z).elim n (by rw [r]; exact fun ⟨_, z⟩ => by cases z), r, z, RepL.frz hf k l⟩
 | .dct ks xs, v, hf, k, h => by cases hf
theorem RepL.frz {av av' : Addr -> Prop} {H : Hp} : ∀ {xs : List D} {vs : List V}, frzL xs = true -> (∀ b, av' b -> av b \/ ∃ vs, H b = some (.lst vs)) -> RepL cA av H xs vs -> RepL cA av' H xs vs
 | [], _, _, _, h => h
 | x :: xs, vs, hf, k, h => by
  unfold DL.frzL at hf
  rw [Bool.and_eq_true] at hf
  unfold RepL at h ⊢
  obtain ⟨v, r, e, h1, h2⟩ := h
  exact ⟨v, r, e, Rep.frz hf.1 k h1, RepL.frz hf.2 k h2⟩
end
end
end DL
namespace PySem
open Sem (wp)
section
variable {prog : Program} {w : World} {A : Around} {E : Value -> Shared -> Prop} {s : Shared}
end
def IsQI (k : Bool) (h : Heap) (a l : Addr) (i : Nat) : Prop := match k with
 | true => h.IsTupleIter a l i
 | false => h.IsListIter a l i
def IsQ (k : Bool) (h : Heap) (l : Addr) (xs : Array Value) : Prop := match k with
 | true => h.IsTuple l xs
 | false => h.IsList l xs
theorem IsQI.get {k : Bool} {h : Heap} {a l : Addr} {i : Nat} (x : IsQI k h a l i) : ∃ o, h.get? a = some o /\ o.data = .fields #[.ref l, .int i 0] := by
 cases k with
 | true => obtain ⟨o, e, _, d⟩ := x; exact ⟨o, e, d⟩
 | false => obtain ⟨o, e, _, d⟩ := x; exact ⟨o, e, d⟩
theorem IsQI.at {k : Bool} {h h' : Heap} {a l : Addr} {i : Nat} (x : IsQI k h a l i) (f : ∀ o, h.get? a = some o -> h'.get? a = some o) : IsQI k h' a l i := by
 cases k with
 | true => obtain ⟨o, e, r⟩ := x; exact ⟨o, f o e, r⟩
 | false => obtain ⟨o, e, r⟩ := x; exact ⟨o, f o e, r⟩
theorem IsQI.ext {k : Bool} {h h' : Heap} {a b l : Addr} {i : Nat} (x : IsQI k h a l i) (hs : Heap.ExtBut b h h') (n : a ≠ b) : IsQI k h' a l i := x.at fun o e => hs a o n e
theorem IsQ.at {k : Bool} {h h' : Heap} {l : Addr} {xs : Array Value} (x : IsQ k h l xs) (f : ∀ o, h.get? l = some o -> h'.get? l = some o) : IsQ k h' l xs := by
 cases k with
 | true => obtain ⟨o, e, r⟩ := x; exact ⟨o, f o e, r⟩
 | false => obtain ⟨o, e, r⟩ := x; exact ⟨o, f o e, r⟩
theorem IsQ.ext {k : Bool} {h h' : Heap} {b l : Addr} {xs : Array Value} (x : IsQ k h l xs) (hs : Heap.ExtBut b h h') (n : l ≠ b) : IsQ k h' l xs := x.at fun o e => hs l o n e
section
variable {prog : Program} {w : World} {A : Around} {E : Value -> Shared -> Prop} {s : Shared}
end
section
variable {prog : Program} {w : World} {A : Around} {E : Value -> Shared -> Prop} {s : Shared}
end
end PySem
namespace L2
open PySem PySem.Spec PyProof.Rows
section
variable {X : Cx} {elts : List Expr} {x1 : Nat} {tpos : Pos}
end
end L2
namespace DL
open PySem PySem.Spec L2
section
variable {cA : Kn} {G : Cn} {ow : List Nat}
end
end DL
namespace DL
open PySem PySem.Spec PyProof.Rows L2
def Vo : List Int -> Int
 | [] => 0
 | n :: ns => ns.foldl min n
theorem Zaa : ∀ (ns : List Int) (n : Int), (ns.foldl min n = n \/ ns.foldl min n ∈ ns) /\ ns.foldl min n <= n /\ ∀ a ∈ ns, ns.foldl min n <= a
 | [], n => ⟨.inl rfl, Int.le_refl _, fun _ z => nomatch z⟩
 | m :: ns, n => by
  obtain ⟨h1, h2, h3⟩ := Zaa ns (min n m)
  rw [List.foldl_cons]
  refine ⟨?_, by omega, fun a ha => ?_⟩
  · rcases h1 with h | h
    · by_cases hm : n <= m
      · exact .inl (by rw [h, Int.min_eq_left hm])
      · exact .inr (by rw [h, Int.min_eq_right (by omega)]; exact List.mem_cons_self)
    · exact .inr (List.mem_cons_of_mem _ h)
  · rcases List.mem_cons.mp ha with rfl | ha
    · omega
    · exact h3 a ha
theorem Zcz {ns : List Int} (h : 0 < ns.length) : Vo ns ∈ ns /\ ∀ a ∈ ns, Vo ns <= a := by
 cases ns with
 | nil => cases h
 | cons n ns =>
  obtain ⟨h1, h2, h3⟩ := Zaa ns n
  refine ⟨?_, fun a ha => ?_⟩
  · rcases h1 with h | h
    · show ns.foldl min n ∈ _
      rw [h]; exact List.mem_cons_self
    · exact List.mem_cons_of_mem _ h
  · rcases List.mem_cons.mp ha with rfl | ha
    · exact h2
    · exact h3 a ha
theorem ZcA {ns : List Int} {M : Int} (h1 : M ∈ ns) (h2 : ∀ a ∈ ns, M <= a) : M = Vo ns := by
 obtain ⟨h3, h4⟩ := Zcz (List.length_pos_of_mem h1)
 exact Int.le_antisymm (h2 _ h3) (h4 M h1)
def Je (K : PySem.W.Frag) : List V -> Hp -> VK -> Prop := fun xs H Q => ∃ (p : Addr) (ns : List Int), xs = [.ref p] /\ SqL K H p (ns.map V.int) /\ 0 < ns.length /\ Q (.int (Vo ns)) H
def YM (ns : List Int) : List Int := ns.mergeSort fun a b => decide (a <= b)
theorem Zc8 (ns : List Int) : (YM ns).Pairwise (· <= ·) := by
 have := List.pairwise_mergeSort (le := fun a b : Int => decide (a <= b)) (fun a b c h1 h2 => by simp at h1 h2 ⊢; omega) (fun a b => by simp; omega) ns
 exact this.imp fun h => by simpa using h
theorem ZbA {ns ms : List Int} (hp : ms.Perm ns) (hs : ms.Pairwise (· <= ·)) : ms = YM ns :=
 List.Perm.eq_of_pairwise (fun a b _ _ h1 h2 => Int.le_antisymm h1 h2) hs (Zc8 ns) (hp.trans (List.mergeSort_perm ns _).symm)
theorem sortZ_mem {ns : List Int} {a : Int} : a ∈ YM ns ↔ a ∈ ns := (List.mergeSort_perm ns _).mem_iff
theorem ZcB (ns : List Int) : (YM ns).length = ns.length := (List.mergeSort_perm ns _).length_eq
def Jf (K : PySem.W.Frag) : List V -> Hp -> VK -> Prop := fun xs H Q => ∃ (p : Addr) (ns : List Int), xs = [.ref p] /\ SqL K H p (ns.map V.int) /\ ns.length < 64 /\ ∀ r, H r = none -> Q (.ref r) (upd H r (.lst ((YM ns).map V.int)))
theorem Za1 : ∀ {its : List Value} {ns : List Int}, IntsAre its ns -> Vals (ns.map V.int) its := by
 intro its ns h
 induction h with
 | nil => exact .nil
 | cons n t _ ih => exact .cons ⟨t, rfl⟩ ih
section
variable {X : Cx} {K : PySem.W.Frag} {cA : Kn}
theorem ZcC (hc : X.calm = true) : ZW X (.builtin "min") (Je X.K) := by
 intro pins s σ H xs us Q I rs h
 obtain ⟨p, ns, rfl, hq, hne, q⟩ := h
 obtain ⟨u, rfl, rx⟩ := Yu rs
 cases rx
 obtain ⟨its, rv, pl, hz⟩ := I.list hq
 have hi := Q7 ns its rv
 obtain ⟨ys, e⟩ := hi.allInts.items
 have hns : ns = ys.toList.map (·.1) := by
  rw [<- hi.numsOf, <- nums_intItems, <- e]
 have hsz : 0 < ys.size := by
  have h3 := hne; rw [hns, List.length_map, Array.length_toList] at h3; exact h3
 have hl := pl.isList
 rw [e] at hl
 refine min_intList (I.ok.hd hc) hl hsz fun v h' tk hv hk => ?_
 obtain ⟨t, rfl⟩ := intItems_at hv
 obtain ⟨h1, h2⟩ := argBest_lt (numAt ys) (ys.size - 1)
 have hM := ZcA (ns := ns) (M := numAt ys (argBest (fun i j => decide (numAt ys i < numAt ys j)) (ys.size - 1))) (by
  rw [hns, numAt_eq]; exact getD_mem (by rw [List.length_map, Array.length_toList]; omega)) (fun a ha => by
  rw [hns] at ha
  obtain ⟨j, hj, rfl⟩ := mem_getD ha
  rw [List.length_map, Array.length_toList] at hj
  rw [<- numAt_eq]; exact h2 j (by omega))
 exact ⟨.int (Vo ns), H, I.kept hk, ⟨t, by rw [hM]⟩, q⟩
theorem Zfz (hc : X.calm = true := by rfl) (hK : X.K = K := by rfl) : ZW X (.builtin "min") (Je K) := hK ▸ ZcC hc
theorem ZbB : ZW X (.builtin "sorted") (Jf X.K) := by
 intro pins s σ H xs us Q I rs h
 obtain ⟨p, ns, rfl, hq, h64, q⟩ := h
 obtain ⟨u, rfl, rx⟩ := Yu rs
 cases rx
 obtain ⟨its, rv, pl, hz⟩ := I.list hq
 have hi := Q7 ns its rv
 have hlen : its.length = ns.length := by have := rv.length; rw [List.length_map] at this; omega
 refine sorted_ints pl.isList hi (by omega) fun out ns' hi' hp hs => ?_
 have e := ZbA hp hs
 subst e
 obtain ⟨n0, ho⟩ := sortedAll_at s.heap its out
 have hv : Vals ((YM ns).map V.int) out.toList := Za1 hi'
 refine ⟨.ref (s.heap.objs.size + 1), _, I.laid (a := s.heap.objs.size + 1) (o := .lst ((YM ns).map V.int)) (t' := s.toks) (fun b o hb => sortedAll_old hb) (Nat.le_succ _) ?_, rfl, q _ (I.hok.fresh (Nat.le_succ _))⟩
 show ObjOk X.prog X.w _ _ _ (.lst _)
 refine ⟨?_, out.toList, n0, hv, ?_⟩
 · rw [List.length_map, ZcB, PySem.sizeLine_eq]; omega
 · exact ho
theorem Zel (hK : X.K = K := by rfl) : ZW X (.builtin "sorted") (Jf K) := hK ▸ ZbB
def minLD : List D -> Option D
 | [.lst xs] => match YJ xs with
  | some ns => if 0 < ns.length then some (.int (Vo ns)) else none
  | none => none
 | _ => none
theorem Zem : VY cA (Je cA.K) minLD := fun i H ds vs d _ h e Q k => by
 unfold minLD at e
 split at e
 · rename_i xs
   cases hb : YJ xs with
   | none => rw [hb] at e; cases e
   | some bs =>
    rw [hb] at e
    dsimp only at e
    by_cases hz : 0 < bs.length
    · rw [if_pos hz] at e
      cases e
      obtain ⟨v, t, rfl, a, ws, rfl, _, rd, l⟩ := il1 h
      have ex := Q6 hb
      subst ex
      have ev := l.vals (by rw [List.all_map]; exact List.all_eq_true.mpr fun _ _ => rfl)
      rw [List.map_map] at ev
      subst ev
      exact ⟨a, bs, rfl, rd, hz, k _ H (Same.refl H) rfl⟩
    · rw [if_neg hz] at e; cases e
 · cases e
def Vp : List D -> Option D
 | [.lst xs] => match YJ xs with
  | some ns => if ns.length < 64 then some (.lst ((YM ns).map D.int)) else none
  | none => none
 | _ => none
variable {G : Cn} {ow : List Nat}
theorem Zen {t : TA} {q : Ql} {α : Env -> Option (List D)} (hq : q = .cl \/ q = .tp) (h : VA G ow t q α) : VF G ow (tCB (Jf G.1.K) t) (eCB Vp α) := fun H0 av A σ H δ E d e Q k => by
 unfold eCB at e
 cases he : α δ with
 | none => rw [he] at e; cases e
 | some ds =>
  rw [he] at e
  replace e : Vp ds = some d := e
  unfold Vp at e
  split at e
  · rename_i xs
    cases hb : YJ xs with
    | none => rw [hb] at e; cases e
    | some ns =>
     rw [hb] at e
     dsimp only at e
     by_cases hz : ns.length < 64
     · rw [if_pos hz] at e
       cases e
       refine h H0 av A σ H δ E _ he _ fun vs H1 s1 r1 => ?_
       have il : YZ G.1 (AV av A) H1 [.lst xs] vs := by
        rcases hq with rfl | rfl <;> exact r1.il
       obtain ⟨v, t, rfl, a, ws, rfl, _, rd, l⟩ := il1 il
       have ex := Q6 hb
       subst ex
       have ev := l.vals (by rw [List.all_map]; exact List.all_eq_true.mpr fun _ _ => rfl)
       rw [List.map_map] at ev
       subst ev
       refine ⟨a, ns, rfl, rd, hz, fun p hp => k p _ _ H1 s1 hp ?_ rfl⟩
       have := RepL.of_vals (cA := G.1) (av := AV av A) (H := H1) (xs := (YM ns).map D.int) (by rw [List.all_map]; exact List.all_eq_true.mpr fun _ _ => rfl)
       rw [List.map_map] at this
       exact this
     · rw [if_neg hz] at e; cases e
  · cases e
def V2 (κ ε : Env -> Option D) (δ : Env) : Option D := match κ δ, YV ε δ with
 | some x, some d => match Yz x with
  | some k => some (.dct [k] [d])
  | none => none
 | _, _ => none
open Classical in
theorem Zc9 {tk tv : TE} {q1 q2 : Ql} {κ ε : Env -> Option D} (h1 : VE G ow tk q1 κ) (h2 : VE G ow tv q2 ε) : VFD G ow (ZeR [(tk, tv)]) (V2 κ ε) := fun H0 av A σ H δ E d e Q k => fun p hp => by
 unfold V2 at e
 cases hx : κ δ with
 | none => rw [hx] at e; cases e
 | some x =>
  cases hy : YV ε δ with
  | none => rw [hx, hy] at e; cases e
  | some y =>
   rw [hx, hy] at e
   dsimp only at e
   cases hk : Yz x with
   | none => rw [hk] at e; cases e
   | some kk =>
    rw [hk] at e
    cases e
    have sp : Same H (upd H p (.dK [])) := Z1 hp
    refine h1 H0 av A σ _ δ (E.mono sp) x hx _ fun v H1 s1 r1 => ?_
    refine h2.scal H0 av A σ _ δ ((E.mono sp).mono s1) y hy _ fun u H2 s2 r2 => ?_
    obtain ⟨ek, sk⟩ := UY hk
    have ev : v = kV kk := by rw [<- ek]; exact r1.any.val sk
    have sy : Zi y = true := ZbV hy
    have eu : u = val y := (RepT.r r2).val sy
    subst ev eu
    have hp2 : H2 p = some (.dK []) := s2 _ _ (s1 _ _ ZJ)
    refine ⟨hp2, [(kk, val y)], rfl, by show 1 <= 15; decide, ?_⟩
    have eu2 : upd H2 p (.dK (Vb [] [(kk, val y)])) = upd (fun b => if b = p then none else H2 b) p (.dK (([kk] : List Key).zip [val y])) := by
     funext b
     by_cases hb : b = p
     · rw [hb, ZJ, ZJ]
       rfl
     · rw [Zs hb, Zs hb, if_neg hb]
    rw [eu2]
    refine k p [kk] [val y] [y] (fun b => if b = p then none else H2 b) (fun b o hb => ?_) (if_pos rfl) rfl (.cons (.of_val sy) .nil) rfl
    have hbp : b ≠ p := fun z => by rw [z, hp] at hb; cases hb
    show (if b = p then none else H2 b) = some o
    rw [if_neg hbp]
    exact s2 _ _ (s1 _ _ (sp _ _ hb))
end
end DL
namespace DL
open PySem PySem.Spec L2
theorem V3 (i j : Int) : eqD (.int i) (.int j) = some (.bl (decide (i = j))) := by
 show (if (Zi (.int i) && Zi (.int j) && scal (V.int i) (V.int j)) = true then some (D.bl (decide (V.int i = V.int j))) else _) = _
 rw [if_pos (by rfl)]
 simp
theorem Jg (a b : List Nat) : eqD (.str a) (.str b) = some (.bl (decide (a = b))) := by
 show (if (Zi (.str a) && Zi (.str b) && scal (S a) (S b)) = true then some (D.bl (decide (S a = S b))) else _) = _
 rw [if_pos (by rfl)]
 simp only [Zf1]
theorem ZbY (a b : Bool) : eqD (.bl a) (.bl b) = some (.bl (decide (a = b))) := by
 show (if (Zi (.bl a) && Zi (.bl b) && scal (V.bl a) (V.bl b)) = true then some (D.bl (decide (V.bl a = V.bl b))) else _) = _
 rw [if_pos (by rfl)]
 simp
theorem Jh : eqD .non .non = some (.bl true) := rfl
theorem Ji (i : Int) : eqD .non (.int i) = some (.bl false) := by
 show (if (Zi .non && Zi (.int i) && scal V.non (V.int i)) = true then some (D.bl (decide (V.non = V.int i))) else _) = _
 rw [if_pos (by rfl)]
 simp
theorem Jj (i : Int) : eqD (.int i) .non = some (.bl false) := by
 show (if (Zi (.int i) && Zi .non && scal (V.int i) V.non) = true then some (D.bl (decide (V.int i = V.non))) else _) = _
 rw [if_pos (by rfl)]
 simp
theorem ZbZ (i j : Int) : neD (.int i) (.int j) = some (.bl (!decide (i = j))) := by unfold neD; rw [V3]
theorem Zb0 (i j : List Nat) : neD (.str i) (.str j) = some (.bl (!decide (i = j))) := by unfold neD; rw [Jg]
theorem ZdB : neD .non .non = some (.bl false) := by unfold neD; rw [Jh]; rfl
theorem ZdC (i : Int) : neD .non (.int i) = some (.bl true) := by unfold neD; rw [Ji]; rfl
theorem ZdD (i : Int) : neD (.int i) .non = some (.bl true) := by unfold neD; rw [Jj]; rfl
theorem ZfA {α : Type} {xs : List α} {i : Int} (h0 : 0 <= i) (h1 : i < xs.length) : ∃ x, atI xs i = some x /\ xs[i.toNat]? = some x := by
 have hj : i.toNat < xs.length := by omega
 refine ⟨xs[i.toNat], ?_, by simp [hj]⟩
 have := Vz (xs := xs) (j := i.toNat) (v := xs[i.toNat]) (by simp [hj])
 rwa [Int.toNat_of_nonneg h0] at this
theorem XV {γ : D -> Env -> Option Env} {φ : Env -> Option Out} (I : Nat -> Env -> Prop) : ∀ (xs : List D) (k : Nat) (δ : Env), I k δ ->
 (∀ (j : Nat) x δ, xs[j]? = some x -> I (k + j) δ -> ∃ δ1, γ x δ = some δ1 /\ ∃ δ2, φ δ1 = some (.nx δ2) /\ I (k + j + 1) δ2) -> ∃ δ', Z2 γ φ xs δ = some (.nx δ') /\ I (k + xs.length) δ'
 | [], k, δ, h, _ => ⟨δ, rfl, h⟩
 | x :: xs, k, δ, h, step => by
  obtain ⟨δ1, h1, δ2, h2, h3⟩ := step 0 x δ rfl h
  obtain ⟨δ', h4, h5⟩ := XV I xs (k + 1) δ2 h3 fun j y δ hy hI => by
   have := step (j + 1) y δ (by simpa using hy) (by rwa [show k + (j + 1) = k + 1 + j by omega])
   rwa [show k + (j + 1) + 1 = k + 1 + j + 1 by omega] at this
  refine ⟨δ', ?_, by rwa [List.length_cons, show k + (xs.length + 1) = k + 1 + xs.length by omega]⟩
  unfold Z2
  rw [h1]
  dsimp only
  rw [h2]
  exact h4
theorem Jk {γ : D -> Env -> Option Env} {ε : Env -> Option D} {δ0 : Env} (f : D -> D) : ∀ (xs : List D), (∀ x ∈ xs, ∃ δ1, γ x δ0 = some δ1 /\ ε δ1 = some (f x)) -> ZM γ (fun _ => some true) ε δ0 xs = some (xs.map f)
 | [], _ => rfl
 | x :: xs, h => by
  obtain ⟨δ1, h1, h2⟩ := h x List.mem_cons_self
  have ih := Jk f xs fun y hy => h y (List.mem_cons_of_mem _ hy)
  unfold ZM
  rw [h1]
  dsimp only
  rw [h2, ih]
  rfl
theorem Zbg {lo c : Int} {n i : Nat} {x : D} (h : (Zy lo c n)[i]? = some x) : i < n /\ x = .int (lo + (i : Nat) * c) := by
 have hi : i < n := by have := (List.getElem?_eq_some_iff.mp h).1; simpa [Zy] using this
 unfold Zy at h
 rw [List.getElem?_map, List.getElem?_range hi] at h
 exact ⟨hi, (Option.some.inj h).symm⟩
theorem Zak (lo c : Int) (n : Nat) : (Zy lo c n).length = n := by simp [Zy]
end DL
namespace DL
open PySem PySem.Spec L2
theorem ZaK {α : Type} (g : α -> Nat) : ∀ xs : List α, strs? (xs.map fun x => D.str [g x]) = some (xs.map fun x => [g x])
 | [] => rfl
 | x :: xs => by rw [List.map_cons, strs?, ZaK g xs, List.map_cons]
theorem ZcD {α : Type} (g : α -> Nat) (xs : List α) (h : xs.length <= sizeLine) : joinD [] [.lst (xs.map fun x => D.str [g x])] = some (.str (xs.map g)) := by
 unfold joinD
 dsimp only
 rw [ZaK]
 dsimp only
 have e1 : ((xs.map fun x => [g x]).map List.length).sum = xs.length := by
  clear h
  induction xs with
  | nil => rfl
  | cons x xs ih =>
   rw [List.map_cons, List.map_cons, List.sum_cons, ih]
   simp
   omega
 rw [if_pos (by rw [e1]; simpa using h), ZaG]
 congr 2
 clear h e1
 induction xs with
 | nil => rfl
 | cons x xs ih => rw [List.map_cons, List.flatten_cons, ih]; rfl
end DL
namespace DL
open PySem PySem.Spec L2
theorem Y5 {i j : Int} (h : 0 < j) : modD (.int i) (.int j) = some (.int (i % j)) := if_pos h
theorem Vq {i j : Int} (h : YR i j) : fdivD (.int i) (.int j) = some (.int (i / j)) := if_pos h
theorem Zb1 {cs : List Nat} {i : Int} {c : Nat} (h : cs.length <= sizeLine) (hz : atI cs i = some c) : ixD (.str cs) (.int i) = some (.str [c]) := by
 show (if cs.length <= sizeLine then (atI cs i).map fun c => D.str [c] else none) = _
 rw [if_pos h, hz]
 rfl
theorem ZbC {i j : Int} (h1 : 0 < j) (h2 : j < 1000000) : YR i j := ⟨h1, by omega⟩
end DL
namespace DL
open PySem PySem.Spec L2
theorem Zv {a b : Env -> Option Out} {δ δ' : Env} (h : a δ = some (.nx δ')) : Zd a b δ = b δ' := by
 unfold Zd; rw [h]
theorem ZO {i : Nat} {e : Env -> Option D} {δ : Env} {d : D} (h : e δ = some d) : Zh i e δ = some (.nx (δ.set i (some d))) := by
 unfold Zh; rw [h]
theorem XW {e : Env -> Option D} {δ : Env} {d : D} (h : e δ = some d) : ZE e δ = some (.rt d) := by
 unfold ZE; rw [h]
theorem V4 {t : Env -> Option Bool} {a b : Env -> Option Out} {δ : Env} (h : t δ = some true) : sIf t a b δ = a δ := by
 unfold sIf; rw [h]
theorem Xl {t : Env -> Option Bool} {a b : Env -> Option Out} {δ : Env} (h : t δ = some false) : sIf t a b δ = b δ := by
 unfold sIf; rw [h]
theorem ZQ {e : Env -> Option D} {δ : Env} {b : Bool} (h : e δ = some (.bl b)) : xB e δ = some b := by
 unfold xB; rw [h]; rfl
theorem U1 {t : Env -> Option Bool} {δ : Env} {b : Bool} (h : t δ = some b) : Ym t δ = some (!b) := by
 unfold Ym; rw [h]
theorem Jl {a b : Env -> Option Bool} {δ : Env} {x : Bool} (h1 : a δ = some false) (h2 : b δ = some x) : xOr a b δ = some x := by
 unfold xOr; rw [h1]; exact h2
theorem U2 {a b : Env -> Option Bool} {δ : Env} {x : Bool} (h1 : a δ = some true) (h2 : b δ = some x) : Z5 a b δ = some x := by
 unfold Z5; rw [h1]; exact h2
theorem Jm {a b : Env -> Option Bool} {δ : Env} (h1 : a δ = some false) : Z5 a b δ = some false := by
 unfold Z5; rw [h1]
theorem YB {n : Nat} {m : List D -> Option D} {α : Env -> Option (List D)} {δ : Env} {ds : List D} (h : α δ = some ds) (hn : ds.length = n) : Zu n m [] α δ = m ds := by
 unfold Zu
 rw [h]
 dsimp only
 rw [List.append_nil, if_pos hn]
theorem Zm {a : Env -> Option D} {b : Env -> Option (List D)} {δ : Env} {x : D} {xs : List D} (h1 : a δ = some x) (h2 : b δ = some xs) : Zb a b δ = some (x :: xs) := by
 unfold Zb; rw [h1, h2]
theorem Zj {f : D -> D -> Option D} {a b : Env -> Option D} {δ : Env} {x y : D} (h1 : a δ = some x) (h2 : b δ = some y) : eOp f a b δ = f x y := by
 unfold eOp; rw [h1, h2]
theorem Zeo {a b : Env -> Option D} {δ : Env} {x : D} (h1 : a δ = some (.bl true)) (h2 : b δ = some x) : Xv a b δ = some x := by
 unfold Xv; rw [h1]; exact h2
theorem ZdE {α : Env -> Option (List D)} {δ : Env} {ds : List D} (h : α δ = some ds) (hl : ds.length <= 1000) : YY α δ = (some (.tup ds) : Option D) := by
 unfold YY; rw [h]
 exact if_pos (Nat.le_trans hl (by decide))
theorem Jn {α : Env -> Option (List D)} {δ : Env} {ds : List D} (h : α δ = some ds) (hl : ds.length <= 1000) : ZT α δ = (some (.lst ds) : Option D) := by
 unfold ZT; rw [h]
 exact if_pos (Nat.le_trans hl (by decide))
theorem Jo {γ : D -> Env -> Option Env} {φ : Env -> Option Out} (I : Env -> Prop) : ∀ (xs : List D) (δ : Env), I δ ->
 (∀ x ∈ xs, ∀ δ, I δ -> ∃ δ1, γ x δ = some δ1 /\ ∃ δ2, φ δ1 = some (.nx δ2) /\ I δ2) -> ∃ δ', Z2 γ φ xs δ = some (.nx δ') /\ I δ'
 | [], δ, h, _ => ⟨δ, rfl, h⟩
 | x :: xs, δ, h, step => by
  obtain ⟨δ1, h1, δ2, h2, h3⟩ := step x List.mem_cons_self δ h
  obtain ⟨δ', h4, h5⟩ := Jo I xs δ2 h3 fun y hy => step y (List.mem_cons_of_mem _ hy)
  refine ⟨δ', ?_, h5⟩
  unfold Z2
  rw [h1]
  dsimp only
  rw [h2]
  exact h4
theorem Jp {lo c : Int} {n : Nat} {x : D} (h : x ∈ Zy lo c n) : ∃ k : Nat, k < n /\ x = .int (lo + (k : Nat) * c) := by
 unfold Zy at h
 obtain ⟨k, hk, rfl⟩ := List.mem_map.mp h
 exact ⟨k, List.mem_range.mp hk, rfl⟩
theorem Zbh {τ : Env -> Option Bool} {φ : Env -> Option Out} (I J : Env -> Prop) (μ : Env -> Nat)
 (step : ∀ δ, I δ -> (τ δ = some false /\ J δ) \/ (τ δ = some true /\ ∃ δ', φ δ = some (.nx δ') /\ I δ' /\ μ δ' < μ δ)) :
 ∀ (k : Nat) (δ : Env), μ δ <= k -> I δ -> ∃ n δ', ZU τ φ n δ = some (.nx δ') /\ J δ'
 | 0, δ, hk, h => by
  rcases step δ h with ⟨h1, h2⟩ | ⟨h1, δ', h2, h3, h4⟩
  · exact ⟨1, δ, by unfold ZU; rw [h1], h2⟩
  · omega
 | k + 1, δ, hk, h => by
  rcases step δ h with ⟨h1, h2⟩ | ⟨h1, δ', h2, h3, h4⟩
  · exact ⟨1, δ, by unfold ZU; rw [h1], h2⟩
  · obtain ⟨n, δ2, h5, h6⟩ := Zbh I J μ step k δ' (by omega) h3
    refine ⟨n + 1, δ2, ?_, h6⟩
    unfold ZU
    rw [h1]
    dsimp only
    rw [h2]
    exact h5
theorem Jq {τ : Env -> Option Bool} {φ : Env -> Option Out} (I J : Env -> Prop) (μ : Env -> Nat)
 (step : ∀ δ, I δ -> (τ δ = some false /\ J δ) \/ (τ δ = some true /\ ∃ δ', φ δ = some (.nx δ') /\ I δ' /\ μ δ' < μ δ)) (δ : Env) (h : I δ) : ∃ δ', Z3 τ φ δ = some (.nx δ') /\ J δ' := by
 obtain ⟨n, δ', h1, h2⟩ := Zbh I J μ step (μ δ) δ (Nat.le_refl _) h
 exact ⟨δ', Zct h1, h2⟩
end DL
namespace DL
open PySem PySem.Spec L2
theorem XB {α : Env -> Option (List D)} {δ : Env} {j : Int} (h : α δ = some [.int j]) (h1 : -1000000 <= j) (h2 : j <= 1000000) : Zt α δ = some (Zy 0 1 j.toNat) := by
 unfold Zt
 rw [h]
 dsimp only
 rw [if_pos ⟨by omega, by omega⟩]
theorem ZdF {α : Env -> Option (List D)} {δ : Env} {i j : Int} (h : α δ = some [.int i, .int j]) (h1 : -1000000 <= j) (h2 : j <= 1000000) (h3 : -1000000 <= i) (h4 : i <= 1000000) : Zt α δ = some (Zy i 1 (j - i).toNat) := by
 unfold Zt
 rw [h]
 dsimp only
 rw [if_pos ⟨by omega, by omega, by omega, by omega⟩]
theorem ZdG {i : Nat} {ε : Env -> Option D} {δ : Env} {xs : List D} {d : D} (h1 : Za i δ = some (.lst xs)) (h2 : ε δ = some d) (hl : xs.length <= 1000000) : Xx i ε δ = some (.nx (δ.set i (some (.lst (xs ++ [d]))))) := by
 unfold Xx
 rw [h1]
 dsimp only
 rw [h2]
 dsimp only
 rw [if_pos (by rw [PySem.sizeLine_eq]; omega)]
theorem Zb2 {n j : Nat} {x : D} (h : (Zy 0 1 n)[j]? = some x) : j < n /\ x = .int (j : Nat) := by
 have hj : j < n := by have := (List.getElem?_eq_some_iff.mp h).1; simpa [Zy] using this
 refine ⟨hj, ?_⟩
 unfold Zy at h
 rw [List.getElem?_map, List.getElem?_range hj] at h
 have := Option.some.inj h
 rw [<- this]
 show D.int (0 + (j : Int) * 1) = _
 rw [show (0 + (j : Int) * 1) = j by omega]
theorem Jr (lo c : Int) (n : Nat) : (Zy lo c n).length = n := by simp [Zy]
theorem XC {ι : Env -> Option (List D)} {γ : D -> Env -> Option Env} {φ : Env -> Option Out} {δ : Env} {xs : List D} {o : Out} (h1 : ι δ = some xs) (h2 : Z2 γ φ xs δ = some o) : ZL ι γ φ δ = some o := by
 unfold ZL
 rw [h1]
 exact h2
theorem Vr {ι : Env -> Option (List D)} {γ : D -> Env -> Option Env} {τ : Env -> Option Bool} {ε : Env -> Option D} {n : Nat} {js : List Nat} {δ δ0 : Env} {xs ys : List D} (h1 : ι δ = some xs) (hb : Yf n δ js = δ0) (h2 : ZM γ τ ε δ0 xs = some ys) (hl : ys.length <= 1000000) : ZN ι γ τ ε n js δ = some (.lst ys) := by
 unfold ZN
 rw [h1]
 dsimp only
 rw [hb, h2]
 dsimp only
 rw [if_pos (by rw [PySem.sizeLine_eq]; omega)]
theorem Ze3 {f : List Nat -> List D -> Option D} {a : Env -> Option D} {α : Env -> Option (List D)} {δ : Env} {s : List Nat} {ds : List D} (h1 : a δ = some (.str s)) (h2 : α δ = some ds) : eBM f a α δ = f s ds := by
 unfold eBM
 rw [h1, h2]
theorem Yq {f : List D -> Option D} {α : Env -> Option (List D)} {δ : Env} {ds : List D} (h : α δ = some ds) : eCB f α δ = f ds := by
 unfold eCB
 rw [h]
theorem Xm {n : Nat} {f : Env -> Option Out} {vs : List D} {δ : Env} {d : D} (h1 : (vs.map some ++ List.replicate (n - vs.length) none) = δ) (h2 : f δ = some (.rt d)) : DL.run n f vs = some d := by
 unfold DL.run
 rw [h1, h2]
theorem nil_of {δ : Env} : eNil δ = some [] := rfl
theorem ZdH {t : List (String × Bool)} {a : Env -> Option D} {δ : Env} {d : D} {b : Bool} (h1 : a δ = some d) (h2 : Vh t d = some b) : Yy t a δ = some (.bl b) := by
 unfold Yy
 rw [h1]
 dsimp only
 rw [h2]
end DL
namespace DL
open PySem PySem.Spec L2
theorem Zbi {x : D} (hs : Zi x = false) (h : SeqAt.shaped (toP x) = true) : eqD x x = some (.bl true) := by
 unfold eqD
 rw [if_neg (by simp [hs]), h, if_pos (by rfl)]
 rw [SeqAt.eqv_refl _ (SeqAt.canLay_of_shaped h)]
theorem Zda {x : D} (hs : Zi x = false) (h : SeqAt.shaped (toP x) = true) : neD x x = some (.bl false) := by
 unfold neD
 rw [Zbi hs h]
 rfl
def Js (w : List Nat) : Prop := ∀ c ∈ w, c < 1114112
theorem Zdb {w : List Nat} (h : Js w) : PyData.strOk (tx w) = true := by
 unfold PyData.strOk tx
 simpa [Js] using h
theorem Zal : ∀ ws : List Int, PyData.canLayAll0 (ZH (ws.map D.int)) = true
 | [] => rfl
 | w :: ws => by rw [List.map_cons, ZH, PyData.canLayAll0, Zal ws]; rfl
theorem Zau : ∀ ws : List Int, PyData.depthAll (ZH (ws.map D.int)) = 0
 | [] => rfl
 | w :: ws => by rw [List.map_cons, ZH, PyData.depthAll, Zau ws]; rfl
theorem Za2 (ws : List Int) : SeqAt.shaped (toP (.lst (ws.map D.int))) = true := by
 simp [SeqAt.shaped, toP, PyData.canLay0, PyData.depth, Zal, Zau]
end DL
namespace DL
open PySem PySem.Spec L2
theorem add_int (i j : Int) : addX (.int i) (.int j) = some (.int (i + j)) := rfl
theorem add_str {a b : List Nat} (h : a.length + b.length <= 100000) : addX (.str a) (.str b) = some (.str (a ++ b)) := by
 show (if a.length + b.length <= PySem.sizeLine then some (D.str (a ++ b)) else none) = _
 rw [if_pos (by rw [PySem.sizeLine_eq]; omega)]
theorem Jt {i j : Int} (h1 : -1000 <= j) (h2 : j <= 1000) : mulX (.int i) (.int j) = some (.int (i * j)) := if_pos (.inr (.inr ⟨by omega, by omega⟩))
theorem Zep {a : List D} {n : Nat} (h : a.length * n <= 100000) (hn : n <= 100000) : mulX (.lst a) (.int (n : Int)) = some (.lst (List.replicate n a).flatten) := by
 unfold mulX
 dsimp only
 rw [Int.toNat_natCast, if_pos ⟨by omega, by omega, by rw [PySem.sizeLine_eq]; omega⟩]
theorem Ju {n a : Nat} (h : a < n) : ixN n (a : Int) = some a := by
 unfold ixN
 rw [if_pos (by omega), if_pos (by omega), Int.toNat_natCast]
theorem Vs {xs : List D} {a : Nat} {x : D} (h : xs[a]? = some x) : ixD (.lst xs) (.int (a : Int)) = some x := Vz h
theorem ix_tup {xs : List D} {a : Nat} {x : D} (h : xs[a]? = some x) : ixD (.tup xs) (.int (a : Int)) = some x := Vz h
theorem ix_str {cs : List Nat} {a : Nat} {c : Nat} (h : cs[a]? = some c) (hl : cs.length <= 100000) : ixD (.str cs) (.int (a : Int)) = some (.str [c]) := Zb1 (by rw [PySem.sizeLine_eq]; omega) (Vz h)
theorem U3 {cs : List Int} {a : Nat} (h : a < cs.length) : ixD (.lst (cs.map D.int)) (.int (a : Int)) = some (.int (cs.getD a 0)) := by
 refine Vs ?_
 rw [List.getElem?_map, List.getElem?_eq_getElem h, List.getD_eq_getElem?_getD, List.getElem?_eq_getElem h]
 rfl
theorem Jv {i : Int} (h : 0 <= i) : ∃ a : Nat, i = (a : Int) := ⟨i.toNat, (Int.toNat_of_nonneg h).symm⟩
theorem U4 (i : Int) {m : Nat} (h : 0 < m) : ∃ a : Nat, i % (m : Int) = (a : Int) /\ a < m := by
 obtain ⟨a, ha⟩ := Jv (Int.emod_nonneg i (show (m : Int) ≠ 0 by omega))
 exact ⟨a, ha, by have := Int.emod_lt_of_pos i (b := (m : Int)) (by omega); omega⟩
theorem Jw (i : Int) {m : Nat} (h : 0 < m) : ∃ a : Nat, modD (.int i) (.int (m : Int)) = some (.int (a : Int)) /\ a < m := by
 obtain ⟨a, ha, hm⟩ := U4 i h
 exact ⟨a, by rw [Y5 (by omega), ha], hm⟩
theorem len_str {cs : List Nat} (h : cs.length <= 100000) : lenD [.str cs] = some (.int (cs.length : Int)) := if_pos (by rw [PySem.sizeLine_eq]; omega)
theorem Zeq {xs : List D} : lenD [.lst xs] = some (.int (xs.length : Int)) := rfl
theorem ZaL {c : Nat} {ms : List Nat} (h : c ∈ ms) : ∃ i : Nat, Yk c ms = (i : Int) /\ ms[i]? = some c /\ i < ms.length := by
 unfold Yk
 cases e : ms.findIdx? (· == c) with
 | none =>
  have := List.findIdx?_eq_none_iff.mp e c h
  simp at this
 | some i =>
  obtain ⟨h1, h2, _⟩ := List.findIdx?_eq_some_iff_getElem.mp e
  refine ⟨i, rfl, ?_, h1⟩
  rw [List.getElem?_eq_getElem h1]
  congr 1
  simpa using h2
theorem Zer {c : String} {n : Nat} {m : List D -> Option D} {α : Env -> Option (List D)} {δ : Env} {ds : List D} (h : α δ = some ds) (hn : ds.length + 1 = n) : Y0 c n m [] α δ = m (.obj c [] [] :: ds) := by
 unfold Y0
 rw [h]
 dsimp only
 rw [List.append_nil, if_pos (by rw [List.length_cons]; exact hn)]
end DL
namespace K33
open PySem PySem.Spec L2 DL
def Y6 : List String := ["Rooms"]
def XX : List String := ["Rooms"]
def Jx : List (String × Bool) := [("NoneType", false), ("bool", true), ("int", false), ("str", false), ("list", false), ("tuple", false), ("Rooms", false)]
def Jy : List (String × Bool) := [("NoneType", false), ("bool", true), ("int", true), ("str", false), ("list", false), ("tuple", false), ("Rooms", false)]
def U5 : List (String × Bool) := [("NoneType", false), ("bool", false), ("int", false), ("str", true), ("list", false), ("tuple", false), ("Rooms", false)]
def U6 : List (String × Bool) := [("NoneType", false), ("bool", false), ("int", false), ("str", false), ("list", false), ("tuple", true), ("Rooms", false)]
noncomputable def f__wall : DL.Env -> Option Out :=
 (Z3 (xB (eC (.bl true))) sNext)
noncomputable def Zes : List D -> Option D := run 1 f__wall
noncomputable def f_QK : DL.Env -> Option Out :=
 (ZE (Xv (eOp eqD (eCB lenD (Zb (Za 1) eNil)) (eC (.int 1))) (eOp (inD false) (Za 1) (Za 0))))
noncomputable def U7 : List D -> Option D := run 2 f_QK
noncomputable def f_QF : DL.Env -> Option Out :=
 (Zd (sIf (Ym (xB (Zu 2 U7 [] (Zb (Yh Y6 "marks" (Za 0)) (Zb (Za 2) eNil))))) sNever sNext)
 (ZE (eOp ixD (eOp ixD (Yh XX "ways" (Za 0)) (Za 1)) (eBM indexD (Yh Y6 "marks" (Za 0)) (Zb (Za 2) eNil)))))
noncomputable def U8 : List D -> Option D := run 3 f_QF
noncomputable def U9 : MTab := [("Rooms", 3, U8)]
noncomputable def f_QJ : DL.Env -> Option Out :=
 (Zd (Zh 2 (V2 (eC (.int 0)) (eC (.str []))))
 (Zd (Zh 3 (ZT (Zb (eC (.int 0)) eNil)))
 (Zd (Zh 4 (eC (.int 0)))
 (Zd (Z3 (xB (eOp (inD true) (eOp ixD (Za 3) (Za 4)) (Za 1))) (Zd (Zh 5 (eOp ixD (Za 3) (Za 4)))
 (Zd (ZL (Yo (Yh Y6 "marks" (Za 0))) (Zl 6) (Zd (Zh 7 (XR "led" U9 (Za 0) (Zb (Za 5) (Zb (Za 6) eNil))))
 (sIf (Z5 (xB (Ye (Za 7))) (xB (eOp (inK true) (Za 7) (Za 2)))) (Zd (XU 2 (Za 7) (eOp addX (eOp Y4 (Za 2) (Za 5)) (Za 6)))
 (Xx 3 (Za 7))) sNext)))
 (Zh 4 (eOp addX (Za 4) (eC (.int 1)))))))
 (ZE (YY (Zb (eOp Y4 (Za 2) (eOp ixD (Za 3) (Za 4))) (Zb (eOp ixD (Za 3) (Za 4)) eNil))))))))
noncomputable def V5 : List D -> Option D := run 8 f_QJ
noncomputable def f_QE : DL.Env -> Option Out :=
 (Zd (Xk 0 Y6 "marks" (Za 1))
 (Xk 0 XX "ways" (eCB YG (Zb (ZN (Yo (Za 2)) (Zl 0) (fun _ => some true) (eCB YG (Zb (Za 0) eNil)) 1 []) eNil))))
noncomputable def Vt : List D -> Option D := runI 3 f_QE
noncomputable def f_Rooms_many : DL.Env -> Option Out :=
 (ZE (eCB lenD (Zb (Yh XX "ways" (Za 0)) eNil)))
noncomputable def f_Rooms_walked : DL.Env -> Option Out :=
 (Q2 (Zu 1 Zes [] (Zb (eC (.int 0)) eNil)))
noncomputable def f_QB : DL.Env -> Option Out :=
 (Zd (sIf (xB (eOp (Xi fun i j => decide (i < j)) (Za 1) (eCB lenD (Zb (Za 0) eNil)))) (ZE (eOp ixD (Za 0) (Za 1))) sNext)
 (ZE (eC (.int 0))))
noncomputable def Z6 : List D -> Option D := run 2 f_QB
noncomputable def f_QA : DL.Env -> Option Out :=
 (ZE (Xv (Yy Jy (Za 0)) (VU (Yy Jx (Za 0)))))
noncomputable def Qa : List D -> Option D := run 1 f_QA
noncomputable def f_QD : DL.Env -> Option Out :=
 (Zd (Zh 1 (eC (.str [97, 98, 99, 100, 101, 102, 103, 104, 105, 106, 107, 108, 109, 110, 111, 112, 113, 114, 115, 116, 117, 118, 119, 120, 121, 122, 48, 49, 50, 51, 52, 53, 54, 55, 56, 57])))
 (ZE (eBM joinD (eC (.str [])) (Zb (ZN (Zt (Zb (eOp addX (eC (.int 2)) (eOp modD (Za 0) (eC (.int 3)))) eNil)) (Zl 0) (fun _ => some true) (eOp ixD (Za 1) (eOp modD (eOp addX (eOp fdivD (Za 2) (eC (.int 3))) (eOp mulX (eC (.int 7)) (Za 0))) (eCB lenD (Zb (Za 1) eNil)))) 1 [1, 0]) eNil))))
noncomputable def Qb : List D -> Option D := run 2 f_QD
noncomputable def f_QG : DL.Env -> Option Out :=
 (Zd (XS 4 (XA (ZN (Zt (Zb (Za 2) eNil)) (Zl 0) (fun _ => some true) (eOp Y2 (ZT (Zb (eC .non) eNil)) (Za 1)) 1 [3])))
 (Zd (ZL (Zt (Zb (eC (.int 1)) (Zb (Za 2) eNil))) (Zl 5) (Zd (Y1 4 (Zh 6 (eOp modD (Zu 2 Z6 [] (Zb (Za 0) (Zb (eOp addX (Za 1) (Za 5)) eNil))) (eOp mulX (Za 5) (Za 3)))))
 (Zd (Z3 (xB (Ye (eOp ixD (eOp ixD (Za 4) (eOp fdivD (Za 6) (Za 3))) (eOp modD (Za 6) (Za 3))))) (Y1 4 (Zh 6 (eOp modD (eOp addX (Za 6) (eC (.int 1))) (eOp mulX (Za 5) (Za 3))))))
 (YL 4 (eOp fdivD (Za 6) (Za 3)) (eOp modD (Za 6) (Za 3)) (Za 5)))))
 (Zd (ZL (Zt (Zb (Za 2) eNil)) (Zl 5) (Zd (ZL (Zt (Zb (Za 3) eNil)) (Zl 7) (Zd (Y1 4 (Zh 8 (Zu 2 Z6 [] (Zb (Za 0) (Zb (eOp addX (eOp addX (eOp addX (Za 1) (Za 2)) (eOp mulX (Za 5) (Za 3))) (Za 7)) eNil)))))
 (sIf (Z5 (xB (Xw (eOp ixD (eOp ixD (Za 4) (Za 5)) (Za 7)))) (xB (eOp (Xi fun i j => decide (j < i)) (eOp modD (Za 8) (eC (.int 3))) (eC (.int 0))))) (YL 4 (Za 5) (Za 7) (eOp modD (eOp fdivD (Za 8) (eC (.int 3))) (Za 2))) sNext)))
 (sIf (xB (eOp eqD (eOp ixD (Za 4) (Za 5)) (eOp Y2 (ZT (Zb (eC .non) eNil)) (Za 3)))) (YL 4 (Za 5) (eOp modD (eOp fdivD (Zu 2 Z6 [] (Zb (Za 0) (Zb (eOp addX (Za 1) (Za 5)) eNil))) (eC (.int 5))) (Za 3)) (eOp modD (eOp fdivD (Zu 2 Z6 [] (Zb (Za 0) (Zb (eOp addX (Za 1) (Za 5)) eNil))) (eC (.int 7))) (Za 2))) sNext)))
 (ZE (Za 4)))))
noncomputable def Qc : List D -> Option D := run 9 f_QG
noncomputable def f_QC : DL.Env -> Option Out :=
 (ZE (eCB YG (Zb (ZN (Yo (Za 0)) (Zl 0) (fun _ => some true) (eCB YG (Zb (Za 0) eNil)) 1 []) eNil)))
noncomputable def XY : List D -> Option D := run 1 f_QC
noncomputable def f_QI : DL.Env -> Option Out :=
 (Zd (Zh 2 (ZN (Zt (Zb (eCB lenD (Zb (Za 0) eNil)) eNil)) (Zl 0) (fun _ => some true) (eOp mulX (eCB intD (Zb (eOp (inD true) (Za 0) (Za 1)) eNil)) (eC (.int 99))) 1 [1]))
 (Zd (ZL (Zt (Zb (eCB lenD (Zb (Za 0) eNil)) eNil)) (Zl 3) (ZL (Zt (Zb (eCB lenD (Zb (Za 0) eNil)) eNil)) (Zl 4) (ZL (Yo (eOp ixD (Za 0) (Za 4))) (Zl 5) (sIf (xB (Ye (Za 5))) (Vj 2 (Za 4) (eCB minLD (Zb (ZT (Zb (eOp ixD (Za 2) (Za 4)) (Zb (eOp addX (eOp ixD (Za 2) (Za 5)) (eC (.int 1))) eNil))) eNil))) sNext))))
 (ZE (Za 2))))
noncomputable def V6 : List D -> Option D := run 6 f_QI
noncomputable def f_QH : DL.Env -> Option Out :=
 (Zd (Zh 3 (Zu 2 V6 [] (Zb (Za 0) (Zb (Za 2) eNil))))
 (Zd (Zh 4 (eC (.str [])))
 (Zd (Zh 5 (eC (.int 0)))
 (Zd (Z3 (xB (eOp (Xi fun i j => decide (j < i)) (eOp ixD (Za 3) (Za 5)) (eC (.int 0)))) (Zd (Zh 6 (ZN (Zt (Zb (eCB lenD (Zb (Za 1) eNil)) eNil)) (Zl 0) (Z5 (xB (Ye (eOp ixD (eOp ixD (Za 1) (Za 2)) (Za 0)))) (xB (eOp eqD (eOp ixD (Za 3) (eOp ixD (eOp ixD (Za 1) (Za 2)) (Za 0))) (eOp subD (eOp ixD (Za 3) (Za 2)) (eC (.int 1)))))) (Za 0) 1 [0, 5, 3]))
 (Zd (Zh 4 (eOp addX (Za 4) (eOp ixD (Za 1) (eOp ixD (Za 6) (eC (.int 0))))))
 (Zh 5 (eOp ixD (eOp ixD (Za 0) (Za 5)) (eOp ixD (Za 6) (eC (.int 0))))))))
 (ZE (YY (Zb (Za 4) (Zb (Za 5) eNil))))))))
noncomputable def Qd : List D -> Option D := run 7 f_QH
noncomputable def f_QL : DL.Env -> Option Out :=
 (Zd (Zh 1 (Zu 1 Qb [] (Zb (Zu 2 Z6 [] (Zb (Za 0) (Zb (eC (.int 0)) eNil))) eNil)))
 (Zd (Zh 2 (eOp addX (eC (.int 1)) (eOp modD (Zu 2 Z6 [] (Zb (Za 0) (Zb (eC (.int 1)) eNil))) (eC (.int 7)))))
 (Zd (Zh 3 (Zu 4 Qc [] (Zb (Za 0) (Zb (eC (.int 3)) (Zb (Za 2) (Zb (eCB lenD (Zb (Za 1) eNil)) eNil))))))
 (Zd (Zh 4 (ZT (Zb (eOp modD (Zu 2 Z6 [] (Zb (Za 0) (Zb (eC (.int 2)) eNil))) (Za 2)) eNil)))
 (Zd (ZL (Zt (Zb (eOp addX (eOp addX (eC (.int 3)) (Za 2)) (eOp mulX (Za 2) (eCB lenD (Zb (Za 1) eNil)))) (Zb (eCB minD (Zb (eCB lenD (Zb (Za 0) eNil)) (Zb (eC (.int 60)) eNil))) eNil))) (Zl 5) (sIf (Z5 (xB (eOp (inD true) (eOp modD (eOp ixD (Za 0) (Za 5)) (Za 2)) (Za 4))) (xB (eOp eqD (eOp modD (eOp fdivD (eOp ixD (Za 0) (Za 5)) (eC (.int 7))) (eC (.int 3))) (eC (.int 1))))) (Xx 4 (eOp modD (eOp ixD (Za 0) (Za 5)) (Za 2))) sNext))
 (Zd (Zh 4 (eCB Vp (Zb (Za 4) eNil)))
 (Zd (Zh 6 (eCB V1 (Zb (Za 4) eNil)))
 (Zd (Zh 7 (Zu 2 V5 [] (Zb (Y0 "Rooms" 3 Vt [] (Zb (Za 1) (Zb (Zu 1 XY [] (Zb (Za 3) eNil)) eNil))) (Zb (Za 6) eNil))))
 (Zd (sIf (xOr (xB (eOp neD (Za 6) (Za 4))) (xOr (Ym (xB (Yy U6 (Za 7)))) (xB (eOp neD (eCB lenD (Zb (Za 7) eNil)) (eC (.int 2)))))) (ZE (eC (.bl false))) sNext)
 (Zd (sIf (xOr (Ym (xB (Yy U5 (eOp ixD (Za 7) (eC (.int 0)))))) (Ym (xB (Zu 1 Qa [] (Zb (eOp ixD (Za 7) (eC (.int 1))) eNil))))) (ZE (eC (.bl false))) sNext)
 (ZE (eOp eqD (Za 7) (Zu 3 Qd [] (Zb (Za 3) (Zb (Za 1) (Zb (Za 4) eNil))))))))))))))))
noncomputable def Qe : List D -> Option D := run 8 f_QL
end K33
namespace K33
open PySem PySem.Spec L2 DL
def top (i : Nat) : Stmt := PySem.Challenge.pw_grooveway_k33_leads_to_parts.main.body.getD i (.Pass ⟨0, 0, 0, 0⟩)
abbrev XZ : Stmt := top 0
abbrev XD : Stmt := top 7
abbrev XE : Stmt := Uo (top 9) 2
abbrev XF : Stmt := top 2
abbrev Xn : Stmt := Uo (top 9) 0
abbrev X0 : Stmt := Uo (top 9) 1
abbrev X1 : Stmt := Uo (top 9) 3
abbrev XG : Stmt := top 11
abbrev XH : Stmt := top 12
abbrev Xo : Stmt := top 13
abbrev Xp : Stmt := top 14
abbrev Xq : Stmt := top 15
abbrev Xr : Stmt := top 16
abbrev Xs : Stmt := top 17
abbrev YN : Stmt := top 18
theorem Zf9 : FnScope ["marks", "text"] ["marks", "text"] (Zp XD) := ⟨rfl, rfl, rfl, by decide +kernel, rfl, by decide +kernel, by decide +kernel⟩
theorem Zga : FnScope ["self", "room", "mark"] ["self", "room", "mark"] (Zp XE) := ⟨rfl, rfl, rfl, by decide +kernel, rfl, by decide +kernel, by decide +kernel⟩
theorem Zgb : FnScope ["rooms", "part", "rows", "order", "place", "room", "mark", "to"] ["rooms", "part"] (Zp XF) := ⟨rfl, rfl, rfl, by decide +kernel, rfl, by decide +kernel, by decide +kernel⟩
theorem Zgc : FnScope ["self", "marks", "ways"] ["self", "marks", "ways"] (Zp Xn) := ⟨rfl, rfl, rfl, by decide +kernel, rfl, by decide +kernel, by decide +kernel⟩
theorem Zgd : FnScope ["script", "k"] ["script", "k"] (Zp XG) := ⟨rfl, rfl, rfl, by decide +kernel, rfl, by decide +kernel, by decide +kernel⟩
theorem Zge : FnScope ["found"] ["found"] (Zp XH) := ⟨rfl, rfl, rfl, by decide +kernel, rfl, by decide +kernel, by decide +kernel⟩
theorem Zgf : FnScope ["cell", "signs"] ["cell"] (Zp Xo) := ⟨rfl, rfl, rfl, by decide +kernel, rfl, by decide +kernel, by decide +kernel⟩
theorem Zgg : FnScope ["script", "at", "many", "size", "ways", "room", "slot", "k", "cell"] ["script", "at", "many", "size"] (Zp Xp) := ⟨rfl, rfl, rfl, by decide +kernel, rfl, by decide +kernel, by decide +kernel⟩
theorem Zgh : FnScope ["ways"] ["ways"] (Zp Xq) := ⟨rfl, rfl, rfl, by decide +kernel, rfl, by decide +kernel, by decide +kernel⟩
theorem Zgi : FnScope ["ways", "part", "off", "turn", "here", "there"] ["ways", "part"] (Zp Xr) := ⟨rfl, rfl, rfl, by decide +kernel, rfl, by decide +kernel, by decide +kernel⟩
theorem Zgj : FnScope ["ways", "marks", "part", "off", "row", "here", "nearer"] ["ways", "marks", "part"] (Zp Xs) := ⟨rfl, rfl, rfl, by decide +kernel, rfl, by decide +kernel, by decide +kernel⟩
theorem Zgk : FnScope ["script", "marks", "many", "ways", "part", "k", "handed", "found"] ["script"] (Zp YN) := ⟨rfl, rfl, rfl, by decide +kernel, rfl, by decide +kernel, by decide +kernel⟩
structure Adr where
 a__wall : Addr
 d__wall : FuncData
 a_QK : Addr
 d_QK : FuncData
 a_QF : Addr
 d_QF : FuncData
 a_QJ : Addr
 d_QJ : FuncData
 a_QE : Addr
 d_QE : FuncData
 a_Rooms_many : Addr
 d_Rooms_many : FuncData
 a_Rooms_walked : Addr
 d_Rooms_walked : FuncData
 a_QB : Addr
 d_QB : FuncData
 a_QA : Addr
 d_QA : FuncData
 a_QD : Addr
 d_QD : FuncData
 a_QG : Addr
 d_QG : FuncData
 a_QC : Addr
 d_QC : FuncData
 a_QI : Addr
 d_QI : FuncData
 a_QH : Addr
 d_QH : FuncData
 a_QL : Addr
 d_QL : FuncData
 c_Rooms : Addr
def Adr.c (t : Adr) : String -> Addr := fun c => if c = "Rooms" then t.c_Rooms else 0
structure Txt (K : PySem.W.Frag) (mg : Str -> Option Value) (t : Adr) : Prop where
 f__wall : FunX K "_wall" "_wall" XZ t.a__wall t.d__wall
 b__wall : Binds K t.d__wall ["k"] []
 g__wall : mg "_wall" = some (.ref t.a__wall)
 k__wall : PySem.W.keepIn K (.ref t.a__wall) = true
 f_QK : FunX K "is_mark" "is_mark" XD t.a_QK t.d_QK
 b_QK : Binds K t.d_QK ["marks", "text"] []
 g_QK : mg "is_mark" = some (.ref t.a_QK)
 k_QK : PySem.W.keepIn K (.ref t.a_QK) = true
 f_QF : FunX K "led" "Rooms.led" XE t.a_QF t.d_QF
 b_QF : Binds K t.d_QF ["self", "room", "mark"] []
 k_QF : PySem.W.keepIn K (.ref t.a_QF) = true
 f_QJ : FunX K "lead_to" "lead_to" XF t.a_QJ t.d_QJ
 b_QJ : Binds K t.d_QJ ["rooms", "part"] []
 g_QJ : mg "lead_to" = some (.ref t.a_QJ)
 k_QJ : PySem.W.keepIn K (.ref t.a_QJ) = true
 f_QE : FunX K "__init__" "Rooms.__init__" Xn t.a_QE t.d_QE
 b_QE : Binds K t.d_QE ["self", "marks", "ways"] []
 k_QE : PySem.W.keepIn K (.ref t.a_QE) = true
 f_Rooms_many : FunX K "many" "Rooms.many" X0 t.a_Rooms_many t.d_Rooms_many
 b_Rooms_many : Binds K t.d_Rooms_many ["self"] []
 k_Rooms_many : PySem.W.keepIn K (.ref t.a_Rooms_many) = true
 f_Rooms_walked : FunX K "walked" "Rooms.walked" X1 t.a_Rooms_walked t.d_Rooms_walked
 b_Rooms_walked : Binds K t.d_Rooms_walked ["self", "room", "row"] []
 k_Rooms_walked : PySem.W.keepIn K (.ref t.a_Rooms_walked) = true
 f_QB : FunX K "_law_cell_at" "_law_cell_at" XG t.a_QB t.d_QB
 b_QB : Binds K t.d_QB ["script", "k"] []
 g_QB : mg "_law_cell_at" = some (.ref t.a_QB)
 k_QB : PySem.W.keepIn K (.ref t.a_QB) = true
 f_QA : FunX K "_law_is_whole" "_law_is_whole" XH t.a_QA t.d_QA
 b_QA : Binds K t.d_QA ["found"] []
 g_QA : mg "_law_is_whole" = some (.ref t.a_QA)
 k_QA : PySem.W.keepIn K (.ref t.a_QA) = true
 f_QD : FunX K "_law_marks" "_law_marks" Xo t.a_QD t.d_QD
 b_QD : Binds K t.d_QD ["cell"] []
 g_QD : mg "_law_marks" = some (.ref t.a_QD)
 k_QD : PySem.W.keepIn K (.ref t.a_QD) = true
 f_QG : FunX K "_law_ways" "_law_ways" Xp t.a_QG t.d_QG
 b_QG : Binds K t.d_QG ["script", "at", "many", "size"] []
 g_QG : mg "_law_ways" = some (.ref t.a_QG)
 k_QG : PySem.W.keepIn K (.ref t.a_QG) = true
 f_QC : FunX K "_law_handed" "_law_handed" Xq t.a_QC t.d_QC
 b_QC : Binds K t.d_QC ["ways"] []
 g_QC : mg "_law_handed" = some (.ref t.a_QC)
 k_QC : PySem.W.keepIn K (.ref t.a_QC) = true
 f_QI : FunX K "_law_off" "_law_off" Xr t.a_QI t.d_QI
 b_QI : Binds K t.d_QI ["ways", "part"] []
 g_QI : mg "_law_off" = some (.ref t.a_QI)
 k_QI : PySem.W.keepIn K (.ref t.a_QI) = true
 f_QH : FunX K "_law_due" "_law_due" Xs t.a_QH t.d_QH
 b_QH : Binds K t.d_QH ["ways", "marks", "part"] []
 g_QH : mg "_law_due" = some (.ref t.a_QH)
 k_QH : PySem.W.keepIn K (.ref t.a_QH) = true
 f_QL : FunX K "law" "law" YN t.a_QL t.d_QL
 b_QL : Binds K t.d_QL ["script"] []
 g_QL : mg "law" = some (.ref t.a_QL)
 k_QL : PySem.W.keepIn K (.ref t.a_QL) = true
 n_ValueError : mg "ValueError" = none
 n_bool : mg "bool" = none
 n_int : mg "int" = none
 n_isinstance : mg "isinstance" = none
 n_len : mg "len" = none
 n_list : mg "list" = none
 n_min : mg "min" = none
 n_range : mg "range" = none
 n_sorted : mg "sorted" = none
 n_str : mg "str" = none
 n_tuple : mg "tuple" = none
 g_Rooms : mg "Rooms" = some (.ref t.c_Rooms)
 cl_Rooms : Cls K t.c_Rooms
 ci_Rooms : ClsI K t.c_Rooms
 mk_Rooms : Mk K t.c_Rooms t.a_QE
 fl_marks : UU K ⟨t.c, K⟩ Y6 "marks"
 fl_ways : UU K ⟨t.c, K⟩ XX "ways"
 me_Rooms_led : Meth K t.c_Rooms (Str.ofString "led") t.a_QF
 isi_bool : IsiOk K ⟨t.c, K⟩ (.type "bool") Jx
 isi_int : IsiOk K ⟨t.c, K⟩ (.type "int") Jy
 isi_str : IsiOk K ⟨t.c, K⟩ (.type "str") U5
 isi_tuple : IsiOk K ⟨t.c, K⟩ (.type "tuple") U6
end K33
namespace K33
open PySem PySem.Spec PyProof.Rows L2 DL
theorem nd0 : List.Nodup (["rooms", "part", "rows", "order", "place", "room", "mark", "to"] : List Str) := by decide +kernel
theorem nd1 : List.Nodup (["own"] : List Str) := by decide +kernel
theorem nd2 : List.Nodup (["cell", "signs"] : List Str) := by decide +kernel
theorem nd3 : List.Nodup (["k", "signs", "cell"] : List Str) := by decide +kernel
theorem nd4 : List.Nodup (["script", "at", "many", "size", "ways", "room", "slot", "k", "cell"] : List Str) := by decide +kernel
theorem nd5 : List.Nodup (["room", "size"] : List Str) := by decide +kernel
theorem nd6 : List.Nodup (["row"] : List Str) := by decide +kernel
theorem nd7 : List.Nodup (["ways", "part", "off", "turn", "here", "there"] : List Str) := by decide +kernel
theorem nd8 : List.Nodup (["room", "part"] : List Str) := by decide +kernel
theorem nd9 : List.Nodup (["ways", "marks", "part", "off", "row", "here", "nearer"] : List Str) := by decide +kernel
theorem Zg6 : List.Nodup (["k", "ways", "here", "off"] : List Str) := by decide +kernel
theorem XI : List.Nodup (["script", "marks", "many", "ways", "part", "k", "handed", "found"] : List Str) := by decide +kernel
section
variable {P : Program} {w : World} {K : PySem.W.Frag} {mg : Str -> Option Value} {base : Heap} {t : Adr}
theorem Zgl (T : Txt K mg t) : FnOk P w K mg base CX0 1 t.a_QK t.d_QK ["marks", "text"] (spD ⟨t.c, K⟩ 2 U7) := by
 refine YI (φ := f_QK) T.f_QK Zf9 (by conv => lhs; whnf) (by conv => lhs; whnf) (fun cdv A outer s H E hr => ?_) rfl rfl
 refine ⟨_, (ZC (Yi (J8 (Uk (VP (cA := ⟨t.c, K⟩) (hr.units)) (Z0 (YE (K := K)) (by rfl) T.n_len boot_len (Zf (pv 1) Zk)) Zw (YS _)) (J7 (Uk (Zf3 (K := K)) (pv 1) (pv 0) (by rfl)))))), [], ?_⟩
 unfold f_QK
 exact (Yt (Zdu (Ze VQ (Yn YF (Zg (Zc 1 (by rfl)) Zn)) (Zr (d := (.int 1)) (by rfl) (by rfl))) (Ze UG (Zc 1 (by rfl)) (Zc 0 (by rfl)))))
theorem Zgm (T : Txt K mg t) : FnOk P w K mg base CX0 2 t.a_QF t.d_QF ["self", "room", "mark"] (spD ⟨t.c, K⟩ 3 U8) := by
 have G_QK := (Zgl (P := P) (w := w) (base := base) T).mono (k := 1) (by decide)
 refine YI (φ := f_QF) T.f_QF Zga (by conv => lhs; whnf) (by conv => lhs; whnf) (fun cdv A outer s H E hr => ?_) rfl rfl
 refine ⟨_, (Zx (Xb (Ue (Ub (Yc (G_QK) hr (by rfl) T.g_QK T.k_QK T.b_QK .nil Z4 (Zf (Uw (K := K) (pv 0)) (Zf (pv 2) Zk))))) (ZC ZcL) Xa)
 (ZC (Yi (Zz (ZA (K := K)) (Zz (ZA (K := K)) (Uw (K := K) (pv 0)) (pv 1) (fun _ _ => rfl)) (Uy (K := K) PySem.F.plainAttrs_str PySem.F.slot_str_index PySem.F.type_str_index ZcY (Uw (K := K) (pv 0)) (Zf (pv 2) Zk)) (fun _ _ => rfl))))), [], ?_⟩
 unfold f_QF
 exact (ZG (XQ (UH (YW (Yg [] (by rfl) (Zg (UV T.fl_marks (Zc 0 (by rfl))) (Zg (Zc 2 (by rfl)) Zn))))) ZcW XO)
 (Yt (Ze ZB (Ze ZB (UV T.fl_ways (Zc 0 (by rfl))) (Zc 1 (by rfl))) (ZeW ZcZ (UV T.fl_marks (Zc 0 (by rfl))) (Zg (Zc 2 (by rfl)) Zn)))))
theorem Zgn (T : Txt K mg t) : FnOk P w K mg base CX0 3 t.a_QJ t.d_QJ ["rooms", "part"] (spD ⟨t.c, K⟩ 2 V5) := by
 have G_QF := (Zgm (P := P) (w := w) (base := base) T).mono (k := 2) (by decide)
 refine YI (φ := f_QJ) T.f_QJ Zgb (by conv => lhs; whnf) (by conv => lhs; whnf) (fun cdv A outer s H E hr => ?_) rfl rfl
 refine ⟨_, (Zx (ZP (i := 2) nd0 (by rfl) (by first | exact Or.inl rfl | exact Or.inr rfl) (Zd0 (ZcV Zw (Us [] (by decide +kernel)) ZdZ) (by rfl) (by rfl) (List.cons_ne_nil _ _) (Nat.le_of_ble_eq_true rfl)))
 (Zx (ZP (i := 3) nd0 (by rfl) (by first | exact Or.inl rfl | exact Or.inr rfl) (Vx (Zf Zw Zk)))
 (Zx (ZP (i := 4) nd0 (by rfl) (by first | exact Or.inl rfl | exact Or.inr rfl) Zw)
 (Zx ((Qv PassesOwn.never (YT (QQ (K := K)) (Zz (ZA (K := K)) (pv 3) (pv 4) (fun _ _ => rfl)) (pv 1) (by rfl)) (Zx (ZP (i := 5) nd0 (by rfl) (by first | exact Or.inl rfl | exact Or.inr rfl) (Zz (ZA (K := K)) (pv 3) (pv 4) (fun _ _ => rfl)))
 (Zx ((Xu PassesOwn.never (by rfl) (Uv (K := K) (Uw (K := K) (pv 0))) (Yj (i := 6) nd0 (by rfl) (by first | exact Or.inl rfl | exact Or.inr rfl)) (Zx (ZP (i := 7) nd0 (by rfl) (by first | exact Or.inl rfl | exact Or.inr rfl) (Zc0 (cA := ⟨t.c, K⟩) (tab := U9) (m := "led") ⟨⟨t.a_QF, t.d_QF, ["self", "room", "mark"], T.cl_Rooms, T.me_Rooms_led, G_QF, T.b_QF⟩, trivial⟩ hr (pv 0) (Zf (pv 5) (Zf (pv 6) Zk))))
 (ZC (Xb (PW.pt (Ud (X5 (Ua (pv 7))) (Uc (X5 (Zcs (UZ hr.units) (pv 7) (pv 2)))))) (Zx (ZdY (UZ hr.units) (pv 2) (pv 7) (Zq (Z8 (K := K)) (ZbM (UZ hr.units) (pv 2) (pv 5) (fun _ _ => rfl)) (pv 6)) (by rfl))
 (ZC (ZbE (Uy (K := K) PySem.F.plainAttrs_list PySem.F.slot_list_append PySem.F.type_list_append ZaE (pv 3) (Zf (pv 7) Zk))))) Xa)))))
 (ZC (ZP (i := 4) nd0 (by rfl) (by first | exact Or.inl rfl | exact Or.inr rfl) (Zq (Z8 (K := K)) (pv 4) Zw)))))))
 (ZC (Yi (Zdm (Zf (ZbM (UZ hr.units) (pv 2) (Zz (ZA (K := K)) (pv 3) (pv 4) (fun _ _ => rfl)) (fun _ _ => rfl)) (Zf (Zz (ZA (K := K)) (pv 3) (pv 4) (fun _ _ => rfl)) Zk))))))))), [], ?_⟩
 unfold f_QJ
 exact (ZG (show VS _ _ [2] _ _ _ _ from Zej 2 (Zc9 (Zr (d := (.int 0)) (by rfl) (by rfl)) (Zr (d := (.str [])) (by rfl) (by rfl))) (by rfl) (by rfl) (by rfl) (by rfl))
 (ZG (show VS _ _ [2, 3] _ _ _ _ from (UN 3 (VW (Zg (Zr (d := (.int 0)) (by rfl) (by rfl)) Zn)) (by rfl) (by rfl) (by rfl) (by rfl)))
 (ZG (show VS _ _ [2, 3] _ _ _ _ from (ZY 4 (Zr (d := (.int 0)) (by rfl) (by rfl)) (by rfl) (by rfl) (by rfl) (by rfl)))
 (ZG (Za8 (YX (Ze UG (Ze ZB (XM 3 (by rfl)) (Zc 4 (by rfl))) (Zc 1 (by rfl)))) (ZG (show VS _ _ [2, 3] _ _ _ _ from (ZY 5 (Ze ZB (XM 3 (by rfl)) (Zc 4 (by rfl))) (by rfl) (by rfl) (by rfl) (by rfl)))
 (ZG (VZ (UP (UV T.fl_marks (Zc 0 (by rfl)))) (YH 6 (by rfl) (by rfl)) (ZG (show VS _ _ [2, 3] _ _ _ _ from (ZY 7 (Zd8 (Zc 0 (by rfl)) (Zg (Zc 5 (by rfl)) (Zg (Zc 6 (by rfl)) Zn))) (by rfl) (by rfl) (by rfl) (by rfl)))
 (XQ (UI (YW (UJ (Zc 7 (by rfl)))) (YW (Zcx (Zc 7 (by rfl)) (XM 2 (by rfl))))) (ZG (Zek 2 (by rfl) (Ze Z9 (ZbX (Or.inr rfl) (XM 2 (by rfl)) (Zc 5 (by rfl))) (Zc 6 (by rfl))) (Zc 7 (by rfl)))
 (Zdx 3 (by rfl) (Zc 7 (by rfl)))) XO)))
 (show VS _ _ [2, 3] _ _ _ _ from (ZY 4 (Ze Z9 (Zc 4 (by rfl)) (Zr (d := (.int 1)) (by rfl) (by rfl))) (by rfl) (by rfl) (by rfl) (by rfl))))))
 (VS.frz (ow1 := [2]) 3 (VS.frz (ow1 := []) 2 (Yt (Zdw (Zg (ZbX (Or.inl rfl) (Zc 2 (by rfl)) (Ze ZB (Zc 3 (by rfl)) (Zc 4 (by rfl)))) (Zg (Ze ZB (Zc 3 (by rfl)) (Zc 4 (by rfl))) Zn)))) (by rfl) (by rfl) (by rfl) (by rfl)) (by rfl) (by rfl) (by rfl) (by rfl))))))
theorem Zgo (T : Txt K mg t) : FnOk P w K mg base CX0 1 t.a_QE t.d_QE ["self", "marks", "ways"] (spI ⟨t.c, K⟩ 3 Vt) := by
 refine Zf7 (φ := f_QE) T.f_QE Zgc (by conv => lhs; whnf) (by conv => lhs; whnf) (fun cdv A outer s H E self hr => ?_) rfl rfl
 refine ⟨_, (Zx (Zdl (pv 0) (pv 1) (by rfl))
 (ZC (Zdl (pv 0) (X7 (Ux (K := K)) (by rfl) T.n_tuple boot_tuple (Zf (QM (by rfl) (CompSc.mk' (tn := ["own"]) (cn := []) (js := []) (osc := Zp Xn) (oN := ["self", "marks", "ways"]) (by rfl) (by rfl) (by rfl) (by decide +kernel)) (Uv (K := K) (pv 2)) (fun C s₂ H₂ fp => Yj (i := 0) nd1 (by rfl) (by first | exact Or.inl rfl | exact Or.inr rfl)) (fun C s₂ H₂ fp => VL) (fun C s₂ H₂ fp => (X7 (Ux (K := K)) (by rfl) T.n_tuple boot_tuple (Zf (pv 0) Zk)))) Zk)) (by rfl)))), ?_⟩
 unfold f_QE
 exact (ZG (Zdy 0 (by rfl) T.fl_marks (Zc 1 (by rfl)))
 (Zdy 0 (by rfl) T.fl_ways (UK (Zg (VF.cl (V0 (by rfl) (UP (Zc 2 (by rfl))) (YH 0 (by rfl) (by rfl)) VR (UK (Zg (Zc 0 (by rfl)) Zn)))) Zn))))
theorem Ze4 (T : Txt K mg t) : FnOk P w K mg base CX0 1 t.a_QB t.d_QB ["script", "k"] (spD ⟨t.c, K⟩ 2 Z6) := by
 refine YI (φ := f_QB) T.f_QB Zgd (by conv => lhs; whnf) (by conv => lhs; whnf) (fun cdv A outer s H E hr => ?_) rfl rfl
 refine ⟨_, (Zx (Xb (YT ZfZ (pv 1) (Z0 (YE (K := K)) (by rfl) T.n_len boot_len (Zf (pv 0) Zk)) (YS _)) (ZC (Yi (Zz (ZA (K := K)) (pv 0) (pv 1) (fun _ _ => rfl)))) Xa)
 (ZC (Yi Zw))), [], ?_⟩
 unfold f_QB
 exact (ZG (XQ (YX (Ze QW (Zc 1 (by rfl)) (Yn YF (Zg (Zc 0 (by rfl)) Zn)))) (Yt (Ze ZB (Zc 0 (by rfl)) (Zc 1 (by rfl)))) XO)
 (Yt (Zr (d := (.int 0)) (by rfl) (by rfl))))
theorem Zgp (T : Txt K mg t) : FnOk P w K mg base CX0 1 t.a_QA t.d_QA ["found"] (spD ⟨t.c, K⟩ 1 Qa) := by
 refine YI (φ := f_QA) T.f_QA Zge (by conv => lhs; whnf) (by conv => lhs; whnf) (fun cdv A outer s H E hr => ?_) rfl rfl
 refine ⟨_, (ZC (Yi (J8 (Z0 (UR (K := K)) (by rfl) T.n_isinstance boot_isinstance (Zf (pv 0) (Zf (V9 (v := .ty "int") (by rfl) T.n_int boot_int rfl) Zk))) (J7 (Zfe (Z0 (UR (K := K)) (by rfl) T.n_isinstance boot_isinstance (Zf (pv 0) (Zf (V9 (v := .ty "bool") (by rfl) T.n_bool boot_bool rfl) Zk)))))))), [], ?_⟩
 unfold f_QA
 exact (Yt (Zdu (UT (fun _ h => h) T.isi_int (Zc 0 (by rfl))) (Zfq (UT (fun _ h => h) T.isi_bool (Zc 0 (by rfl))))))
theorem Zgq (T : Txt K mg t) : FnOk P w K mg base CX0 1 t.a_QD t.d_QD ["cell"] (spD ⟨t.c, K⟩ 1 Qb) := by
 refine YI (φ := f_QD) T.f_QD Zgf (by conv => lhs; whnf) (by conv => lhs; whnf) (fun cdv A outer s H E hr => ?_) rfl rfl
 refine ⟨_, (Zx (ZP (i := 1) nd2 (by rfl) (by first | exact Or.inl rfl | exact Or.inr rfl) (Us [97, 98, 99, 100, 101, 102, 103, 104, 105, 106, 107, 108, 109, 110, 111, 112, 113, 114, 115, 116, 117, 118, 119, 120, 121, 122, 48, 49, 50, 51, 52, 53, 54, 55, 56, 57] (by decide +kernel)))
 (ZC (Yi (Uy (K := K) PySem.F.plainAttrs_str PySem.F.slot_str_join PySem.F.type_str_join (Zd5 (K := K)) (Us [] (by decide +kernel)) (Zf (QM (by rfl) (CompSc.mk' (tn := ["k"]) (cn := ["signs", "cell"]) (js := [1, 0]) (osc := Zp Xo) (oN := ["cell", "signs"]) (by rfl) (by rfl) (by rfl) (by decide +kernel)) (Xt (by rfl) T.n_range (Zf (Zq (Z8 (K := K)) Zw (Zq Yb (pv 0) Zw)) Zk)) (fun C s₂ H₂ fp => Yj (i := 0) nd3 (by rfl) (by first | exact Or.inl rfl | exact Or.inr rfl)) (fun C s₂ H₂ fp => VL) (fun C s₂ H₂ fp => (Zz (ZA (K := K)) (pv 1) (Zq Yb (Zq (Z8 (K := K)) (Zq XJ (pv 2) Zw) (Zq (Xy (K := K)) Zw (pv 0))) (Z0 (YE (K := K)) (by rfl) T.n_len boot_len (Zf (pv 1) Zk))) (fun _ _ => rfl)))) Zk))))), [], ?_⟩
 unfold f_QD
 exact (ZG (show VS _ _ [] _ _ _ _ from (ZY 1 (Zr (d := (.str [97, 98, 99, 100, 101, 102, 103, 104, 105, 106, 107, 108, 109, 110, 111, 112, 113, 114, 115, 116, 117, 118, 119, 120, 121, 122, 48, 49, 50, 51, 52, 53, 54, 55, 56, 57])) (by rfl) (by rfl)) (by rfl) (by rfl) (by rfl) (by rfl)))
 (Yt (ZeW Zd6 (Zr (d := (.str [])) (by rfl) (by rfl)) (Zg (VF.cl (V0 (by rfl) (Vg (Zg (Ze Z9 (Zr (d := (.int 2)) (by rfl) (by rfl)) (Ze Yd (Zc 0 (by rfl)) (Zr (d := (.int 3)) (by rfl) (by rfl)))) Zn) Xj) (YH 0 (by rfl) (by rfl)) VR (Ze ZB (Zc 1 (by rfl)) (Ze Yd (Ze Z9 (Ze XN (Zc 2 (by rfl)) (Zr (d := (.int 3)) (by rfl) (by rfl))) (Ze Vi (Zr (d := (.int 7)) (by rfl) (by rfl)) (Zc 0 (by rfl)))) (Yn YF (Zg (Zc 1 (by rfl)) Zn)))))) Zn))))
theorem Zgr (T : Txt K mg t) : FnOk P w K mg base CX0 2 t.a_QG t.d_QG ["script", "at", "many", "size"] (spD ⟨t.c, K⟩ 4 Qc) := by
 have G_QB := (Ze4 (P := P) (w := w) (base := base) T).mono (k := 1) (by decide)
 refine YI (φ := f_QG) T.f_QG Zgg (by conv => lhs; whnf) (by conv => lhs; whnf) (fun cdv A outer s H E hr => ?_) rfl rfl
 refine ⟨_, (Zx (Q8 (i := 4) nd4 (by rfl) (by rfl) (by rfl) (CompSc.mk' (tn := ["room"]) (cn := ["size"]) (js := [3]) (osc := Zp Xp) (oN := ["script", "at", "many", "size", "ways", "room", "slot", "k", "cell"]) (by rfl) (by rfl) (by rfl) (by decide +kernel)) (Xt (by rfl) T.n_range (Zf (pv 2) Zk)) (fun C s₂ H₂ fp => Yj (i := 0) nd5 (by rfl) (by first | exact Or.inl rfl | exact Or.inr rfl)) (fun C s₂ H₂ fp => VL) (fun C s₂ H₂ fp => (Zq (Xy (K := K)) (Vx (Zf JV Zk)) (pv 1))))
 (Zx (Xu PassesOwn.never (by rfl) (Zax (by rfl) T.n_range (Zf Zw (Zf (pv 2) Zk))) (Yj (i := 5) nd4 (by rfl) (by first | exact Or.inl rfl | exact Or.inr rfl)) (Zx (ZP (i := 6) nd4 (by rfl) (by first | exact Or.inl rfl | exact Or.inr rfl) (Zq Yb (Yc (G_QB) hr (by rfl) T.g_QB T.k_QB T.b_QB .nil Z4 (Zf (pv 0) (Zf (Zq (Z8 (K := K)) (pv 1) (pv 5)) Zk))) (Zq (Xy (K := K)) (pv 5) (pv 3))))
 (Zx (Qv PassesOwn.never (X5 (Ua (Zz (ZA (K := K)) (Zz (ZA (K := K)) (pv 4) (Zq XJ (pv 6) (pv 3)) (fun _ _ => rfl)) (Zq Yb (pv 6) (pv 3)) (fun _ _ => rfl)))) (ZC (ZP (i := 6) nd4 (by rfl) (by first | exact Or.inl rfl | exact Or.inr rfl) (Zq Yb (Zq (Z8 (K := K)) (pv 6) Zw) (Zq (Xy (K := K)) (pv 5) (pv 3))))))
 (ZC (Uh (pv 5) (Ug (Zz (ZA (K := K)) (pv 4) (Zq XJ (pv 6) (pv 3)) (fun _ _ => rfl)) (Zq Yb (pv 6) (pv 3)) Um))))))
 (Zx (Xu PassesOwn.never (by rfl) (Xt (by rfl) T.n_range (Zf (pv 2) Zk)) (Yj (i := 5) nd4 (by rfl) (by first | exact Or.inl rfl | exact Or.inr rfl)) (Zx (Xu PassesOwn.never (by rfl) (Xt (by rfl) T.n_range (Zf (pv 3) Zk)) (Yj (i := 7) nd4 (by rfl) (by first | exact Or.inl rfl | exact Or.inr rfl)) (Zx (ZP (i := 8) nd4 (by rfl) (by first | exact Or.inl rfl | exact Or.inr rfl) (Yc (G_QB) hr (by rfl) T.g_QB T.k_QB T.b_QB .nil Z4 (Zf (pv 0) (Zf (Zq (Z8 (K := K)) (Zq (Z8 (K := K)) (Zq (Z8 (K := K)) (pv 1) (pv 2)) (Zq (Xy (K := K)) (pv 5) (pv 3))) (pv 7)) Zk))))
 (ZC (Xb (PW.pt (Ud (X5 (Zfd (Zz (ZA (K := K)) (Zz (ZA (K := K)) (pv 4) (pv 5) (fun _ _ => rfl)) (pv 7) (fun _ _ => rfl)))) (Uc (YT ZeI (Zq Yb (pv 8) Zw) Zw (YS _))))) (ZC (Uh (Zq Yb (Zq XJ (pv 8) Zw) (pv 2)) (Ug (Zz (ZA (K := K)) (pv 4) (pv 5) (fun _ _ => rfl)) (pv 7) Um))) Xa))))
 (ZC (Xb (YT (VP (cA := ⟨t.c, K⟩) (hr.units)) (Zz (ZA (K := K)) (pv 4) (pv 5) (fun _ _ => rfl)) (Zq (Xy (K := K)) (Vx (Zf JV Zk)) (pv 3)) (YS _)) (ZC (Uh (Zq Yb (Zq XJ (Yc (G_QB) hr (by rfl) T.g_QB T.k_QB T.b_QB .nil Z4 (Zf (pv 0) (Zf (Zq (Z8 (K := K)) (pv 1) (pv 5)) Zk))) Zw) (pv 2)) (Ug (Zz (ZA (K := K)) (pv 4) (pv 5) (fun _ _ => rfl)) (Zq Yb (Zq XJ (Yc (G_QB) hr (by rfl) T.g_QB T.k_QB T.b_QB .nil Z4 (Zf (pv 0) (Zf (Zq (Z8 (K := K)) (pv 1) (pv 5)) Zk))) Zw) (pv 3)) Um))) Xa))))
 (ZC (Yi (pv 4)))))), [], ?_⟩
 unfold f_QG
 exact (Zfy 4 (by rfl) (by rfl) (Zc5 (by rfl) (Vg (Zg (Zc 2 (by rfl)) Zn) Xj) (YH 0 (by rfl) (by rfl)) VR (ZdA (VF.cl (VW (Zg (Zr (d := .non) (by rfl) (by rfl)) Zn))) (Zc 1 (by rfl))))
 (Vm (Ja 5 (by decide) (by rfl) (by rfl) (Zc2 (Zg (Zr (d := (.int 1)) (by rfl) (by rfl)) (Zg (Zc 2 (by rfl)) Zn)) ZgV) (Vm (show VM _ _ [] _ _ _ _ _ from Jb (fun _ => (show VS _ _ [] _ _ _ _ from (ZY 6 (Ze Yd (Yg [] (by rfl) (Zg (Zc 0 (by rfl)) (Zg (Ze Z9 (Zc 1 (by rfl)) (Zc 5 (by rfl))) Zn))) (Ze Vi (Zc 5 (by rfl)) (Zc 3 (by rfl)))) (by rfl) (by rfl) (by rfl) (by rfl)))) (by rfl))
 (Vm (Zc3 (YW (UJ (Ze ZB (Ze ZB (Zc 4 (by rfl)) (Ze XN (Zc 6 (by rfl)) (Zc 3 (by rfl)))) (Ze Yd (Zc 6 (by rfl)) (Zc 3 (by rfl)))))) (show VM _ _ [] _ _ _ _ _ from Jb (fun _ => (show VS _ _ [] _ _ _ _ from (ZY 6 (Ze Yd (Ze Z9 (Zc 6 (by rfl)) (Zr (d := (.int 1)) (by rfl) (by rfl))) (Ze Vi (Zc 5 (by rfl)) (Zc 3 (by rfl)))) (by rfl) (by rfl) (by rfl) (by rfl)))) (by rfl)))
 (Jc (Zc 5 (by rfl)) (Ze XN (Zc 6 (by rfl)) (Zc 3 (by rfl))) (Ze Yd (Zc 6 (by rfl)) (Zc 3 (by rfl)))))))
 (Vm (Ja 5 (by decide) (by rfl) (by rfl) (Zbc (Zg (Zc 2 (by rfl)) Zn) Xj) (Vm (Ja 7 (by decide) (by rfl) (by rfl) (Zbc (Zg (Zc 3 (by rfl)) Zn) Xj) (Vm (show VM _ _ [] _ _ _ _ _ from Jb (fun _ => (show VS _ _ [] _ _ _ _ from (ZY 8 (Yg [] (by rfl) (Zg (Zc 0 (by rfl)) (Zg (Ze Z9 (Ze Z9 (Ze Z9 (Zc 1 (by rfl)) (Zc 2 (by rfl))) (Ze Vi (Zc 5 (by rfl)) (Zc 3 (by rfl)))) (Zc 7 (by rfl))) Zn))) (by rfl) (by rfl) (by rfl) (by rfl)))) (by rfl))
 (Ze2 (UI (YW (Zfr (Ze ZB (Ze ZB (Zc 4 (by rfl)) (Zc 5 (by rfl))) (Zc 7 (by rfl))))) (YX (Ze QW (Ze Yd (Zc 8 (by rfl)) (Zr (d := (.int 3)) (by rfl) (by rfl))) (Zr (d := (.int 0)) (by rfl) (by rfl))))) (Jc (Ze Yd (Ze XN (Zc 8 (by rfl)) (Zr (d := (.int 3)) (by rfl) (by rfl))) (Zc 2 (by rfl))) (Zc 5 (by rfl)) (Zc 7 (by rfl))) ZbT)))
 (Ze2 (YX (Ze VQ (Ze ZB (Zc 4 (by rfl)) (Zc 5 (by rfl))) (VF.cl (ZdA (VF.cl (VW (Zg (Zr (d := .non) (by rfl) (by rfl)) Zn))) (Zc 3 (by rfl)))))) (Jc (Ze Yd (Ze XN (Yg [] (by rfl) (Zg (Zc 0 (by rfl)) (Zg (Ze Z9 (Zc 1 (by rfl)) (Zc 5 (by rfl))) Zn))) (Zr (d := (.int 7)) (by rfl) (by rfl))) (Zc 2 (by rfl))) (Zc 5 (by rfl)) (Ze Yd (Ze XN (Yg [] (by rfl) (Zg (Zc 0 (by rfl)) (Zg (Ze Z9 (Zc 1 (by rfl)) (Zc 5 (by rfl))) Zn))) (Zr (d := (.int 5)) (by rfl) (by rfl))) (Zc 3 (by rfl)))) ZbT)))
 (Zfx (Zc 4 (by rfl))))))
theorem Zgs (T : Txt K mg t) : FnOk P w K mg base CX0 1 t.a_QC t.d_QC ["ways"] (spD ⟨t.c, K⟩ 1 XY) := by
 refine YI (φ := f_QC) T.f_QC Zgh (by conv => lhs; whnf) (by conv => lhs; whnf) (fun cdv A outer s H E hr => ?_) rfl rfl
 refine ⟨_, (ZC (Yi (X7 (Ux (K := K)) (by rfl) T.n_tuple boot_tuple (Zf (QM (by rfl) (CompSc.mk' (tn := ["row"]) (cn := []) (js := []) (osc := Zp Xq) (oN := ["ways"]) (by rfl) (by rfl) (by rfl) (by decide +kernel)) (Uv (K := K) (pv 0)) (fun C s₂ H₂ fp => Yj (i := 0) nd6 (by rfl) (by first | exact Or.inl rfl | exact Or.inr rfl)) (fun C s₂ H₂ fp => VL) (fun C s₂ H₂ fp => (X7 (Ux (K := K)) (by rfl) T.n_tuple boot_tuple (Zf (pv 0) Zk)))) Zk)))), [], ?_⟩
 unfold f_QC
 exact (Yt (UK (Zg (VF.cl (V0 (by rfl) (UP (Zc 0 (by rfl))) (YH 0 (by rfl) (by rfl)) VR (UK (Zg (Zc 0 (by rfl)) Zn)))) Zn)))
theorem Zgt (T : Txt K mg t) : FnOk P w K mg base CX0 1 t.a_QI t.d_QI ["ways", "part"] (spD ⟨t.c, K⟩ 2 V6) := by
 refine YI (φ := f_QI) T.f_QI Zgi (by conv => lhs; whnf) (by conv => lhs; whnf) (fun cdv A outer s H E hr => ?_) rfl rfl
 refine ⟨_, (Zx (Q8 (i := 2) nd7 (by rfl) (by rfl) (by rfl) (CompSc.mk' (tn := ["room"]) (cn := ["part"]) (js := [1]) (osc := Zp Xr) (oN := ["ways", "part", "off", "turn", "here", "there"]) (by rfl) (by rfl) (by rfl) (by decide +kernel)) (Xt (by rfl) T.n_range (Zf (Z0 (YE (K := K)) (by rfl) T.n_len boot_len (Zf (pv 0) Zk)) Zk)) (fun C s₂ H₂ fp => Yj (i := 0) nd8 (by rfl) (by first | exact Or.inl rfl | exact Or.inr rfl)) (fun C s₂ H₂ fp => VL) (fun C s₂ H₂ fp => (Zq (Xy (K := K)) (X7 Zcp (by rfl) T.n_int boot_int (Zf (Uk (QQ (K := K)) (pv 0) (pv 1) (by rfl)) Zk)) Zw)))
 (Zx ((Xu PassesOwn.never (by rfl) (Xt (by rfl) T.n_range (Zf (Z0 (YE (K := K)) (by rfl) T.n_len boot_len (Zf (pv 0) Zk)) Zk)) (Yj (i := 3) nd7 (by rfl) (by first | exact Or.inl rfl | exact Or.inr rfl)) (ZC ((Xu PassesOwn.never (by rfl) (Xt (by rfl) T.n_range (Zf (Z0 (YE (K := K)) (by rfl) T.n_len boot_len (Zf (pv 0) Zk)) Zk)) (Yj (i := 4) nd7 (by rfl) (by first | exact Or.inl rfl | exact Or.inr rfl)) (ZC ((Xu PassesOwn.never (by rfl) (Uv (K := K) (Zz (ZA (K := K)) (pv 0) (pv 4) (fun _ _ => rfl))) (Yj (i := 5) nd7 (by rfl) (by first | exact Or.inl rfl | exact Or.inr rfl)) (ZC (Xb (X5 (Ua (pv 5))) (ZC (Uh (Z0 (Zfz (K := K)) (by rfl) T.n_min boot_min (Zf (Vx (Zf (Zz (ZA (K := K)) (pv 2) (pv 4) (fun _ _ => rfl)) (Zf (Zq (Z8 (K := K)) (Zz (ZA (K := K)) (pv 2) (pv 5) (fun _ _ => rfl)) Zw) Zk))) Zk)) (Ug (pv 2) (pv 4) Um))) Xa))))))))))
 (ZC (Yi (pv 2))))), [], ?_⟩
 unfold f_QI
 exact (ZG (show VS _ _ [2] _ _ _ _ from (UN 2 (V0 (by rfl) (Vg (Zg (Yn YF (Zg (Zc 0 (by rfl)) Zn)) Zn) Xj) (YH 0 (by rfl) (by rfl)) VR (Ze Vi (Yn Zft (Zg (Ze UG (Zc 0 (by rfl)) (Zc 1 (by rfl))) Zn)) (Zr (d := (.int 99)) (by rfl) (by rfl)))) (by rfl) (by rfl) (by rfl) (by rfl)))
 (ZG (VZ (Vg (Zg (Yn YF (Zg (Zc 0 (by rfl)) Zn)) Zn) Xj) (YH 3 (by rfl) (by rfl)) (VZ (Vg (Zg (Yn YF (Zg (Zc 0 (by rfl)) Zn)) Zn) Xj) (YH 4 (by rfl) (by rfl)) (VZ (UP (Ze ZB (Zc 0 (by rfl)) (Zc 4 (by rfl)))) (YH 5 (by rfl) (by rfl)) (XQ (YW (UJ (Zc 5 (by rfl)))) (Zed 2 (by rfl) (Yn Zem (Zg (VF.cl (VW (Zg (Ze ZB (XM 2 (by rfl)) (Zc 4 (by rfl))) (Zg (Ze Z9 (Ze ZB (XM 2 (by rfl)) (Zc 5 (by rfl))) (Zr (d := (.int 1)) (by rfl) (by rfl))) Zn)))) Zn)) (Zc 4 (by rfl))) XO))))
 (VS.frz (ow1 := []) 2 (Yt (Zc 2 (by rfl))) (by rfl) (by rfl) (by rfl) (by rfl))))
theorem Zgu (T : Txt K mg t) : FnOk P w K mg base CX0 2 t.a_QH t.d_QH ["ways", "marks", "part"] (spD ⟨t.c, K⟩ 3 Qd) := by
 have G_QI := (Zgt (P := P) (w := w) (base := base) T).mono (k := 1) (by decide)
 refine YI (φ := f_QH) T.f_QH Zgj (by conv => lhs; whnf) (by conv => lhs; whnf) (fun cdv A outer s H E hr => ?_) rfl rfl
 refine ⟨_, (Zx (ZP (i := 3) nd9 (by rfl) (by first | exact Or.inl rfl | exact Or.inr rfl) (Yc (G_QI) hr (by rfl) T.g_QI T.k_QI T.b_QI .nil Z4 (Zf (pv 0) (Zf (pv 2) Zk))))
 (Zx (ZP (i := 4) nd9 (by rfl) (by first | exact Or.inl rfl | exact Or.inr rfl) (Us [] (by decide +kernel)))
 (Zx (ZP (i := 5) nd9 (by rfl) (by first | exact Or.inl rfl | exact Or.inr rfl) Zw)
 (Zx ((Qv PassesOwn.never (YT ZeI (Zz (ZA (K := K)) (pv 3) (pv 5) (fun _ _ => rfl)) Zw (YS _)) (Zx (Q8 (i := 6) nd9 (by rfl) (by rfl) (by rfl) (CompSc.mk' (tn := ["k"]) (cn := ["ways", "here", "off"]) (js := [0, 5, 3]) (osc := Zp Xs) (oN := ["ways", "marks", "part", "off", "row", "here", "nearer"]) (by rfl) (by rfl) (by rfl) (by decide +kernel)) (Xt (by rfl) T.n_range (Zf (Z0 (YE (K := K)) (by rfl) T.n_len boot_len (Zf (pv 1) Zk)) Zk)) (fun C s₂ H₂ fp => Yj (i := 0) Zg6 (by rfl) (by first | exact Or.inl rfl | exact Or.inr rfl)) (fun C s₂ H₂ fp => (ZdV (PW.pt (Ud (X5 (Ua (Zz (ZA (K := K)) (Zz (ZA (K := K)) (pv 1) (pv 2) (fun _ _ => rfl)) (pv 0) (fun _ _ => rfl)))) (Uc (YT (VP (cA := ⟨t.c, K⟩) (hr.units)) (Zz (ZA (K := K)) (pv 3) (Zz (ZA (K := K)) (Zz (ZA (K := K)) (pv 1) (pv 2) (fun _ _ => rfl)) (pv 0) (fun _ _ => rfl)) (fun _ _ => rfl)) (Zq Zfg (Zz (ZA (K := K)) (pv 3) (pv 2) (fun _ _ => rfl)) Zw) (YS _))))))) (fun C s₂ H₂ fp => (pv 0)))
 (Zx (ZP (i := 4) nd9 (by rfl) (by first | exact Or.inl rfl | exact Or.inr rfl) (Zq (Z8 (K := K)) (pv 4) (Zz (ZA (K := K)) (pv 1) (Zz (ZA (K := K)) (pv 6) Zw (fun _ _ => rfl)) (fun _ _ => rfl))))
 (ZC (ZP (i := 5) nd9 (by rfl) (by first | exact Or.inl rfl | exact Or.inr rfl) (Zz (ZA (K := K)) (Zz (ZA (K := K)) (pv 0) (pv 5) (fun _ _ => rfl)) (Zz (ZA (K := K)) (pv 6) Zw (fun _ _ => rfl)) (fun _ _ => rfl))))))))
 (ZC (Yi (Zdm (Zf (pv 4) (Zf (pv 5) Zk))))))))), [], ?_⟩
 unfold f_QH
 exact (ZG (show VS _ _ [] _ _ _ _ from (ZY 3 (Yg [] (by rfl) (Zg (Zc 0 (by rfl)) (Zg (Zc 2 (by rfl)) Zn))) (by rfl) (by rfl) (by rfl) (by rfl)))
 (ZG (show VS _ _ [] _ _ _ _ from (ZY 4 (Zr (d := (.str [])) (by rfl) (by rfl)) (by rfl) (by rfl) (by rfl) (by rfl)))
 (ZG (show VS _ _ [] _ _ _ _ from (ZY 5 (Zr (d := (.int 0)) (by rfl) (by rfl)) (by rfl) (by rfl) (by rfl) (by rfl)))
 (ZG (Za8 (YX (Ze QW (Ze ZB (Zc 3 (by rfl)) (Zc 5 (by rfl))) (Zr (d := (.int 0)) (by rfl) (by rfl)))) (ZG (show VS _ _ [] _ _ _ _ from (ZY 6 (VF.cl (V0 (by rfl) (Vg (Zg (Yn YF (Zg (Zc 1 (by rfl)) Zn)) Zn) Xj) (YH 0 (by rfl) (by rfl)) (UI (YW (UJ (Ze ZB (Ze ZB (Zc 1 (by rfl)) (Zc 2 (by rfl))) (Zc 0 (by rfl))))) (YX (Ze VQ (Ze ZB (Zc 3 (by rfl)) (Ze ZB (Ze ZB (Zc 1 (by rfl)) (Zc 2 (by rfl))) (Zc 0 (by rfl)))) (Ze Zfp (Ze ZB (Zc 3 (by rfl)) (Zc 2 (by rfl))) (Zr (d := (.int 1)) (by rfl) (by rfl)))))) (Zc 0 (by rfl)))) (by rfl) (by rfl) (by rfl) (by rfl)))
 (ZG (show VS _ _ [] _ _ _ _ from (ZY 4 (Ze Z9 (Zc 4 (by rfl)) (Ze ZB (Zc 1 (by rfl)) (Ze ZB (Zc 6 (by rfl)) (Zr (d := (.int 0)) (by rfl) (by rfl))))) (by rfl) (by rfl) (by rfl) (by rfl)))
 (show VS _ _ [] _ _ _ _ from (ZY 5 (Ze ZB (Ze ZB (Zc 0 (by rfl)) (Zc 5 (by rfl))) (Ze ZB (Zc 6 (by rfl)) (Zr (d := (.int 0)) (by rfl) (by rfl)))) (by rfl) (by rfl) (by rfl) (by rfl))))))
 (Yt (Zdw (Zg (Zc 4 (by rfl)) (Zg (Zc 5 (by rfl)) Zn))))))))
theorem Zgv (T : Txt K mg t) : FnOk P w K mg base CX0 4 t.a_QL t.d_QL ["script"] (spD ⟨t.c, K⟩ 1 Qe) := by
 have GM_QE := (Zgo (P := P) (w := w) (base := base) T).mono (k := 2) (by decide)
 have G_QB := (Ze4 (P := P) (w := w) (base := base) T).mono (k := 3) (by decide)
 have G_QH := (Zgu (P := P) (w := w) (base := base) T).mono (k := 3) (by decide)
 have G_QC := (Zgs (P := P) (w := w) (base := base) T).mono (k := 3) (by decide)
 have G_QA := (Zgp (P := P) (w := w) (base := base) T).mono (k := 3) (by decide)
 have G_QD := (Zgq (P := P) (w := w) (base := base) T).mono (k := 3) (by decide)
 have G_QG := (Zgr (P := P) (w := w) (base := base) T).mono (k := 3) (by decide)
 have G_QJ := (Zgn (P := P) (w := w) (base := base) T).mono (k := 3) (by decide)
 refine YI (φ := f_QL) T.f_QL Zgk (by conv => lhs; whnf) (by conv => lhs; whnf) (fun cdv A outer s H E hr => ?_) rfl rfl
 refine ⟨_, (Zx (ZP (i := 1) XI (by rfl) (by first | exact Or.inl rfl | exact Or.inr rfl) (Yc (G_QD) hr (by rfl) T.g_QD T.k_QD T.b_QD .nil Z4 (Zf (Yc (G_QB) hr (by rfl) T.g_QB T.k_QB T.b_QB .nil Z4 (Zf (pv 0) (Zf Zw Zk))) Zk)))
 (Zx (ZP (i := 2) XI (by rfl) (by first | exact Or.inl rfl | exact Or.inr rfl) (Zq (Z8 (K := K)) Zw (Zq Yb (Yc (G_QB) hr (by rfl) T.g_QB T.k_QB T.b_QB .nil Z4 (Zf (pv 0) (Zf Zw Zk))) Zw)))
 (Zx (ZP (i := 3) XI (by rfl) (by first | exact Or.inl rfl | exact Or.inr rfl) (Yc (G_QG) hr (by rfl) T.g_QG T.k_QG T.b_QG .nil Z4 (Zf (pv 0) (Zf Zw (Zf (pv 2) (Zf (Z0 (YE (K := K)) (by rfl) T.n_len boot_len (Zf (pv 1) Zk)) Zk))))))
 (Zx (ZP (i := 4) XI (by rfl) (by first | exact Or.inl rfl | exact Or.inr rfl) (Vx (Zf (Zq Yb (Yc (G_QB) hr (by rfl) T.g_QB T.k_QB T.b_QB .nil Z4 (Zf (pv 0) (Zf Zw Zk))) (pv 2)) Zk)))
 (Zx ((Xu PassesOwn.never (by rfl) (Zax (by rfl) T.n_range (Zf (Zq (Z8 (K := K)) (Zq (Z8 (K := K)) Zw (pv 2)) (Zq (Xy (K := K)) (pv 2) (Z0 (YE (K := K)) (by rfl) T.n_len boot_len (Zf (pv 1) Zk)))) (Zf (Z0 (Zce (by rfl)) (by rfl) T.n_min boot_min (Zf (Z0 (YE (K := K)) (by rfl) T.n_len boot_len (Zf (pv 0) Zk)) (Zf Zw Zk))) Zk))) (Yj (i := 5) XI (by rfl) (by first | exact Or.inl rfl | exact Or.inr rfl)) (ZC (Xb (PW.pt (Ud (YT (QQ (K := K)) (Zq Yb (Zz (ZA (K := K)) (pv 0) (pv 5) (fun _ _ => rfl)) (pv 2)) (pv 4) (by rfl)) (Uc (YT (VP (cA := ⟨t.c, K⟩) (hr.units)) (Zq Yb (Zq XJ (Zz (ZA (K := K)) (pv 0) (pv 5) (fun _ _ => rfl)) Zw) Zw) Zw (YS _))))) (ZC (ZbE (Uy (K := K) PySem.F.plainAttrs_list PySem.F.slot_list_append PySem.F.type_list_append ZaE (pv 4) (Zf (Zq Yb (Zz (ZA (K := K)) (pv 0) (pv 5) (fun _ _ => rfl)) (pv 2)) Zk)))) Xa))))
 (Zx (ZP (i := 4) XI (by rfl) (by first | exact Or.inl rfl | exact Or.inr rfl) (Z0 (Zel (K := K)) (by rfl) T.n_sorted boot_sorted (Zf (pv 4) Zk)))
 (Zx (ZP (i := 6) XI (by rfl) (by first | exact Or.inl rfl | exact Or.inr rfl) (X7 (Zbx (K := K)) (by rfl) T.n_list boot_list (Zf (pv 4) Zk)))
 (Zx (ZP (i := 7) XI (by rfl) (by first | exact Or.inl rfl | exact Or.inr rfl) (Yc (G_QJ) hr (by rfl) T.g_QJ T.k_QJ T.b_QJ .nil Z4 (Zf (ZdQ T.mk_Rooms (GM_QE) hr (by rfl) T.g_Rooms T.b_QE .nil Z4 (Zf (pv 1) (Zf (Yc (G_QC) hr (by rfl) T.g_QC T.k_QC T.b_QC .nil Z4 (Zf (pv 3) Zk)) Zk))) (Zf (pv 6) Zk))))
 (Zx (Xb (PW.pt (Qp (YT (Zds (cA := ⟨t.c, K⟩) (hr.units)) (pv 6) (pv 4) (YS _)) (Qp (Ue (Ub (Z0 (UR (K := K)) (by rfl) T.n_isinstance boot_isinstance (Zf (pv 7) (Zf (V9 (v := .ty "tuple") (by rfl) T.n_tuple boot_tuple rfl) Zk))))) (J4 (YT (Zds (cA := ⟨t.c, K⟩) (hr.units)) (Z0 (YE (K := K)) (by rfl) T.n_len boot_len (Zf (pv 7) Zk)) Zw (YS _)))))) (ZC (Yi JU)) Xa)
 (Zx (Xb (PW.pt (Qp (Ue (Ub (Z0 (UR (K := K)) (by rfl) T.n_isinstance boot_isinstance (Zf (Zz (ZA (K := K)) (pv 7) Zw (fun _ _ => rfl)) (Zf (V9 (v := .ty "str") (by rfl) T.n_str boot_str rfl) Zk))))) (J4 (Ue (Ub (Yc (G_QA) hr (by rfl) T.g_QA T.k_QA T.b_QA .nil Z4 (Zf (Zz (ZA (K := K)) (pv 7) Zw (fun _ _ => rfl)) Zk))))))) (ZC (Yi JU)) Xa)
 (ZC (Yi (Uk (VP (cA := ⟨t.c, K⟩) (hr.units)) (pv 7) (Yc (G_QH) hr (by rfl) T.g_QH T.k_QH T.b_QH .nil Z4 (Zf (pv 3) (Zf (pv 1) (Zf (pv 4) Zk)))) (YS _)))))))))))))), [], ?_⟩
 unfold f_QL
 exact (ZG (show VS _ _ [] _ _ _ _ from (ZY 1 (Yg [] (by rfl) (Zg (Yg [] (by rfl) (Zg (Zc 0 (by rfl)) (Zg (Zr (d := (.int 0)) (by rfl) (by rfl)) Zn))) Zn)) (by rfl) (by rfl) (by rfl) (by rfl)))
 (ZG (show VS _ _ [] _ _ _ _ from (ZY 2 (Ze Z9 (Zr (d := (.int 1)) (by rfl) (by rfl)) (Ze Yd (Yg [] (by rfl) (Zg (Zc 0 (by rfl)) (Zg (Zr (d := (.int 1)) (by rfl) (by rfl)) Zn))) (Zr (d := (.int 7)) (by rfl) (by rfl)))) (by rfl) (by rfl) (by rfl) (by rfl)))
 (ZG (show VS _ _ [] _ _ _ _ from (ZY 3 (Yg [] (by rfl) (Zg (Zc 0 (by rfl)) (Zg (Zr (d := (.int 3)) (by rfl) (by rfl)) (Zg (Zc 2 (by rfl)) (Zg (Yn YF (Zg (Zc 1 (by rfl)) Zn)) Zn))))) (by rfl) (by rfl) (by rfl) (by rfl)))
 (ZG (show VS _ _ [4] _ _ _ _ from (UN 4 (VW (Zg (Ze Yd (Yg [] (by rfl) (Zg (Zc 0 (by rfl)) (Zg (Zr (d := (.int 2)) (by rfl) (by rfl)) Zn))) (Zc 2 (by rfl))) Zn)) (by rfl) (by rfl) (by rfl) (by rfl)))
 (ZG (VZ (Zd3 (Zg (Ze Z9 (Ze Z9 (Zr (d := (.int 3)) (by rfl) (by rfl)) (Zc 2 (by rfl))) (Ze Vi (Zc 2 (by rfl)) (Yn YF (Zg (Zc 1 (by rfl)) Zn)))) (Zg (Yn Zfs (Zg (Yn YF (Zg (Zc 0 (by rfl)) Zn)) (Zg (Zr (d := (.int 60)) (by rfl) (by rfl)) Zn))) Zn)) ZgV) (YH 5 (by rfl) (by rfl)) (XQ (UI (YX (Ze UG (Ze Yd (Ze ZB (Zc 0 (by rfl)) (Zc 5 (by rfl))) (Zc 2 (by rfl))) (XM 4 (by rfl)))) (YX (Ze VQ (Ze Yd (Ze XN (Ze ZB (Zc 0 (by rfl)) (Zc 5 (by rfl))) (Zr (d := (.int 7)) (by rfl) (by rfl))) (Zr (d := (.int 3)) (by rfl) (by rfl))) (Zr (d := (.int 1)) (by rfl) (by rfl))))) (Zdx 4 (by rfl) (Ze Yd (Ze ZB (Zc 0 (by rfl)) (Zc 5 (by rfl))) (Zc 2 (by rfl)))) XO))
 (VS.frz (ow1 := []) 4 (ZG (show VS _ _ [4] _ _ _ _ from (UN 4 (Zen (Or.inl rfl) (Zg (Zc 4 (by rfl)) Zn)) (by rfl) (by rfl) (by rfl) (by rfl)))
 (VS.frz (ow1 := []) 4 (ZG (show VS _ _ [] _ _ _ _ from (ZY 6 (VF.cl (Zc1 (Or.inl rfl) (Zg (Zc 4 (by rfl)) Zn))) (by rfl) (by rfl) (by rfl) (by rfl)))
 (ZG (show VS _ _ [] _ _ _ _ from (ZY 7 (Yg [] (by rfl) (Zg (Zd7 (c := "Rooms") [] (by rfl) (Zg (Zc 1 (by rfl)) (Zg (Yg [] (by rfl) (Zg (Zc 3 (by rfl)) Zn)) Zn))) (Zg (Zc 6 (by rfl)) Zn))) (by rfl) (by rfl) (by rfl) (by rfl)))
 (ZG (XQ (QZ (YX (Ze ZeS (Zc 6 (by rfl)) (Zc 4 (by rfl)))) (QZ (UH (YW (UT (fun _ h => h) T.isi_tuple (Zc 7 (by rfl))))) (YX (Ze ZeS (Yn YF (Zg (Zc 7 (by rfl)) Zn)) (Zr (d := (.int 2)) (by rfl) (by rfl)))))) (Yt (Zr (d := (.bl false)) (by rfl) (by rfl))) XO)
 (ZG (XQ (QZ (UH (YW (UT (fun _ h => h) T.isi_str (Ze ZB (Zc 7 (by rfl)) (Zr (d := (.int 0)) (by rfl) (by rfl)))))) (UH (YW (Yg [] (by rfl) (Zg (Ze ZB (Zc 7 (by rfl)) (Zr (d := (.int 1)) (by rfl) (by rfl))) Zn))))) (Yt (Zr (d := (.bl false)) (by rfl) (by rfl))) XO)
 (Yt (Ze VQ (Zc 7 (by rfl)) (Yg [] (by rfl) (Zg (Zc 3 (by rfl)) (Zg (Zc 1 (by rfl)) (Zg (Zc 4 (by rfl)) Zn)))))))))) (by rfl) (by rfl) (by rfl) (by rfl))) (by rfl) (by rfl) (by rfl) (by rfl)))))))
end
end K33
namespace K33
open DL L2
theorem Qf (ns : List Int) (k : Nat) : Z6 [.lst (ns.map D.int), .int k] = some (.int (ns.getD k 0)) := by
 by_cases h : k < ns.length
 · have hz : atI (ns.map D.int) (k : Int) = some (.int (ns.getD k 0)) := by
    refine Vz ?_
    rw [List.getElem?_map, List.getElem?_eq_getElem h, List.getD_eq_getElem?_getD, List.getElem?_eq_getElem h]
    rfl
   simp [Z6, f_QB, h, hz, DL.run, DL.runI, Zd, sIf, ZE, ZeV, sNext, Zh, Q2, Xk, ZeX, sNever, xB, bD, Ym, Z5, xOr, Za, eC, eOp, Xv, eOr, VU, eIf, Xw, Ye, Vd, Zdv, eUn, ZgT, eNil, Zb, ZT, YY, eCB, lenD, minD, ZgU, Zu, Y0, XR, Yh, eSl, xP, ZgW, addD, subD, ZgS, fdivD, modD, Xi, ixD, isD, eBM, Yy, Vh, kind, plainKinds, V3, Jg, ZbY, Jh, Ji, Jj, ZbZ, Zb0, ZdB, ZdC, ZdD, List.lookup, YR, CMul, PySem.sizeLine_eq, List.replicate]
 · have hz : ns.getD k 0 = 0 := by rw [List.getD_eq_getElem?_getD, List.getElem?_eq_none (by omega)]; rfl
   simp [Z6, f_QB, h, hz, DL.run, DL.runI, Zd, sIf, ZE, ZeV, sNext, Zh, Q2, Xk, ZeX, sNever, xB, bD, Ym, Z5, xOr, Za, eC, eOp, Xv, eOr, VU, eIf, Xw, Ye, Vd, Zdv, eUn, ZgT, eNil, Zb, ZT, YY, eCB, lenD, minD, ZgU, Zu, Y0, XR, Yh, eSl, xP, ZgW, addD, subD, ZgS, fdivD, modD, Xi, ixD, isD, eBM, Yy, Vh, kind, plainKinds, V3, Jg, ZbY, Jh, Ji, Jj, ZbZ, Zb0, ZdB, ZdC, ZdD, List.lookup, YR, CMul, PySem.sizeLine_eq, List.replicate]
def SG : List Nat := [97, 98, 99, 100, 101, 102, 103, 104, 105, 106, 107, 108, 109, 110, 111, 112, 113, 114, 115, 116, 117, 118, 119, 120, 121, 122, 48, 49, 50, 51, 52, 53, 54, 55, 56, 57]
structure Mk (M : List Nat) : Prop where
 lo : 2 <= M.length
 hi : M.length <= 4
 nd : M.Nodup
 cd : ∀ c ∈ M, c < 128
theorem Zgw {i : Int} (h0 : 0 <= i) (h1 : i < 36) : atI SG i = some (SG.getD i.toNat 0) := by
 obtain ⟨x, h2, h3⟩ := ZfA (xs := SG) h0 (by rw [show SG.length = 36 from rfl]; exact h1)
 rw [h2, List.getD_eq_getElem?_getD, h3]
 rfl
def mk1 (c : Int) (k : Nat) : Nat := SG.getD ((c / 3 + 7 * (k : Int)) % 36).toNat 0
noncomputable def mkE : DL.Env -> Option D := (eOp ixD (Za 1) (eOp modD (eOp addX (eOp fdivD (Za 2) (eC (.int 3))) (eOp mulX (eC (.int 7)) (Za 0))) (eCB lenD (Zb (Za 1) eNil))))
theorem ZfB (c : Int) (k : Nat) (hk : k <= 100) : mkE [some (.int k), some (.str SG), some (.int c)] = some (.str [mk1 c k]) := by
 have e2 : eOp fdivD (Za 2) (eC (.int 3)) [some (.int k), some (.str SG), some (.int c)] = some (.int (c / 3)) := (Zj (x := .int c) (y := .int 3) rfl rfl).trans (Vq ⟨by decide, by decide⟩)
 have e3 : eOp mulX (eC (.int 7)) (Za 0) [some (.int k), some (.str SG), some (.int c)] = some (.int (7 * (k : Int))) := (Zj (x := .int 7) (y := .int (k : Int)) rfl rfl).trans (Jt (by omega) (by omega))
 have e4 : eCB lenD (Zb (Za 1) eNil) [some (.int k), some (.str SG), some (.int c)] = some (.int 36) := rfl
 exact (Zj rfl ((Zj ((Zj e2 e3).trans (add_int _ _)) e4).trans (Y5 (by decide)))).trans (Zb1 (by decide) (Zgw (by omega) (by omega)))
def mkF (c : Int) : D -> D
 | .int k => .str [mk1 c k.toNat]
 | _ => .non
theorem ZfC : ∀ i j : Fin 36, SG.getD i.val 0 = SG.getD j.val 0 -> i = j := by decide
theorem Zgx : ∀ i : Fin 36, SG.getD i.val 0 < 128 := by decide
theorem ZfD (c : Int) {i j : Nat} (hi : i < 4) (hj : j < 4) (h : mk1 c i = mk1 c j) : i = j := by
 unfold mk1 at h
 have := ZfC ⟨_, (show ((c / 3 + 7 * (i : Int)) % 36).toNat < 36 by omega)⟩ ⟨_, (show ((c / 3 + 7 * (j : Int)) % 36).toNat < 36 by omega)⟩ h
 have e : ((c / 3 + 7 * (i : Int)) % 36).toNat = ((c / 3 + 7 * (j : Int)) % 36).toNat := congrArg Fin.val this
 omega
theorem Zdc : f_QD = Zd (Zh 1 (eC (.str SG))) (ZE (eBM joinD (eC (.str [])) (Zb (ZN (Zt (Zb (eOp addX (eC (.int 2)) (eOp modD (Za 0) (eC (.int 3)))) eNil)) (Zl 0) (fun _ => some true) mkE 1 [1, 0]) eNil))) := rfl
theorem Zdd (c : Int) : ∃ M, Mk M /\ Qb [.int c] = some (.str M) := by
 obtain ⟨n, hn⟩ := Jv (show 0 <= 2 + c % 3 by omega)
 have hcomp : ZM (Zl 0) (fun _ => some true) mkE [none, some (.str SG), some (.int c)] (Zy 0 1 n) = some ((List.range n).map fun k => .str [mk1 c k]) := by
  rw [Jk (mkF c)]
  · unfold Zy
    rw [List.map_map]
    congr 1
    refine List.map_congr_left fun k _ => ?_
    show mkF c (.int (0 + (k : Int) * 1)) = _
    rw [show (0 + (k : Int) * 1) = k by omega]
    rfl
  · intro x hx
    obtain ⟨i, hi, rfl⟩ := Jp hx
    rw [show (0 + (i : Int) * 1) = i by omega]
    exact ⟨_, rfl, ZfB c i (by omega)⟩
 have hj := ZcD (mk1 c) (List.range n) (by rw [List.length_range, PySem.sizeLine_eq]; omega)
 have hr : Zt (Zb (eOp addX (eC (.int 2)) (eOp modD (Za 0) (eC (.int 3)))) eNil) [some (.int c), some (.str SG)] = some (Zy 0 1 n) := by
  refine (XB (j := (n : Int)) (Zm ?_ nil_of) (by omega) (by omega)).trans (by rw [Int.toNat_natCast])
  refine (Zj (x := .int 2) (y := .int (c % 3)) rfl ((Zj (x := .int c) (y := .int 3) rfl rfl).trans (Y5 (by decide)))).trans ?_
  rw [add_int, hn]
 have hc : ZN (Zt (Zb (eOp addX (eC (.int 2)) (eOp modD (Za 0) (eC (.int 3)))) eNil)) (Zl 0) (fun _ => some true) mkE 1 [1, 0] [some (.int c), some (.str SG)] = some (.lst ((List.range n).map fun k => .str [mk1 c k])) :=
  Vr hr rfl hcomp (by rw [List.length_map, List.length_range]; omega)
 refine ⟨(List.range n).map (mk1 c), ⟨by simp; omega, by simp; omega, ?_, ?_⟩, ?_⟩
 · rw [List.Nodup, List.pairwise_iff_getElem]
   intro i j hi hj hij
   simp at hi hj ⊢
   intro z
   have := ZfD c (by omega) (by omega) z
   omega
 · intro x hx
   obtain ⟨k, _, rfl⟩ := List.mem_map.mp hx
   exact Zgx ⟨_, (show ((c / 3 + 7 * (k : Int)) % 36).toNat < 36 by omega)⟩
 · have h : f_QD [some (.int c), none] = some (.rt (.str ((List.range n).map (mk1 c)))) := by
    rw [Zdc, Zv (δ' := [some (.int c), some (.str SG)]) rfl]
    exact XW ((Ze3 rfl (Zm hc nil_of)).trans hj)
   exact Xm rfl h
abbrev Wy := List (List (Option Nat))
def oD : Option Nat -> D
 | none => .non
 | some a => .int (a : Int)
def ZI (r : List (Option Nat)) : D := .lst (r.map oD)
def ZZ (r : List (Option Nat)) : D := .tup (r.map oD)
structure Ok1 (m n : Nat) (r : List (Option Nat)) : Prop where
 ln : r.length = n
 pl : ∀ a, some a ∈ r -> a < m
structure Ok (m n : Nat) (W : Wy) : Prop where
 m0 : 0 < m
 m6 : m <= 7
 n2 : 2 <= n
 n4 : n <= 4
 ln : W.length = m
 rw : ∀ r ∈ W, Ok1 m n r
def Zo (W : Wy) : D := .lst (W.map ZI)
def put (W : Wy) (a k : Nat) (x : Option Nat) : Wy := W.set a ((W.getD a []).set k x)
theorem Ok1.set {m n : Nat} {r : List (Option Nat)} {k : Nat} {x : Nat} (h : Ok1 m n r) (hx : x < m) : Ok1 m n (r.set k (some x)) := ⟨by rw [List.length_set]; exact h.ln, fun a ha => by
 rcases List.mem_or_eq_of_mem_set ha with h1 | h1
 · exact h.pl a h1
 · cases h1; exact hx⟩
theorem Ok.row {m n : Nat} {W : Wy} (h : Ok m n W) {a : Nat} (ha : a < m) : ∃ r, W[a]? = some r /\ W.getD a [] = r /\ Ok1 m n r := by
 have hl : a < W.length := by rw [h.ln]; exact ha
 refine ⟨W[a], List.getElem?_eq_getElem hl, ?_, h.rw _ (List.getElem_mem hl)⟩
 rw [List.getD_eq_getElem?_getD, List.getElem?_eq_getElem hl]
 rfl
theorem Ok.put {m n : Nat} {W : Wy} (h : Ok m n W) {a k x : Nat} (ha : a < m) (hx : x < m) : Ok m n (put W a k (some x)) := by
 obtain ⟨r, h1, h2, h3⟩ := h.row ha
 refine ⟨h.m0, h.m6, h.n2, h.n4, by unfold K33.put; rw [List.length_set]; exact h.ln, fun r' hr' => ?_⟩
 unfold K33.put at hr'
 rcases List.mem_or_eq_of_mem_set hr' with h4 | h4
 · exact h.rw r' h4
 · rw [h4, h2]; exact h3.set hx
theorem Jz {i : Nat} {κ1 κ2 ε : DL.Env -> Option D} {δ : DL.Env} {m n : Nat} {W : Wy} (h : Ok m n W) {a k x : Nat} (ha : a < m) (hk : k < n) (hv : Za i δ = some (Zo W)) (h1 : κ1 δ = some (.int (a : Int))) (h2 : κ2 δ = some (.int (k : Int))) (h3 : ε δ = some (.int (x : Int))) : YL i κ1 κ2 ε δ = some (.nx (δ.set i (some (Zo (put W a k (some x)))))) := by
 obtain ⟨r, hr1, hr2, hr3⟩ := h.row ha
 have hW := h.ln
 have e1 : YV ε δ = some (.int (x : Int)) := by unfold YV; rw [h3]; rfl
 unfold YL
 rw [e1, hv, h1, h2]
 unfold Zo
 dsimp only
 rw [List.length_map, Ju (by omega)]
 dsimp only
 rw [List.getElem?_map, hr1]
 show (match ixN (r.map oD).length (k : Int) with
  | some l => some (Out.nx (δ.set i (some (.lst ((W.map ZI).set a (.lst ((r.map oD).set l (.int (x : Int)))))))))
  | none => none) = _
 rw [List.length_map, Ju (by rw [hr3.ln]; exact hk)]
 dsimp only
 unfold put
 rw [hr2, List.map_set]
 unfold ZI
 rw [List.map_set]
 rfl
theorem Qg {κ0 κ1 κ2 : DL.Env -> Option D} {δ : DL.Env} {m n : Nat} {W : Wy} (h : Ok m n W) {a k : Nat} (ha : a < m) (hk : k < n) (hv : κ0 δ = some (Zo W)) (h1 : κ1 δ = some (.int (a : Int))) (h2 : κ2 δ = some (.int (k : Int))) : eOp ixD (eOp ixD κ0 κ1) κ2 δ = some (oD ((W.getD a []).getD k none)) := by
 obtain ⟨r, hr1, hr2, hr3⟩ := h.row ha
 have hkl : k < r.length := by rw [hr3.ln]; exact hk
 have e : r[k]? = some r[k] := List.getElem?_eq_getElem hkl
 refine (Zj (x := ZI r) ((Zj hv h1).trans (Vs (by rw [List.getElem?_map, hr1]; rfl))) h2).trans ((Vs (x := oD r[k]) (by rw [List.getElem?_map, e]; rfl)).trans ?_)
 rw [hr2, List.getD_eq_getElem?_getD, e]
 rfl
theorem ZdI {κ0 κ1 : DL.Env -> Option D} {δ : DL.Env} {m n : Nat} {W : Wy} (h : Ok m n W) {a : Nat} (ha : a < m) (hv : κ0 δ = some (Zo W)) (h1 : κ1 δ = some (.int (a : Int))) : eOp ixD κ0 κ1 δ = some (ZI (W.getD a [])) := by
 obtain ⟨r, hr1, hr2, hr3⟩ := h.row ha
 rw [hr2]
 exact (Zj hv h1).trans (Vs (by rw [List.getElem?_map, hr1]; rfl))
theorem JA (x : Option Nat) : Vd (oD x) = x.isNone := by cases x <;> rfl
theorem JB {i : Nat} {φ : DL.Env -> Option Out} {δ δ' : DL.Env} (h : φ (δ.set i none) = some (.nx δ')) (hi : δ'[i]? = some none) : Y1 i φ δ = some (.nx (δ'.set i ((δ[i]?).getD none))) := by
 unfold Y1
 rw [h]
 dsimp only
 rw [hi]
theorem Zav {α : Type} {γ : D -> DL.Env -> Option DL.Env} {ε : DL.Env -> Option D} {δ0 : DL.Env} (g f : α -> D) : ∀ (xs : List α), (∀ x ∈ xs, ∃ δ1, γ (g x) δ0 = some δ1 /\ ε δ1 = some (f x)) -> ZM γ (fun _ => some true) ε δ0 (xs.map g) = some (xs.map f)
 | [], _ => rfl
 | x :: xs, h => by
  obtain ⟨δ1, h1, h2⟩ := h x List.mem_cons_self
  have ih := Zav g f xs fun y hy => h y (List.mem_cons_of_mem _ hy)
  rw [List.map_cons, List.map_cons]
  unfold ZM
  rw [h1]
  dsimp only
  rw [h2, ih]
theorem Zbj {α : Type} {γ : D -> DL.Env -> Option DL.Env} {τ : DL.Env -> Option Bool} {ε : DL.Env -> Option D} {δ0 : DL.Env} (g : α -> D) (f : α -> Option D) : ∀ (xs : List α), (∀ x ∈ xs, ∃ δ1, γ (g x) δ0 = some δ1 /\ τ δ1 = some (f x).isSome /\ ∀ y, f x = some y -> ε δ1 = some y) -> ZM γ τ ε δ0 (xs.map g) = some (xs.filterMap f)
 | [], _ => rfl
 | x :: xs, h => by
  obtain ⟨δ1, h1, h2, h3⟩ := h x List.mem_cons_self
  have ih := Zbj g f xs fun y hy => h y (List.mem_cons_of_mem _ hy)
  rw [List.map_cons]
  unfold ZM
  rw [h1]
  dsimp only
  rw [h2]
  cases hf : f x with
  | none => rw [List.filterMap_cons_none hf]; exact ih
  | some y =>
   rw [List.filterMap_cons_some hf]
   dsimp only [Option.isSome]
   rw [h3 y hf, ih]
def gt (W : Wy) (b k : Nat) : Option Nat := (W.getD b []).getD k none
def Keep (W W' : Wy) : Prop := ∀ b k x, gt W b k = some x -> gt W' b k = some x
theorem Keep.refl (W : Wy) : Keep W W := fun _ _ _ h => h
theorem Keep.trans {W W' W'' : Wy} (h1 : Keep W W') (h2 : Keep W' W'') : Keep W W'' := fun b k x h => h2 b k x (h1 b k x h)
theorem ZdJ {m n : Nat} {W : Wy} (h : Ok m n W) {a k : Nat} (x : Option Nat) (ha : a < m) (hk : k < n) (b j : Nat) : gt (put W a k x) b j = if b = a /\ j = k then x else gt W b j := by
 obtain ⟨r, h1, h2, h3⟩ := h.row ha
 have hl : a < W.length := by rw [h.ln]; exact ha
 have hkr : k < r.length := by rw [h3.ln]; exact hk
 unfold gt put
 rw [h2]
 by_cases hb : b = a
 · subst hb
   rw [List.getD_eq_getElem?_getD (l := W.set b (r.set k x)), List.getElem?_set_self hl]
   show (r.set k x).getD j none = _
   rw [h2]
   by_cases hj : j = k
   · subst hj
     rw [if_pos ⟨rfl, rfl⟩, List.getD_eq_getElem?_getD, List.getElem?_set_self hkr]
     rfl
   · rw [if_neg fun z => hj z.2, List.getD_eq_getElem?_getD, List.getElem?_set_ne (fun z => hj z.symm), <- List.getD_eq_getElem?_getD]
 · rw [if_neg fun z => hb z.1, List.getD_eq_getElem?_getD (l := W.set a (r.set k x)), List.getElem?_set_ne (fun z => hb z.symm), <- List.getD_eq_getElem?_getD]
theorem JC {m n : Nat} {W : Wy} (h : Ok m n W) {a k : Nat} (x : Option Nat) (ha : a < m) (hk : k < n) (hn : gt W a k = none) : Keep W (put W a k x) := fun b j y e => by
 rw [ZdJ h x ha hk]
 by_cases hb : b = a /\ j = k
 · obtain ⟨rfl, rfl⟩ := hb
   rw [hn] at e; cases e
 · rw [if_neg hb]; exact e
end K33
namespace K33
open DL L2
def cnt (r : List (Option Nat)) : Nat := r.countP (·.isSome)
def YO (W : Wy) : Nat := (W.map cnt).sum
theorem Zb3 : ∀ (r : List (Option Nat)) (k x : Nat), k < r.length -> r.getD k none = none -> cnt (r.set k (some x)) = cnt r + 1
 | [], k, x, h, _ => by simp at h
 | y :: r, 0, x, _, h => by
  have hy : y = none := h
  subst hy
  simp [cnt]
 | y :: r, k + 1, x, h, h2 => by
  have ih := Zb3 r k x (by simpa using h) (by simpa using h2)
  unfold cnt at ih ⊢
  rw [List.set_cons_succ, List.countP_cons, List.countP_cons, ih]
  omega
theorem Zb4 : ∀ (l : List Nat) (a v : Nat), a < l.length -> (l.set a v).sum + l.getD a 0 = l.sum + v
 | [], a, v, h => by simp at h
 | y :: l, 0, v, _ => by simp; omega
 | y :: l, a + 1, v, h => by
  have ih := Zb4 l a v (by simpa using h)
  rw [List.set_cons_succ, List.sum_cons, List.sum_cons]
  have e : (y :: l).getD (a + 1) 0 = l.getD a 0 := by simp
  rw [e]
  omega
theorem ZbD {m n : Nat} {W : Wy} (h : Ok m n W) {a k x : Nat} (ha : a < m) (hk : k < n) (hn : (W.getD a []).getD k none = none) : YO (put W a k (some x)) = YO W + 1 := by
 obtain ⟨r, hr1, hr2, hr3⟩ := h.row ha
 have hl : a < W.length := by rw [h.ln]; exact ha
 rw [hr2] at hn
 have h1 := Zb3 r k x (by rw [hr3.ln]; exact hk) hn
 unfold YO put
 rw [hr2, List.map_set]
 have h2 := Zb4 (W.map cnt) a (cnt (r.set k (some x))) (by rw [List.length_map]; exact hl)
 have h3 : (W.map cnt).getD a 0 = cnt r := by
  rw [List.getD_eq_getElem?_getD, List.getElem?_map, hr1]
  rfl
 omega
theorem Zb5 : ∀ (r : List (Option Nat)), (∀ k, k < r.length -> r.getD k none ≠ none) -> cnt r = r.length
 | [], _ => rfl
 | y :: r, h => by
  have hy : y ≠ none := h 0 (by simp)
  have ih := Zb5 r fun k hk => by
   have := h (k + 1) (by simpa using hk)
   simpa using this
  unfold cnt at ih ⊢
  rw [List.countP_cons, ih]
  cases y with
  | none => exact absurd rfl hy
  | some v => simp
theorem ZaM {m n : Nat} {W : Wy} (h : Ok m n W) : ∀ a, a <= m -> (∀ p, p < a * n -> (W.getD (p / n) []).getD (p % n) none ≠ none) -> ((W.take a).map cnt).sum = a * n
 | 0, _, _ => by simp
 | a + 1, ha, hp => by
  have hn := h.n2
  have ih := ZaM h a (by omega) fun p hq => hp p (by rw [Nat.succ_mul]; omega)
  obtain ⟨r, hr1, hr2, hr3⟩ := h.row (show a < m by omega)
  have hl : a < W.length := by rw [h.ln]; omega
  have hc : cnt r = n := by
   rw [Zb5 r, hr3.ln]
   intro k hk
   rw [hr3.ln] at hk
   have := hp (a * n + k) (by rw [Nat.succ_mul]; omega)
   have e1 : (a * n + k) / n = a := by
    rw [Nat.mul_comm, Nat.mul_add_div (by omega), Nat.div_eq_of_lt hk]
    omega
   have e2 : (a * n + k) % n = k := by
    rw [Nat.mul_comm, Nat.mul_add_mod, Nat.mod_eq_of_lt hk]
   rw [e1, e2, hr2] at this
   exact this
  have et : W.take (a + 1) = W.take a ++ [r] := by
   rw [List.take_succ, hr1]
   rfl
  rw [et, List.map_append, List.sum_append, ih, Nat.succ_mul]
  simp [hc]
theorem Zet (l : List Nat) (a : Nat) : (l.take a).sum <= l.sum := by
 have : (l.take a ++ l.drop a).sum = l.sum := by rw [List.take_append_drop]
 rw [List.sum_append] at this
 omega
theorem ZcE {m n : Nat} {W : Wy} (h : Ok m n W) {a : Nat} (ha : a <= m) (hf : YO W < a * n) : ∃ p, p < a * n /\ (W.getD (p / n) []).getD (p % n) none = none := by
 apply Classical.byContradiction
 intro hx
 have := ZaM h a ha fun p hp z => hx ⟨p, hp, z⟩
 have h2 := Zet (W.map cnt) a
 rw [<- List.map_take] at h2
 unfold YO at hf
 omega
abbrev WE (L : D) (m n : Nat) (W : Wy) (v5 v6 v7 v8 : Option D) : DL.Env := [some L, some (.int 3), some (.int (m : Int)), some (.int (n : Int)), some (Zo W), v5, v6, v7, v8]
theorem ZdK {i j : DL.Env -> Option D} {δ : DL.Env} {s n : Nat} (h1 : i δ = some (.int (s : Int))) (h2 : j δ = some (.int (n : Int))) (hn : 0 < n) (hn4 : n <= 100) : eOp fdivD i j δ = some (.int ((s / n : Nat) : Int)) := by
 refine (Zj h1 h2).trans ((Vq ⟨by omega, by omega⟩).trans ?_)
 rw [Int.natCast_ediv]
theorem JD {i j : DL.Env -> Option D} {δ : DL.Env} {s n : Nat} (h1 : i δ = some (.int (s : Int))) (h2 : j δ = some (.int (n : Int))) (hn : 0 < n) : eOp modD i j δ = some (.int ((s % n : Nat) : Int)) := by
 refine (Zj h1 h2).trans ((Y5 (by omega)).trans ?_)
 rw [Int.natCast_emod]
noncomputable def wT : DL.Env -> Option Bool := (xB (Ye (eOp ixD (eOp ixD (Za 4) (eOp fdivD (Za 6) (Za 3))) (eOp modD (Za 6) (Za 3)))))
noncomputable def wB : DL.Env -> Option Out := (Y1 4 (Zh 6 (eOp modD (eOp addX (Za 6) (eC (.int 1))) (eOp mulX (Za 5) (Za 3)))))
noncomputable def w1 : DL.Env -> Option Out := (Y1 4 (Zh 6 (eOp modD (Zu 2 Z6 [] (Zb (Za 0) (Zb (eOp addX (Za 1) (Za 5)) eNil))) (eOp mulX (Za 5) (Za 3)))))
noncomputable def w3 : DL.Env -> Option Out := (YL 4 (eOp fdivD (Za 6) (Za 3)) (eOp modD (Za 6) (Za 3)) (Za 5))
theorem Qh (a n : Nat) (hn : n <= 100) {i j : DL.Env -> Option D} {δ : DL.Env} (h1 : i δ = some (.int (a : Int))) (h2 : j δ = some (.int (n : Int))) : eOp mulX i j δ = some (.int ((a * n : Nat) : Int)) := by
 refine (Zj h1 h2).trans ((Jt (by omega) (by omega)).trans ?_)
 rw [Int.natCast_mul]
theorem cyc {N p s : Nat} (hp : p < N) (hs : s < N) (hne : s ≠ p) : (p + N - (s + 1) % N) % N < (p + N - s) % N := by
 by_cases h : s + 1 < N
 · rw [Nat.mod_eq_of_lt h]
   by_cases h2 : s < p
   · have e1 : (p + N - (s + 1)) % N = p - (s + 1) := by
      rw [show p + N - (s + 1) = (p - (s + 1)) + N by omega, Nat.add_mod_right, Nat.mod_eq_of_lt (by omega)]
     have e2 : (p + N - s) % N = p - s := by
      rw [show p + N - s = (p - s) + N by omega, Nat.add_mod_right, Nat.mod_eq_of_lt (by omega)]
     omega
   · rw [Nat.mod_eq_of_lt (show p + N - (s + 1) < N by omega), Nat.mod_eq_of_lt (show p + N - s < N by omega)]
     omega
 · have e : s + 1 = N := by omega
   rw [e, Nat.mod_self, Nat.sub_zero, Nat.add_mod_right, Nat.mod_eq_of_lt hp, Nat.mod_eq_of_lt (show p + N - s < N by omega)]
   omega
theorem ZfE {m n : Nat} {W : Wy} (h : Ok m n W) (L : D) (a s0 : Nat) (ha0 : 0 < a) (ha : a < m) (hf : YO W < a * n) (hs0 : s0 < a * n) (v7 v8 : Option D) : ∃ s, s < a * n /\ (W.getD (s / n) []).getD (s % n) none = none /\ Z3 wT wB (WE L m n W (some (.int (a : Int))) (some (.int (s0 : Int))) v7 v8) = some (.nx (WE L m n W (some (.int (a : Int))) (some (.int (s : Int))) v7 v8)) := by
 have hn2 := h.n2
 have hn4 := h.n4
 have hm6 := h.m6
 obtain ⟨p, hp, hpn⟩ := ZcE h (Nat.le_of_lt ha) hf
 have hN : 0 < a * n := by omega
 obtain ⟨δ', h1, s, hs, e, hsn⟩ := Jq (τ := wT) (φ := wB) (fun δ => ∃ s, s < a * n /\ δ = WE L m n W (some (.int (a : Int))) (some (.int (s : Int))) v7 v8) (fun δ => ∃ s, s < a * n /\ δ = WE L m n W (some (.int (a : Int))) (some (.int (s : Int))) v7 v8 /\ (W.getD (s / n) []).getD (s % n) none = none)
  (fun δ => match Za 6 δ with | some (.int s) => (p + a * n - s.toNat) % (a * n) | _ => 0) (by
    rintro δ ⟨s, hs, rfl⟩
    have hsa : s / n < a := (Nat.div_lt_iff_lt_mul (by omega)).mpr hs
    have hsn : s % n < n := Nat.mod_lt _ (by omega)
    have e1 := Qg h (a := s / n) (k := s % n) (κ0 := Za 4) (κ1 := eOp fdivD (Za 6) (Za 3)) (κ2 := eOp modD (Za 6) (Za 3)) (δ := WE L m n W (some (.int (a : Int))) (some (.int (s : Int))) v7 v8) (by omega) hsn rfl (ZdK (s := s) (n := n) rfl rfl (by omega) (by omega)) (JD (s := s) (n := n) rfl rfl (by omega))
    have e2 : wT (WE L m n W (some (.int (a : Int))) (some (.int (s : Int))) v7 v8) = some (!((W.getD (s / n) []).getD (s % n) none).isNone) := by
     refine ZQ ?_
     unfold Ye
     rw [e1]
     dsimp only
     rw [JA]
    cases hx : (W.getD (s / n) []).getD (s % n) none with
    | none => exact .inl ⟨by rw [e2, hx]; rfl, s, hs, rfl, hx⟩
    | some y =>
     refine .inr ⟨by rw [e2, hx]; rfl, WE L m n W (some (.int (a : Int))) (some (.int (((s + 1) % (a * n) : Nat) : Int))) v7 v8, ?_, ⟨_, Nat.mod_lt _ hN, rfl⟩, ?_⟩
     · have t : Zh 6 (eOp modD (eOp addX (Za 6) (eC (.int 1))) (eOp mulX (Za 5) (Za 3))) ((WE L m n W (some (.int (a : Int))) (some (.int (s : Int))) v7 v8).set 4 none) = some (.nx [some L, some (.int 3), some (.int (m : Int)), some (.int (n : Int)), none, some (.int (a : Int)), some (.int (((s + 1) % (a * n) : Nat) : Int)), v7, v8]) := by
        refine ZO (JD (s := s + 1) (n := a * n) ?_ (Qh a n (by omega) rfl rfl) hN)
        exact (Zj (x := .int (s : Int)) (y := .int 1) rfl rfl).trans rfl
       exact (JB t rfl).trans rfl
     · show (p + a * n - (((s + 1) % (a * n) : Nat) : Int).toNat) % (a * n) < (p + a * n - ((s : Nat) : Int).toNat) % (a * n)
       rw [Int.toNat_natCast, Int.toNat_natCast]
       refine cyc hp hs fun z => ?_
       rw [z] at hx
       rw [hx] at hpn
       cases hpn) (WE L m n W (some (.int (a : Int))) (some (.int (s0 : Int))) v7 v8) ⟨s0, hs0, rfl⟩
 subst e
 exact ⟨s, hs, hsn, h1⟩
theorem ZfF {m n : Nat} {W : Wy} (h : Ok m n W) (ns : List Int) (a : Nat) (ha0 : 0 < a) (ha : a < m) (hf : YO W = a - 1) (v6 v7 v8 : Option D) : ∃ W' w6, Ok m n W' /\ YO W' = a /\ (Keep W W' /\ ∃ b k, b < a /\ k < n /\ gt W' b k = some a) /\ Zd w1 (Zd (Z3 wT wB) w3) (WE (.lst (ns.map D.int)) m n W (some (.int (a : Int))) v6 v7 v8) = some (.nx (WE (.lst (ns.map D.int)) m n W' (some (.int (a : Int))) w6 v7 v8)) := by
 have hn2 := h.n2
 have hn4 := h.n4
 have hm6 := h.m6
 have hN : a * 2 <= a * n := Nat.mul_le_mul_left a hn2
 have hc := Qf ns (3 + a)
 generalize D.lst (ns.map D.int) = L at *
 generalize ns.getD (3 + a) 0 = c at *
 obtain ⟨s0, hs0, hs0N⟩ := U4 c (show 0 < a * n by omega)
 have t : Zh 6 (eOp modD (Zu 2 Z6 [] (Zb (Za 0) (Zb (eOp addX (Za 1) (Za 5)) eNil))) (eOp mulX (Za 5) (Za 3))) ((WE L m n W (some (.int (a : Int))) v6 v7 v8).set 4 none) = some (.nx [some L, some (.int 3), some (.int (m : Int)), some (.int (n : Int)), none, some (.int (a : Int)), some (.int (s0 : Int)), v7, v8]) := by
  refine ZO ((Zj (x := .int c) (y := .int ((a * n : Nat) : Int)) ((YB (n := 2) (ds := [L, .int ((3 + a : Nat) : Int)]) (Zm rfl (Zm ?_ nil_of)) rfl).trans hc) (Qh a n (by omega) rfl rfl)).trans ?_)
  · refine (Zj (x := .int 3) (y := .int (a : Int)) rfl rfl).trans ?_
    rw [add_int]
    exact congrArg (fun z => some (D.int z)) (by omega)
  · rw [Y5 (by omega), hs0]
 have t1 : w1 (WE L m n W (some (.int (a : Int))) v6 v7 v8) = some (.nx (WE L m n W (some (.int (a : Int))) (some (.int (s0 : Int))) v7 v8)) := (JB t rfl).trans rfl
 obtain ⟨s, hs, hsn, t2⟩ := ZfE h L a s0 ha0 ha (by omega) hs0N v7 v8
 have hsa : s / n < a := (Nat.div_lt_iff_lt_mul (by omega)).mpr hs
 have hsm : s % n < n := Nat.mod_lt _ (by omega)
 refine ⟨put W (s / n) (s % n) (some a), some (.int (s : Int)), h.put (by omega) ha, ?_, ⟨JC h _ (by omega) hsm hsn, s / n, s % n, hsa, hsm, by rw [ZdJ h _ (by omega) hsm, if_pos ⟨rfl, rfl⟩]⟩, ?_⟩
 · rw [ZbD h (by omega) hsm hsn]
   omega
 · refine (Zv t1).trans ((Zv t2).trans ?_)
   exact (Jz h (by omega) hsm rfl (ZdK (s := s) (n := n) rfl rfl (by omega) (by omega)) (JD (s := s) (n := n) rfl rfl (by omega)) rfl).trans rfl
end K33
namespace K33
open DL L2
theorem ZaN : ∀ r : List (Option Nat), PySem.PyData.canLayAll0 (ZH (r.map oD)) = true
 | [] => rfl
 | x :: r => by
  rw [List.map_cons, ZH, PySem.PyData.canLayAll0, ZaN r]
  cases x <;> rfl
theorem Zbk : ∀ r : List (Option Nat), PySem.PyData.depthAll (ZH (r.map oD)) = 0
 | [] => rfl
 | x :: r => by
  rw [List.map_cons, ZH, PySem.PyData.depthAll, Zbk r]
  cases x <;> rfl
theorem Qi (r : List (Option Nat)) : PySem.SeqAt.shaped (toP (ZI r)) = true := by
 unfold PySem.SeqAt.shaped
 show (PySem.PyData.canLayAll0 (ZH (r.map oD)) && decide (PySem.PyData.depthAll (ZH (r.map oD)) + 1 <= 64)) = true
 rw [ZaN, Zbk]
 rfl
theorem Zde (r r' : List (Option Nat)) : ∃ b, eqD (ZI r) (ZI r') = some (.bl b) := by
 unfold eqD
 rw [if_neg (by simp [ZI, Zi]), Qi, Qi]
 exact ⟨_, rfl⟩
theorem ZaO : ∀ (r : List (Option Nat)) (n : Nat), PySem.PyData.eqvAll (ZH (r.map oD)) (ZH ((List.replicate n none).map oD)) = true -> ∀ x ∈ r, x = none
 | [], n, h => fun x hx => by cases hx
 | y :: r, 0, h => by
  rw [List.map_cons, ZH] at h
  exact absurd h (by simp [ZH, PySem.PyData.eqvAll])
 | y :: r, n + 1, h => by
  rw [List.replicate_succ, List.map_cons, List.map_cons, ZH, ZH, PySem.PyData.eqvAll, Bool.and_eq_true] at h
  intro x hx
  rcases List.mem_cons.mp hx with rfl | hx
  · cases x with
    | none => rfl
    | some t => exact absurd h.1 (by simp [oD, toP, PySem.PyData.eqv])
  · exact ZaO r n h.2 x hx
theorem ZcF {r : List (Option Nat)} {n : Nat} (h : eqD (ZI r) (ZI (List.replicate n none)) = some (.bl true)) : ∀ x ∈ r, x = none := by
 unfold eqD at h
 rw [if_neg (by simp [ZI, Zi]), Qi, Qi] at h
 have e : PySem.PyData.eqvAll (ZH (r.map oD)) (ZH ((List.replicate n none).map oD)) = true := by
  have h2 : some (D.bl (PySem.PyData.eqv (toP (ZI r)) (toP (ZI (List.replicate n none))))) = some (D.bl true) := h
  have h4 := D.bl.inj (Option.some.inj h2)
  unfold ZI at h4
  rw [toP, toP, PySem.PyData.eqv] at h4
  exact h4
 exact ZaO r n e
theorem Zdf (a : List D) (n : Int) : Y2 (.lst a) (.int n) = mulX (.lst a) (.int n) := by
 unfold Y2
 rfl
theorem ZfG {i : Nat} {ε : DL.Env -> Option D} {δ : DL.Env} {d : D} (h : ε δ = some d) (hi : i < δ.length) : XS i ε δ = some (.nx (δ.set i (some d))) := by
 unfold XS
 rw [h]
 exact if_pos hi
theorem Ze5 (n : Nat) (hn : n <= 1000) {ε : DL.Env -> Option D} {δ : DL.Env} (h : ε δ = some (.int (n : Int))) : eOp Y2 (ZT (Zb (eC .non) eNil)) ε δ = some (ZI (List.replicate n none)) := by
 rw [Zj (x := .lst [.non]) (y := .int (n : Int)) rfl h, Zdf, Zep (by simp; omega) (by omega)]
 unfold ZI
 rw [List.flatten_replicate_singleton, List.map_replicate]
 rfl
noncomputable def nE : DL.Env -> Option D := (eOp Y2 (ZT (Zb (eC .non) eNil)) (Za 1))
theorem Zgy (n : Nat) (hn : n <= 1000) (x : D) : nE [some x, some (.int (n : Int))] = some (ZI (List.replicate n none)) := by
 have h : Za 1 [some x, some (.int (n : Int))] = some (.int (n : Int)) := rfl
 unfold nE
 exact Ze5 n hn h
theorem ZaP (f : List (Option Nat)) : ∀ k : Nat, Xz (List.replicate k (ZI f)) = some (List.replicate k (f.map oD))
 | 0 => rfl
 | k + 1 => by
  have hs : (f.map oD).all Zi = true := by
   rw [List.all_map]
   exact List.all_eq_true.mpr fun x _ => by cases x <;> rfl
  rw [List.replicate_succ, List.replicate_succ]
  show (if (f.map oD).all Zi = true then (match Xz (List.replicate k (ZI f)) with
   | some rs => some (f.map oD :: rs)
   | none => none) else none) = _
  rw [if_pos hs, ZaP f k]
theorem Zeu {ε : DL.Env -> Option D} {δ : DL.Env} {xs : List D} {rs : List (List D)} (h : ε δ = some (.lst xs)) (hr : Xz xs = some rs) : XA ε δ = some (.lst xs) := by
 unfold XA
 rw [h]
 dsimp only
 rw [hr]
theorem Zev (m n : Nat) (hn : n <= 100) : ZM (Zl 0) (fun _ => some true) nE [none, some (.int (n : Int))] (Zy 0 1 m) = some (List.replicate m (ZI (List.replicate n none))) := by
 rw [Jk (fun _ => ZI (List.replicate n none))]
 · rw [List.map_const', Jr]
 · intro x hx
   exact ⟨[some x, some (.int (n : Int))], rfl, Zgy n (by omega) x⟩
theorem Zew (L : D) (m n : Nat) (hm : m <= 100) : Zt (Zb (Za 2) eNil) [some L, some (.int 3), some (.int (m : Int)), some (.int (n : Int)), none, none, none, none, none] = some (Zy 0 1 m) := (XB (j := (m : Int)) rfl (by omega) (by omega)).trans (by rw [Int.toNat_natCast])
theorem Zgz (L : D) (m n : Nat) (hm : m <= 100) (hn : n <= 100) : ZN (Zt (Zb (Za 2) eNil)) (Zl 0) (fun _ => some true) nE 1 [3] [some L, some (.int 3), some (.int (m : Int)), some (.int (n : Int)), none, none, none, none, none] = some (.lst (List.replicate m (ZI (List.replicate n none)))) :=
 Vr (Zew L m n hm) rfl (Zev m n hn) (by rw [List.length_replicate]; omega)
theorem ZfH (L : D) (m n : Nat) (hm : m <= 100) (hn : n <= 100) : XA (ZN (Zt (Zb (Za 2) eNil)) (Zl 0) (fun _ => some true) nE 1 [3]) [some L, some (.int 3), some (.int (m : Int)), some (.int (n : Int)), none, none, none, none, none] = some (.lst (List.replicate m (ZI (List.replicate n none)))) := by
 exact Zeu (Zgz L m n hm hn) (ZaP _ m)
theorem Zdg (L : D) (m n : Nat) (hm : m <= 100) (hn : n <= 100) : XS 4 (XA (ZN (Zt (Zb (Za 2) eNil)) (Zl 0) (fun _ => some true) nE 1 [3])) [some L, some (.int 3), some (.int (m : Int)), some (.int (n : Int)), none, none, none, none, none] = some (.nx (WE L m n (List.replicate m (List.replicate n none)) none none none none)) := by
 have e3 : Zo (List.replicate m (List.replicate n none)) = .lst (List.replicate m (ZI (List.replicate n none))) := by unfold Zo; rw [List.map_replicate]
 unfold WE
 rw [e3]
 exact ZfG (ZfH L m n hm hn) (by simp)
theorem ZaW (m n : Nat) : YO (List.replicate m (List.replicate n none)) = 0 := by
 unfold YO
 rw [List.map_replicate]
 have : cnt (List.replicate n none) = 0 := by
  unfold cnt
  rw [List.countP_eq_zero]
  intro x hx
  rw [(List.mem_replicate.mp hx).2]
  decide
 rw [this]
 simp
noncomputable def c1 : DL.Env -> Option Out := (Y1 4 (Zh 8 (Zu 2 Z6 [] (Zb (Za 0) (Zb (eOp addX (eOp addX (eOp addX (Za 1) (Za 2)) (eOp mulX (Za 5) (Za 3))) (Za 7)) eNil)))))
noncomputable def c2 : DL.Env -> Option Out := (sIf (Z5 (xB (Xw (eOp ixD (eOp ixD (Za 4) (Za 5)) (Za 7)))) (xB (eOp (Xi fun i j => decide (j < i)) (eOp modD (Za 8) (eC (.int 3))) (eC (.int 0))))) (YL 4 (Za 5) (Za 7) (eOp modD (eOp fdivD (Za 8) (eC (.int 3))) (Za 2))) sNext)
noncomputable def clE : DL.Env -> Option D := (Zu 2 Z6 [] (Zb (Za 0) (Zb (eOp addX (Za 1) (Za 5)) eNil)))
noncomputable def c3 : DL.Env -> Option Out := (sIf (xB (eOp eqD (eOp ixD (Za 4) (Za 5)) (eOp Y2 (ZT (Zb (eC .non) eNil)) (Za 3)))) (YL 4 (Za 5) (eOp modD (eOp fdivD clE (eC (.int 5))) (Za 3)) (eOp modD (eOp fdivD clE (eC (.int 7))) (Za 2))) sNext)
theorem Zb6 {a b : DL.Env -> Option Bool} {δ : DL.Env} {x y : Bool} (h1 : a δ = some x) (h2 : b δ = some y) : Z5 a b δ = some (x && y) := by
 cases x with
 | true => exact (U2 h1 h2).trans (by rw [Bool.true_and])
 | false => exact (Jm h1).trans (by rw [Bool.false_and])
theorem ZfI {m n : Nat} {W : Wy} (h : Ok m n W) (ns : List Int) (a k : Nat) (ha : a < m) (hk : k < n) (v6 v8 : Option D) : ∃ W' w8, Ok m n W' /\ Keep W W' /\ Zd c1 c2 (WE (.lst (ns.map D.int)) m n W (some (.int (a : Int))) v6 (some (.int (k : Int))) v8) = some (.nx (WE (.lst (ns.map D.int)) m n W' (some (.int (a : Int))) v6 (some (.int (k : Int))) w8)) := by
 have hn2 := h.n2
 have hn4 := h.n4
 have hm6 := h.m6
 have hm0 := h.m0
 have hc := Qf ns (3 + m + a * n + k)
 generalize D.lst (ns.map D.int) = L at *
 generalize ns.getD (3 + m + a * n + k) 0 = c at *
 have t : Zh 8 (Zu 2 Z6 [] (Zb (Za 0) (Zb (eOp addX (eOp addX (eOp addX (Za 1) (Za 2)) (eOp mulX (Za 5) (Za 3))) (Za 7)) eNil))) ((WE L m n W (some (.int (a : Int))) v6 (some (.int (k : Int))) v8).set 4 none) = some (.nx [some L, some (.int 3), some (.int (m : Int)), some (.int (n : Int)), none, some (.int (a : Int)), v6, some (.int (k : Int)), some (.int c)]) := by
  refine ZO ((YB (n := 2) (ds := [L, .int ((3 + m + a * n + k : Nat) : Int)]) (Zm rfl (Zm ?_ nil_of)) rfl).trans hc)
  refine (Zj (x := .int (3 + (m : Int) + ((a * n : Nat) : Int))) (y := .int (k : Int)) ((Zj (x := .int (3 + (m : Int))) (y := .int ((a * n : Nat) : Int)) rfl (Qh a n (by omega) rfl rfl)).trans (add_int _ _)) rfl).trans ?_
  rw [add_int]
  exact congrArg (fun z => some (D.int z)) (by omega)
 have t1 : c1 (WE L m n W (some (.int (a : Int))) v6 (some (.int (k : Int))) v8) = some (.nx (WE L m n W (some (.int (a : Int))) v6 (some (.int (k : Int))) (some (.int c)))) := (JB t rfl).trans rfl
 have e1 := Qg h (κ0 := Za 4) (κ1 := Za 5) (κ2 := Za 7) (δ := WE L m n W (some (.int (a : Int))) v6 (some (.int (k : Int))) (some (.int c))) ha hk rfl rfl rfl
 have e2 : xB (Xw (eOp ixD (eOp ixD (Za 4) (Za 5)) (Za 7))) (WE L m n W (some (.int (a : Int))) v6 (some (.int (k : Int))) (some (.int c))) = some (((W.getD a []).getD k none).isNone) := by
  refine ZQ ?_
  unfold Xw
  rw [e1]
  dsimp only
  rw [JA]
 have e3 : xB (eOp (Xi fun i j => decide (j < i)) (eOp modD (Za 8) (eC (.int 3))) (eC (.int 0))) (WE L m n W (some (.int (a : Int))) v6 (some (.int (k : Int))) (some (.int c))) = some (decide (0 < c % 3)) := ZQ ((Zj (x := .int (c % 3)) (y := .int 0) ((Zj (x := .int c) (y := .int 3) rfl rfl).trans (Y5 (by decide))) rfl).trans rfl)
 have e4 := Zb6 e2 e3
 obtain ⟨x, hx, hxm⟩ := Jw (c / 3) hm0
 cases hb : (((W.getD a []).getD k none).isNone && decide (0 < c % 3)) with
 | true =>
  rw [hb] at e4
  have hno : gt W a k = none := by
   rw [Bool.and_eq_true] at hb
   exact Option.isNone_iff_eq_none.mp hb.1
  refine ⟨put W a k (some x), some (.int c), h.put ha hxm, JC h _ ha hk hno, (Zv t1).trans ((V4 e4).trans ?_)⟩
  exact (Jz h ha hk rfl rfl rfl ((Zj (x := .int (c / 3)) (y := .int (m : Int)) ((Zj (x := .int c) (y := .int 3) rfl rfl).trans (Vq ⟨by decide, by decide⟩)) rfl).trans hx)).trans rfl
 | false =>
  rw [hb] at e4
  exact ⟨W, some (.int c), h, Keep.refl W, (Zv t1).trans ((Xl e4).trans rfl)⟩
theorem ZgA {m n : Nat} {W : Wy} (h : Ok m n W) (ns : List Int) (a : Nat) (ha : a < m) (v6 v7 v8 : Option D) : ∃ W' w7 w8, Ok m n W' /\ Keep W W' /\ Zd (ZL (Zt (Zb (Za 3) eNil)) (Zl 7) (Zd c1 c2)) c3 (WE (.lst (ns.map D.int)) m n W (some (.int (a : Int))) v6 v7 v8) = some (.nx (WE (.lst (ns.map D.int)) m n W' (some (.int (a : Int))) v6 w7 w8)) := by
 have hn2 := h.n2
 have hn4 := h.n4
 have hm6 := h.m6
 have hm0 := h.m0
 obtain ⟨δ', h1, W1, w7, w8, e, hW1, hK1⟩ := Jo (γ := Zl 7) (φ := Zd c1 c2) (fun δ => ∃ W' w7 w8, δ = WE (.lst (ns.map D.int)) m n W' (some (.int (a : Int))) v6 w7 w8 /\ Ok m n W' /\ Keep W W') (Zy 0 1 n) (WE (.lst (ns.map D.int)) m n W (some (.int (a : Int))) v6 v7 v8) ⟨_, _, _, rfl, h, Keep.refl W⟩ (by
  intro x hx δ ⟨W', w7, w8, e, hW', hK'⟩
  subst e
  obtain ⟨k, hk, rfl⟩ := Jp hx
  rw [show (0 + (k : Int) * 1) = k by omega]
  obtain ⟨W2, u8, h2, hK2, h3⟩ := ZfI hW' ns a k ha hk v6 w8
  exact ⟨_, rfl, _, h3, W2, _, _, rfl, h2, hK'.trans hK2⟩)
 subst e
 have t1 := XC (φ := Zd c1 c2) (γ := Zl 7) (ι := Zt (Zb (Za 3) eNil)) (δ := WE (.lst (ns.map D.int)) m n W (some (.int (a : Int))) v6 v7 v8) ((XB (j := (n : Int)) rfl (by omega) (by omega)).trans (by rw [Int.toNat_natCast])) h1
 have hc := Qf ns (3 + a)
 have e0 : ∀ W' : Wy, ∀ w7 w8, clE (WE (.lst (ns.map D.int)) m n W' (some (.int (a : Int))) v6 w7 w8) = some (.int (ns.getD (3 + a) 0)) := fun W' w7 w8 => by
  refine (YB (n := 2) (ds := [.lst (ns.map D.int), .int ((3 + a : Nat) : Int)]) (Zm rfl (Zm ?_ nil_of)) rfl).trans hc
  refine (Zj (x := .int 3) (y := .int (a : Int)) rfl rfl).trans ?_
  rw [add_int]
  exact congrArg (fun z => some (D.int z)) (by omega)
 generalize D.lst (ns.map D.int) = L at *
 generalize ns.getD (3 + a) 0 = c at *
 obtain ⟨b, hb⟩ := Zde (W1.getD a []) (List.replicate n none)
 have e1 : xB (eOp eqD (eOp ixD (Za 4) (Za 5)) (eOp Y2 (ZT (Zb (eC .non) eNil)) (Za 3))) (WE L m n W1 (some (.int (a : Int))) v6 w7 w8) = some b := ZQ ((Zj (ZdI hW1 ha rfl rfl) (Ze5 n (by omega) rfl)).trans hb)
 obtain ⟨x, hx, hxm⟩ := Jw (c / 7) hm0
 obtain ⟨k, hk, hkn⟩ := Jw (c / 5) (show 0 < n by omega)
 cases b with
 | true =>
  have hno : gt W1 a k = none := by
   obtain ⟨r, g1, g2, g3⟩ := hW1.row ha
   have hkr : k < r.length := by rw [g3.ln]; exact hkn
   have hall := ZcF hb
   unfold gt
   rw [g2] at hall ⊢
   rw [List.getD_eq_getElem?_getD, List.getElem?_eq_getElem hkr]
   exact hall _ (List.getElem_mem hkr)
  refine ⟨put W1 a k (some x), w7, w8, hW1.put ha hxm, hK1.trans (JC hW1 _ ha hkn hno), (Zv t1).trans ((V4 e1).trans ?_)⟩
  exact (Jz hW1 ha hkn rfl rfl ((Zj (x := .int (c / 5)) (y := .int (n : Int)) ((Zj (e0 W1 w7 w8) (y := .int 5) rfl).trans (Vq ⟨by decide, by decide⟩)) rfl).trans hk) ((Zj (x := .int (c / 7)) (y := .int (m : Int)) ((Zj (e0 W1 w7 w8) (y := .int 7) rfl).trans (Vq ⟨by decide, by decide⟩)) rfl).trans hx)).trans rfl
 | false => exact ⟨W1, w7, w8, hW1, hK1, (Zv t1).trans ((Xl e1).trans rfl)⟩
theorem Zex : f_QG = Zd (XS 4 (XA (ZN (Zt (Zb (Za 2) eNil)) (Zl 0) (fun _ => some true) nE 1 [3]))) (Zd (ZL (Zt (Zb (eC (.int 1)) (Zb (Za 2) eNil))) (Zl 5) (Zd w1 (Zd (Z3 wT wB) w3))) (Zd (ZL (Zt (Zb (Za 2) eNil)) (Zl 5) (Zd (ZL (Zt (Zb (Za 3) eNil)) (Zl 7) (Zd c1 c2)) c3)) (ZE (Za 4)))) := rfl
def Fed (m n : Nat) (W : Wy) : Prop := ∀ r, 0 < r -> r < m -> ∃ b k, b < r /\ k < n /\ gt W b k = some r
theorem Zey (ns : List Int) (m n : Nat) (hm0 : 0 < m) (hm : m <= 7) (hn2 : 2 <= n) (hn : n <= 4) : ∃ W, Ok m n W /\ Fed m n W /\ Qc [.lst (ns.map D.int), .int 3, .int (m : Int), .int (n : Int)] = some (Zo W) := by
 have h0 : Ok m n (List.replicate m (List.replicate n none)) := ⟨hm0, hm, hn2, hn, by simp, fun r hr => by
  rw [(List.mem_replicate.mp hr).2]
  exact ⟨by simp, fun a ha => by have := (List.mem_replicate.mp ha).2; cases this⟩⟩
 obtain ⟨δ1, l1, W1, v5, v6, v7, v8, e1, hW1, _, hF1⟩ := XV (γ := Zl 5) (φ := Zd w1 (Zd (Z3 wT wB) w3)) (fun k δ => ∃ W v5 v6 v7 v8, δ = WE (.lst (ns.map D.int)) m n W v5 v6 v7 v8 /\ Ok m n W /\ YO W = k /\ ∀ r, 0 < r -> r < 1 + k -> ∃ b j, b < r /\ j < n /\ gt W b j = some r) (Zy 1 1 (m - 1)) 0 (WE (.lst (ns.map D.int)) m n (List.replicate m (List.replicate n none)) none none none none) ⟨_, _, _, _, _, rfl, h0, ZaW m n, fun r h1 h2 => absurd h2 (by omega)⟩ (by
  intro j x δ hx ⟨W, v5, v6, v7, v8, e, hW, hf, hF⟩
  subst e
  obtain ⟨hj, rfl⟩ := Zbg hx
  rw [show (1 + (j : Int) * 1) = ((j + 1 : Nat) : Int) by omega]
  obtain ⟨W', w6, h2, h3, ⟨hK, b0, k0, hb0, hk0, hg0⟩, h4⟩ := ZfF hW ns (j + 1) (by omega) (by omega) (by omega) v6 v7 v8
  refine ⟨_, rfl, _, h4, W', _, _, _, _, rfl, h2, by omega, fun r hr1 hr2 => ?_⟩
  by_cases hr : r = j + 1
  · subst hr
    exact ⟨b0, k0, hb0, hk0, hg0⟩
  · obtain ⟨b, k, g1, g2, g3⟩ := hF r hr1 (by omega)
    exact ⟨b, k, g1, g2, hK b k r g3⟩)
 subst e1
 rw [Zak, Nat.zero_add] at hF1
 obtain ⟨δ2, l2, W2, u5, u6, u7, u8, e2, hW2, hK2⟩ := Jo (γ := Zl 5) (φ := Zd (ZL (Zt (Zb (Za 3) eNil)) (Zl 7) (Zd c1 c2)) c3) (fun δ => ∃ W v5 v6 v7 v8, δ = WE (.lst (ns.map D.int)) m n W v5 v6 v7 v8 /\ Ok m n W /\ Keep W1 W) (Zy 0 1 m) (WE (.lst (ns.map D.int)) m n W1 v5 v6 v7 v8) ⟨_, _, _, _, _, rfl, hW1, Keep.refl W1⟩ (by
  intro x hx δ ⟨W, v5, v6, v7, v8, e, hW, hKW⟩
  subst e
  obtain ⟨a, ha, rfl⟩ := Jp hx
  rw [show (0 + (a : Int) * 1) = a by omega]
  obtain ⟨W', w7, w8, h2, hK', h3⟩ := ZgA hW ns a ha v6 v7 v8
  exact ⟨_, rfl, _, h3, W', _, _, _, _, rfl, h2, hKW.trans hK'⟩)
 subst e2
 refine ⟨W2, hW2, fun r h1 h2 => ?_, ?_⟩
 · obtain ⟨b, k, g1, g2, g3⟩ := hF1 r h1 (by omega)
   exact ⟨b, k, g1, g2, hK2 b k r g3⟩
 have h : f_QG [some (.lst (ns.map D.int)), some (.int 3), some (.int (m : Int)), some (.int (n : Int)), none, none, none, none, none] = some (.rt (Zo W2)) := by
  rw [Zex]
  refine (Zv (Zdg _ m n (by omega) (by omega))).trans ?_
  refine (Zv (XC ((ZdF (i := 1) (j := (m : Int)) rfl (by omega) (by omega) (by decide) (by decide)).trans (by rw [show ((m : Int) - 1).toNat = m - 1 by omega])) l1)).trans ?_
  exact (Zv (XC ((XB (j := (m : Int)) rfl (by omega) (by omega)).trans (by rw [Int.toNat_natCast])) l2)).trans rfl
 exact Xm rfl h
end K33
namespace K33
open DL L2
def ZV (M : List Nat) (W : Wy) : DL.D := .obj "Rooms" ["marks", "ways"] [.str M, .tup (W.map ZZ)]
def Vu : DL.Env -> Option D := (eCB YG (Zb (Za 0) eNil))
theorem Zbl (f : List (Option Nat) -> D) (hf : ∀ r, YG [f r] = some (ZZ r)) (W : Wy) : ZM (Zl 0) (fun _ => some true) Vu [none] (W.map f) = some (W.map ZZ) := by
 induction W with
 | nil => rfl
 | cons r W ih =>
  rw [List.map_cons, List.map_cons]
  unfold ZM
  show (match Vu [some (f r)] with
   | none => none
   | some y => match ZM (Zl 0) (fun _ => some true) Vu [none] (W.map f) with
    | none => none
    | some ys => some (y :: ys)) = _
  rw [show Vu [some (f r)] = some (ZZ r) from (Yq (Zm (x := f r) rfl nil_of)).trans (hf r), ih]
theorem JE {M : List Nat} {W : Wy} {i : Nat} {δ : DL.Env} (h : Za i δ = some (ZV M W)) : Yh Y6 "marks" (Za i) δ = some (.str M) := by unfold Yh; rw [h]; rfl
theorem Zdh {M : List Nat} {W : Wy} {i : Nat} {δ : DL.Env} (h : Za i δ = some (ZV M W)) : Yh XX "ways" (Za i) δ = some (.tup (W.map ZZ)) := by unfold Yh; rw [h]; rfl
theorem ZcG (W : Wy) (hl : W.length <= 100) : XY [Zo W] = some (.tup (W.map ZZ)) := by
 refine Xm (δ := [some (Zo W)]) rfl (XW ?_)
 exact (Yq (Zm (Vr (xs := W.map ZI) rfl rfl (Zbl ZI (fun r => rfl) W) (by rw [List.length_map]; omega)) nil_of)).trans rfl
theorem Zez (M : List Nat) (W : Wy) (hl : W.length <= 100) : Vt [.obj "Rooms" [] [], .str M, .tup (W.map ZZ)] = some (ZV M W) := by
 have hc := Zbl ZZ (fun r => rfl) W
 have he : ∀ x0, eCB YG (Zb (ZN (Yo (Za 2)) (Zl 0) (fun _ => some true) Vu 1 []) eNil) [x0, some (.str M), some (.tup (W.map ZZ))] = some (.tup (W.map ZZ)) := fun x0 => (Yq (Zm (Vr (xs := W.map ZZ) rfl rfl hc (by rw [List.length_map]; omega)) nil_of)).trans rfl
 have hf : f_QE [some (.obj "Rooms" [] []), some (.str M), some (.tup (W.map ZZ))] = some (.nx [some (ZV M W), some (.str M), some (.tup (W.map ZZ))]) := by
  show Zd (Xk 0 Y6 "marks" (Za 1)) (Xk 0 XX "ways" (eCB YG (Zb (ZN (Yo (Za 2)) (Zl 0) (fun _ => some true) Vu 1 []) eNil))) _ = _
  rw [Zv (δ' := [some (.obj "Rooms" ["marks"] [.str M]), some (.str M), some (.tup (W.map ZZ))]) rfl]
  unfold Xk
  rw [he]
  rfl
 show (match f_QE ([DL.D.obj "Rooms" [] [], .str M, .tup (W.map ZZ)].map some ++ List.replicate (3 - 3) none) with
  | some (.nx δ) => Za 0 δ
  | _ => none) = _
 rw [show ([DL.D.obj "Rooms" [] [], .str M, .tup (W.map ZZ)].map some ++ List.replicate (3 - 3) none) = [some (.obj "Rooms" [] []), some (.str M), some (.tup (W.map ZZ))] from rfl, hf]
 rfl
theorem is_mark (M : List Nat) (c : Nat) (hc : c ∈ M) : U7 [.str M, .str [c]] = some (.bl true) := by
 refine Xm (δ := [some (.str M), some (.str [c])]) rfl (XW (Zeo rfl ((Zj (x := .str [c]) (y := .str M) rfl rfl).trans ?_)))
 show some (D.bl (false != decide (c ∈ M))) = some (D.bl true)
 rw [decide_eq_true hc]
 rfl
def ent (M : List Nat) (W : Wy) (e c : Nat) : Option Nat := (W.getD e []).getD (Yk c M).toNat none
theorem ZfJ {m : Nat} {M : List Nat} {W : Wy} (h : Ok m M.length W) {e c : Nat} (he : e < m) (hc : c ∈ M) : U8 [ZV M W, .int (e : Int), .str [c]] = some (oD (ent M W e c)) /\ ∀ t, ent M W e c = some t -> t < m := by
 obtain ⟨r, h1, h2, h3⟩ := h.row he
 obtain ⟨i, hi, _, hiM⟩ := ZaL hc
 have hir : i < r.length := by rw [h3.ln]; exact hiM
 have e2 : r[i]? = some r[i] := List.getElem?_eq_getElem hir
 have e3 : ent M W e c = r[i] := by
  unfold ent
  rw [h2, hi, Int.toNat_natCast, List.getD_eq_getElem?_getD, e2]
  rfl
 refine ⟨?_, fun t ht => h3.pl t (by rw [<- ht, e3]; exact List.getElem_mem hir)⟩
 have ht : Ym (xB (Zu 2 U7 [] (Zb (Yh Y6 "marks" (Za 0)) (Zb (Za 2) eNil)))) [some (ZV M W), some (.int (e : Int)), some (.str [c])] = some false := U1 (b := true) (ZQ ((YB (n := 2) (Zm (JE rfl) (Zm (x := .str [c]) rfl nil_of)) rfl).trans (is_mark M c hc)))
 refine Xm (δ := [some (ZV M W), some (.int (e : Int)), some (.str [c])]) rfl ?_
 refine (Zv ((Xl ht).trans rfl)).trans (XW ?_)
 have ei : indexD M [.str [c]] = some (.int (i : Int)) := by
  show (if 0 <= Yk c M then some (D.int (Yk c M)) else none) = _
  rw [hi, if_pos (by omega)]
 rw [e3]
 refine (Zj (x := ZZ r) (y := .int (i : Int)) ((Zj (Zdh rfl) rfl).trans (ix_tup (by rw [List.getElem?_map, h1]; rfl))) ((Ze3 (JE rfl) (Zm (x := .str [c]) rfl nil_of)).trans ei)).trans (ix_tup (by rw [List.getElem?_map, e2]; rfl))
theorem ZeA {M : List Nat} (hn : M.Nodup) {k : Nat} (hk : k < M.length) : Yk (M.getD k 0) M = (k : Int) := by
 have e : M.getD k 0 = M[k] := by rw [List.getD_eq_getElem?_getD, List.getElem?_eq_getElem hk]; rfl
 have hm : M.getD k 0 ∈ M := by rw [e]; exact List.getElem_mem hk
 obtain ⟨i, h1, h2, h3⟩ := ZaL hm
 rw [h1]
 have : i = k := by
  rw [List.getElem?_eq_getElem h3, e] at h2
  exact (List.getElem_inj hn).mp (Option.some.inj h2)
 rw [this]
theorem ZgB {m : Nat} {M : List Nat} {W : Wy} (hM : Mk M) (h : Ok m M.length W) {e k : Nat} (he : e < m) (hk : k < M.length) : U8 [ZV M W, .int (e : Int), .str [M.getD k 0]] = some (oD (gt W e k)) := by
 have e1 : M.getD k 0 = M[k] := by rw [List.getD_eq_getElem?_getD, List.getElem?_eq_getElem hk]; rfl
 have hm : M.getD k 0 ∈ M := by rw [e1]; exact List.getElem_mem hk
 rw [(ZfJ h he hm).1]
 unfold ent gt
 rw [ZeA hM.nd hk, Int.toNat_natCast]
theorem V7 {m n : Nat} {W : Wy} (h : Ok m n W) {a k t : Nat} (ha : a < m) (e : gt W a k = some t) : t < m /\ k < n := by
 obtain ⟨r, h1, h2, h3⟩ := h.row ha
 unfold gt at e
 rw [h2, List.getD_eq_getElem?_getD] at e
 cases hr : r[k]? with
 | none => rw [hr] at e; cases e
 | some y =>
  rw [hr] at e
  have e' : y = some t := e
  subst e'
  exact ⟨h3.pl t (List.mem_of_getElem? hr), by rw [<- h3.ln]; exact (List.getElem?_eq_some_iff.mp hr).1⟩
end K33
namespace K33
def wk (f : Nat -> Nat -> Option Nat) : Nat -> List Nat -> Option Nat
 | a, [] => some a
 | a, k :: r => match f a k with
  | none => none
  | some t => wk f t r
theorem Qj (f : Nat -> Nat -> Option Nat) : ∀ (r : List Nat) (a k : Nat), wk f a (r ++ [k]) = (match wk f a r with | none => none | some t => f t k)
 | [], a, k => by
  show (match f a k with | none => none | some t => some t) = f a k
  cases f a k <;> rfl
 | j :: r, a, k => by
  show (match f a j with | none => none | some t => wk f t (r ++ [k])) = (match (match f a j with | none => none | some t => wk f t r) with | none => none | some t => f t k)
  cases f a j with
  | none => rfl
  | some t => exact Qj f r t k
def vl (n : Nat) (r : List Nat) : Nat := r.foldl (fun v k => v * n + k + 1) 0
theorem Zb7 (n : Nat) (r : List Nat) (k : Nat) : vl n (r ++ [k]) = vl n r * n + k + 1 := by
 unfold vl
 rw [List.foldl_append]
 rfl
theorem JF (n : Nat) : ∀ (r : List Nat) (v : Nat), r.foldl (fun v k => v * n + k + 1) v = v * n ^ r.length + vl n r
 | [], v => by show v = v * n ^ 0 + 0; simp
 | k :: r, v => by
  rw [List.foldl_cons, JF n r]
  show _ = v * n ^ (r.length + 1) + vl n (k :: r)
  have e : vl n (k :: r) = (0 * n + k + 1) * n ^ r.length + vl n r := JF n r _
  rw [e, Nat.pow_succ, Nat.zero_mul, Nat.zero_add, Nat.add_mul (v * n + k) 1, Nat.add_mul (v * n) k, Nat.add_mul k 1, Nat.mul_assoc v n, Nat.mul_comm n (n ^ r.length)]
  omega
theorem V8 (n k : Nat) (r : List Nat) : vl n (k :: r) = (k + 1) * n ^ r.length + vl n r := by
 have e : vl n (k :: r) = (0 * n + k + 1) * n ^ r.length + vl n r := JF n r _
 rw [e, Nat.zero_mul, Nat.zero_add]
def Dg (n : Nat) (r : List Nat) : Prop := ∀ k ∈ r, k < n
def lw (n : Nat) : Nat -> Nat
 | 0 => 0
 | L + 1 => lw n L + n ^ L
theorem X2 {n : Nat} : ∀ {r : List Nat}, Dg n r -> lw n r.length <= vl n r /\ vl n r < lw n (r.length + 1)
 | [], _ => ⟨Nat.le_refl _, by show 0 < 0 + n ^ 0; simp⟩
 | k :: r, h => by
  obtain ⟨h1, h2⟩ := X2 (r := r) fun x hx => h x (List.mem_cons_of_mem _ hx)
  have hk := h k List.mem_cons_self
  rw [V8, List.length_cons]
  have hp : n ^ (r.length + 1) = n * n ^ r.length := by rw [Nat.pow_succ, Nat.mul_comm]
  have e1 : lw n (r.length + 1 + 1) = lw n (r.length + 1) + n ^ (r.length + 1) := rfl
  have e2 : lw n (r.length + 1) = lw n r.length + n ^ r.length := rfl
  have g1 : (k + 1) * n ^ r.length <= n * n ^ r.length := Nat.mul_le_mul_right _ hk
  have g2 : 1 * n ^ r.length <= (k + 1) * n ^ r.length := Nat.mul_le_mul_right _ (by omega)
  rw [e1, hp]
  exact ⟨by omega, by omega⟩
theorem ZeB (n : Nat) : ∀ {a b : Nat}, a <= b -> lw n a <= lw n b := by
 intro a b h
 induction h with
 | refl => exact Nat.le_refl _
 | step _ ih => exact Nat.le_trans ih (Nat.le_add_right _ _)
theorem Qk {n : Nat} {r s : List Nat} (hr : Dg n r) (hs : Dg n s) (h : r.length < s.length) : vl n r < vl n s :=
 Nat.lt_of_lt_of_le (X2 hr).2 (Nat.le_trans (ZeB n h) (X2 hs).1)
theorem ZfK {n : Nat} : ∀ {r s : List Nat}, Dg n r -> Dg n s -> vl n r = vl n s -> r = s := by
 intro r
 induction r with
 | nil =>
  intro s hr hs e
  cases s with
  | nil => rfl
  | cons k s => have := Qk hr hs (by simp); omega
 | cons k r ih =>
  intro s hr hs e
  have hl : (k :: r).length = s.length := by
   by_cases h1 : (k :: r).length < s.length
   · have := Qk hr hs h1; omega
   · by_cases h2 : s.length < (k :: r).length
     · have := Qk hs hr h2; omega
     · omega
  cases s with
  | nil => simp at hl
  | cons j s =>
   have hl' : r.length = s.length := by simpa using hl
   have hr' : Dg n r := fun x hx => hr x (List.mem_cons_of_mem _ hx)
   have hs' : Dg n s := fun x hx => hs x (List.mem_cons_of_mem _ hx)
   have b1 := X2 hr'
   have b2 := X2 hs'
   rw [V8, V8, hl'] at e
   rw [hl'] at b1
   have ew : lw n (s.length + 1) = lw n s.length + n ^ s.length := rfl
   rw [ew] at b1 b2
   have hkj : k = j := by
    rcases Nat.lt_trichotomy k j with h | h | h
    · have : (k + 1 + 1) * n ^ s.length <= (j + 1) * n ^ s.length := Nat.mul_le_mul_right _ (by omega)
      rw [Nat.add_mul (k + 1) 1, Nat.one_mul] at this
      omega
    · exact h
    · have : (j + 1 + 1) * n ^ s.length <= (k + 1) * n ^ s.length := Nat.mul_le_mul_right _ (by omega)
      rw [Nat.add_mul (j + 1) 1, Nat.one_mul] at this
      omega
   subst hkj
   rw [ih hr' hs' (by omega)]
structure Bf (f : Nat -> Nat -> Option Nat) (m n : Nat) (P : List Nat) (Q : List (List Nat × Nat)) (p k : Nat) : Prop where
 b0 : ∃ T, Q = ([], 0) :: T
 b1 : ∀ x ∈ Q, wk f 0 x.1 = some x.2 /\ Dg n x.1 /\ x.2 < m
 b2 : (Q.map Prod.snd).Nodup
 b3 : Q.Pairwise fun x y => vl n x.1 < vl n y.1
 b4 : ∀ i, i < p -> ∀ x, Q[i]? = some x -> ∀ j t, f x.2 j = some t -> ∃ y ∈ Q, y.2 = t /\ vl n y.1 <= vl n x.1 * n + j + 1
 b5 : ∀ x, Q[p]? = some x -> (∀ j, j < k -> ∀ t, f x.2 j = some t -> ∃ y ∈ Q, y.2 = t /\ vl n y.1 <= vl n x.1 * n + j + 1) /\ ∀ y ∈ Q, vl n y.1 <= vl n x.1 * n + k
 b6 : ∀ i, i < p -> ∀ x, Q[i]? = some x -> x.2 ∉ P
section
variable {f : Nat -> Nat -> Option Nat} {m n : Nat} {P : List Nat} {Q : List (List Nat × Nat)} {p k : Nat}
theorem Bf.first (hn : 0 < n) (hm : 0 < m) : Bf f m n P [([], 0)] 0 0 := by
 refine ⟨⟨[], rfl⟩, fun x hx => ?_, by simp, by simp, fun i hi => absurd hi (by omega), fun x hx => ?_, fun i hi => absurd hi (by omega)⟩
 · rw [List.mem_singleton.mp hx]
   exact ⟨rfl, (fun _ z => by cases z), hm⟩
 · cases hx
   exact ⟨fun j hj => absurd hj (by omega), fun y hy => by rw [List.mem_singleton.mp hy]; exact Nat.zero_le _⟩
theorem Bf.skip (B : Bf f m n P Q p k) {x : List Nat × Nat} (hx : Q[p]? = some x) (h : ∀ t, f x.2 k = some t -> ∃ y ∈ Q, y.2 = t) : Bf f m n P Q p (k + 1) := by
 refine ⟨B.b0, B.b1, B.b2, B.b3, B.b4, fun x' hx' => ?_, B.b6⟩
 rw [hx] at hx'
 cases hx'
 obtain ⟨h1, h2⟩ := B.b5 x hx
 refine ⟨fun j hj t ht => ?_, fun y hy => by have := h2 y hy; omega⟩
 by_cases hjk : j = k
 · subst hjk
   obtain ⟨y, hy, e⟩ := h t ht
   exact ⟨y, hy, e, by have := h2 y hy; omega⟩
 · exact h1 j (by omega) t ht
theorem Bf.put (B : Bf f m n P Q p k) {x : List Nat × Nat} (hx : Q[p]? = some x) (hk : k < n) {t : Nat} (ht : f x.2 k = some t) (htm : t < m) (hno : ∀ y ∈ Q, y.2 ≠ t) : Bf f m n P (Q ++ [(x.1 ++ [k], t)]) p (k + 1) := by
 obtain ⟨T, hT⟩ := B.b0
 obtain ⟨h1, h2⟩ := B.b5 x hx
 have hxm : x ∈ Q := List.mem_of_getElem? hx
 have hpl : p < Q.length := (List.getElem?_eq_some_iff.mp hx).1
 have hv : vl n (x.1 ++ [k]) = vl n x.1 * n + k + 1 := Zb7 n x.1 k
 have up : ∀ i y, i < Q.length -> (Q ++ [(x.1 ++ [k], t)])[i]? = some y -> Q[i]? = some y := fun i y hi e => by rw [List.getElem?_append_left hi] at e; exact e
 have lift : ∀ {u w : Nat}, (∃ y ∈ Q, y.2 = u /\ vl n y.1 <= w) -> ∃ y ∈ Q ++ [(x.1 ++ [k], t)], y.2 = u /\ vl n y.1 <= w := fun ⟨y, hy, e⟩ => ⟨y, List.mem_append_left _ hy, e⟩
 refine ⟨⟨T ++ [(x.1 ++ [k], t)], by rw [hT]; rfl⟩, fun y hy => ?_, ?_, ?_, fun i hi y hy j u hu => ?_, fun y hy => ?_, fun i hi y hy => ?_⟩
 · rcases List.mem_append.mp hy with hy | hy
   · exact B.b1 y hy
   · rw [List.mem_singleton.mp hy]
     obtain ⟨g1, g2, g3⟩ := B.b1 x hxm
     refine ⟨by rw [Qj, g1]; exact ht, fun j hj => ?_, htm⟩
     rcases List.mem_append.mp hj with hj | hj
     · exact g2 j hj
     · rw [List.mem_singleton.mp hj]; exact hk
 · rw [List.map_append, List.nodup_append]
   refine ⟨B.b2, by simp, fun a ha b hb => ?_⟩
   obtain ⟨y, hy, rfl⟩ := List.mem_map.mp ha
   have : b = t := by simpa using hb
   rw [this]
   exact hno y hy
 · rw [List.pairwise_append]
   refine ⟨B.b3, by simp, fun a ha b hb => ?_⟩
   rw [List.mem_singleton.mp hb]
   have := h2 a ha
   show vl n a.1 < vl n (x.1 ++ [k])
   omega
 · exact lift (B.b4 i hi y (up i y (by omega) hy) j u hu)
 · rw [List.getElem?_append_left hpl, hx] at hy
   cases hy
   refine ⟨fun j hj u hu => ?_, fun y hy => ?_⟩
   · by_cases hjk : j = k
     · subst hjk
       rw [ht] at hu
       cases hu
       exact ⟨_, List.mem_append_right _ (List.mem_singleton.mpr rfl), rfl, Nat.le_of_eq hv⟩
     · exact lift (h1 j (by omega) u hu)
   · rcases List.mem_append.mp hy with hy | hy
     · have := h2 y hy; omega
     · rw [List.mem_singleton.mp hy]; show vl n (x.1 ++ [k]) <= _; omega
 · exact B.b6 i hi y (up i y (by omega) hy)
theorem Bf.next (B : Bf f m n P Q p n) {x : List Nat × Nat} (hx : Q[p]? = some x) (hout : x.2 ∉ P) (hfn : ∀ a j t, f a j = some t -> a < m -> j < n) : Bf f m n P Q (p + 1) 0 := by
 obtain ⟨h1, h2⟩ := B.b5 x hx
 have hxm := (B.b1 x (List.mem_of_getElem? hx)).2.2
 refine ⟨B.b0, B.b1, B.b2, B.b3, fun i hi y hy j t ht => ?_, fun y hy => ⟨fun j hj => absurd hj (by omega), fun z hz => ?_⟩, fun i hi y hy => ?_⟩
 · by_cases hip : i = p
   · subst hip
     rw [hx] at hy
     cases hy
     exact h1 j (hfn _ _ _ ht hxm) t ht
   · exact B.b4 i (by omega) y hy j t ht
 · obtain ⟨l1, e1⟩ := List.getElem?_eq_some_iff.mp hx
   obtain ⟨l2, e2⟩ := List.getElem?_eq_some_iff.mp hy
   have hlt := List.pairwise_iff_getElem.mp B.b3 p (p + 1) l1 l2 (by omega)
   rw [e1, e2] at hlt
   have hz2 := h2 z hz
   have : (vl n x.1 + 1) * n <= vl n y.1 * n := Nat.mul_le_mul_right _ hlt
   rw [Nat.add_mul, Nat.one_mul] at this
   omega
 · by_cases hip : i = p
   · subst hip
     rw [hx] at hy
     cases hy
     exact hout
   · exact B.b6 i (by omega) y hy
omit f m n P Q p k in
theorem JG : ∀ (m : Nat) (l : List Nat), l.Nodup -> (∀ a ∈ l, a < m) -> l.length <= m
 | 0, l, _, h => by
  cases l with
  | nil => exact Nat.le_refl _
  | cons a l => exact absurd (h a List.mem_cons_self) (by omega)
 | m + 1, l, hn, h => by
  by_cases hm : m ∈ l
  · have h1 := JG m (l.erase m) (hn.erase m) fun a ha => by
     have h2 := h a (List.mem_of_mem_erase ha)
     have h3 : a ≠ m := fun z => by rw [z] at ha; exact (hn.not_mem_erase) ha
     omega
    rw [List.length_erase_of_mem hm] at h1
    omega
  · have := JG m l hn fun a ha => by
     have h2 := h a ha
     have h3 : a ≠ m := fun z => hm (z ▸ ha)
     omega
    omega
theorem Bf.len (B : Bf f m n P Q p k) : Q.length <= m := by
 have h1 : ∀ a ∈ Q.map Prod.snd, a < m := fun a ha => by
  obtain ⟨y, hy, rfl⟩ := List.mem_map.mp ha
  exact (B.b1 y hy).2.2
 have h2 := B.b2
 generalize hl : Q.map Prod.snd = l at h1 h2
 have hlen : l.length = Q.length := by rw [<- hl, List.length_map]
 rw [<- hlen]
 exact JG m l h2 h1
theorem Bf.more (B : Bf f m n P Q p 0) (hfed : ∀ r, 0 < r -> r < m -> ∃ b j, b < r /\ f b j = some r) (hP : ∃ a ∈ P, a < m) : p < Q.length := by
 apply Classical.byContradiction
 intro hp
 have all : ∀ r, r < m -> ∃ y ∈ Q, y.2 = r := by
  intro r
  induction r using Nat.strongRecOn with
  | _ r ih =>
   intro hr
   by_cases h0 : r = 0
   · obtain ⟨T, hT⟩ := B.b0
     exact ⟨([], 0), by rw [hT]; exact List.mem_cons_self, h0.symm⟩
   · obtain ⟨b, j, hb, hf⟩ := hfed r (by omega) hr
     obtain ⟨y, hy, e⟩ := ih b hb (by omega)
     obtain ⟨i, hi, e2⟩ := List.mem_iff_getElem.mp hy
     obtain ⟨z, hz, ez, _⟩ := B.b4 i (by omega) y (by rw [List.getElem?_eq_getElem hi, e2]) j r (by rw [e]; exact hf)
     exact ⟨z, hz, ez⟩
 obtain ⟨a, ha, ham⟩ := hP
 obtain ⟨y, hy, e⟩ := all a ham
 obtain ⟨i, hi, e2⟩ := List.mem_iff_getElem.mp hy
 exact B.b6 i (by omega) y (by rw [List.getElem?_eq_getElem hi, e2]) (by rw [e]; exact ha)
theorem Bf.least (hn : 0 < n) (B : Bf f m n P Q p k) {x : List Nat × Nat} (hx : Q[p]? = some x) (w : List Nat) (hw : Dg n w) (t : Nat) (ht : t ∈ P) (hwt : wk f 0 w = some t) (hfn : ∀ a j t, f a j = some t -> a < m -> j < n) : vl n x.1 <= vl n w := by
 obtain ⟨lp, ep⟩ := List.getElem?_eq_some_iff.mp hx
 have le : ∀ j y, p <= j -> Q[j]? = some y -> vl n x.1 <= vl n y.1 := fun j y hj hy => by
  obtain ⟨l2, e2⟩ := List.getElem?_eq_some_iff.mp hy
  by_cases h : j = p
  · subst h; rw [hx] at hy; cases hy; exact Nat.le_refl _
  · have := List.pairwise_iff_getElem.mp B.b3 p j lp l2 (by omega)
    rw [ep, e2] at this
    omega
 have claim : ∀ (N : Nat) (w : List Nat), w.length = N -> ∀ u, wk f 0 w = some u -> (∃ i y, i < p /\ Q[i]? = some y /\ y.2 = u /\ vl n y.1 <= vl n w) \/ vl n x.1 <= vl n w := by
  intro N
  induction N with
  | zero =>
   intro w hN u hu
   have : w = [] := List.length_eq_zero_iff.mp hN
   subst this
   cases hu
   obtain ⟨T, hT⟩ := B.b0
   have h0 : Q[0]? = some ([], 0) := by rw [hT]; rfl
   by_cases hp : p = 0
   · subst hp
     rw [h0] at hx
     cases hx
     exact .inr (Nat.le_refl _)
   · exact .inl ⟨0, _, by omega, h0, rfl, Nat.le_refl _⟩
  | succ N ih =>
   intro w hN u hu
   have hne : w ≠ [] := fun z => by rw [z] at hN; cases hN
   obtain ⟨w', j, rfl⟩ : ∃ w' j, w = w' ++ [j] := ⟨w.dropLast, w.getLast hne, (List.dropLast_concat_getLast hne).symm⟩
   rw [Qj] at hu
   cases hw' : wk f 0 w' with
   | none => rw [hw'] at hu; cases hu
   | some v =>
    rw [hw'] at hu
    rw [Zb7]
    rcases ih w' (by simpa using hN) v hw' with ⟨i, y, hi, hy, ey, hle⟩ | hle
    · obtain ⟨z, hz, ez, hz2⟩ := B.b4 i hi y hy j u (by rw [ey]; exact hu)
      have hmul : vl n y.1 * n <= vl n w' * n := Nat.mul_le_mul_right _ hle
      obtain ⟨i', hi', e'⟩ := List.mem_iff_getElem.mp hz
      have hq : Q[i']? = some z := by rw [List.getElem?_eq_getElem hi', e']
      by_cases hlt : i' < p
      · exact .inl ⟨i', z, hlt, hq, ez, by omega⟩
      · exact .inr (Nat.le_trans (le i' z (by omega) hq) (by omega))
    · refine .inr (Nat.le_trans hle ?_)
      have : vl n w' * 1 <= vl n w' * n := Nat.mul_le_mul_left _ (by omega)
      omega
 rcases claim w.length w rfl t hwt with ⟨i, y, hi, hy, ey, _⟩ | h
 · exact absurd ht (by rw [<- ey]; exact B.b6 i hi y hy)
 · exact h
end
end K33
namespace K33
def Rh (f : Nat -> Nat -> Option Nat) (n : Nat) (P : List Nat) (h L : Nat) : Prop := ∃ w, w.length = L /\ Dg n w /\ ∃ t ∈ P, wk f h w = some t
def gO (os : List Int) (h : Nat) : Int := os.getD h 0
theorem X3 {os : List Int} {h : Nat} (hl : h < os.length) (v : Int) (u : Nat) : gO (os.set h v) u = if u = h then v else gO os u := by
 unfold gO
 by_cases e : u = h
 · subst e
   rw [if_pos rfl, List.getD_eq_getElem?_getD, List.getElem?_set_self hl]
   rfl
 · rw [if_neg e, List.getD_eq_getElem?_getD, List.getElem?_set_ne (fun z => e z.symm), <- List.getD_eq_getElem?_getD]
structure Of (f : Nat -> Nat -> Option Nat) (m n : Nat) (P : List Nat) (os : List Int) : Prop where
 ln : os.length = m
 lo : ∀ h, h < m -> 0 <= gO os h /\ gO os h <= 99
 z : ∀ h, h < m -> (gO os h = 0 ↔ h ∈ P)
 st : ∀ h, h < m -> 0 < gO os h -> gO os h < 99 -> ∃ k t, k < n /\ t < m /\ f h k = some t /\ gO os t + 1 <= gO os h
section
variable {f : Nat -> Nat -> Option Nat} {m n : Nat} {P : List Nat} {os : List Int}
theorem Rh.zero {h : Nat} (r : Rh f n P h 0) : h ∈ P := by
 obtain ⟨w, hw, _, t, ht, e⟩ := r
 have : w = [] := List.length_eq_zero_iff.mp hw
 subst this
 cases e
 exact ht
theorem Rh.succ {h L : Nat} (r : Rh f n P h (L + 1)) : ∃ k t, k < n /\ f h k = some t /\ Rh f n P t L := by
 obtain ⟨w, hw, hd, t, ht, e⟩ := r
 cases w with
 | nil => simp at hw
 | cons k w =>
  unfold wk at e
  cases hf : f h k with
  | none => rw [hf] at e; cases e
  | some u =>
   rw [hf] at e
   exact ⟨k, u, hd k List.mem_cons_self, hf, w, by simpa using hw, fun x hx => hd x (List.mem_cons_of_mem _ hx), t, ht, e⟩
theorem Rh.step {h k t L : Nat} (hk : k < n) (hf : f h k = some t) (r : Rh f n P t L) : Rh f n P h (L + 1) := by
 obtain ⟨w, hw, hd, u, hu, e⟩ := r
 refine ⟨k :: w, by rw [List.length_cons, hw], fun x hx => ?_, u, hu, ?_⟩
 · rcases List.mem_cons.mp hx with rfl | hx
   · exact hk
   · exact hd x hx
 · unfold wk
   rw [hf]
   exact e
theorem Of.relax (A : Of f m n P os) {h k t : Nat} (hh : h < m) (hk : k < n) (ht : t < m) (hf : f h k = some t) : Of f m n P (os.set h (min (gO os h) (gO os t + 1))) /\ ∀ u, gO (os.set h (min (gO os h) (gO os t + 1))) u <= gO os u := by
 have hl : h < os.length := by rw [A.ln]; exact hh
 have hlo := A.lo h hh
 have tlo := A.lo t ht
 have dec : ∀ u, gO (os.set h (min (gO os h) (gO os t + 1))) u <= gO os u := fun u => by
  rw [X3 hl]
  by_cases e : u = h
  · rw [if_pos e, e]; omega
  · rw [if_neg e]; exact Int.le_refl _
 refine ⟨⟨by rw [List.length_set]; exact A.ln, fun u hu => ?_, fun u hu => ?_, fun u hu h0 h9 => ?_⟩, dec⟩
 · rw [X3 hl]
   by_cases e : u = h
   · rw [if_pos e]; omega
   · rw [if_neg e]; exact A.lo u hu
 · rw [X3 hl]
   by_cases e : u = h
   · rw [if_pos e, e, <- A.z h hh]
     constructor
     · intro h1; omega
     · intro h1; omega
   · rw [if_neg e]; exact A.z u hu
 · by_cases e : u = h
   · subst e
     rw [X3 hl, if_pos rfl] at h0 h9 ⊢
     by_cases hlt : gO os t + 1 < gO os u
     · have htu : t ≠ u := fun z => by rw [z] at hlt; omega
       refine ⟨k, t, hk, ht, hf, ?_⟩
       rw [X3 hl, if_neg htu]
       omega
     · have he : min (gO os u) (gO os t + 1) = gO os u := by omega
       rw [he] at h0 h9 ⊢
       obtain ⟨k', t', g1, g2, g3, g4⟩ := A.st u hu h0 h9
       have := dec t'
       rw [he] at this
       exact ⟨k', t', g1, g2, g3, by omega⟩
   · rw [X3 hl, if_neg e] at h0 h9 ⊢
     obtain ⟨k', t', g1, g2, g3, g4⟩ := A.st u hu h0 h9
     have := dec t'
     exact ⟨k', t', g1, g2, g3, by omega⟩
def Up (f : Nat -> Nat -> Option Nat) (m n : Nat) (P : List Nat) (os : List Int) (T : Nat) : Prop := ∀ h, h < m -> ∀ L : Nat, L <= T -> Rh f n P h L -> gO os h <= L
theorem JH {α : Type} (p q : α -> Bool) : ∀ (l : List α) (x : α), (∀ u ∈ l, p u = true -> q u = true) -> x ∈ l -> p x = false -> q x = true -> l.countP p + 1 <= l.countP q
 | [], x, _, h, _, _ => by cases h
 | y :: l, x, h, hx, hp, hq => by
  have mono : l.countP p <= l.countP q := List.countP_mono_left fun u hu e => h u (List.mem_cons_of_mem _ hu) e
  rw [List.countP_cons, List.countP_cons]
  rcases List.mem_cons.mp hx with rfl | hx
  · rw [hp, hq]
    simp
    omega
  · have ih := JH p q l x (fun u hu => h u (List.mem_cons_of_mem _ hu)) hx hp hq
    have hy := h y List.mem_cons_self
    cases hpy : p y with
    | false => simp; omega
    | true => rw [hy hpy]; simp; omega
def cnO (m : Nat) (os : List Int) (v : Int) : Nat := (List.range m).countP fun u => decide (gO os u < v)
theorem ZfL {m : Nat} {os : List Int} {t : Nat} {v : Int} (ht : t < m) (h : gO os t < v) : cnO m os (gO os t) + 1 <= cnO m os v :=
 JH _ _ _ t (fun u _ e => by simp at e ⊢; omega) (List.mem_range.mpr ht) (by simp) (by simpa using h)
theorem ZfM {m : Nat} {os : List Int} {t : Nat} (ht : t < m) : cnO m os (gO os t) + 1 <= m := by
 have := JH (fun u => decide (gO os u < gO os t)) (fun _ => true) (List.range m) t (fun _ _ _ => rfl) (List.mem_range.mpr ht) (by simp) rfl
 rw [List.countP_true, List.length_range] at this
 exact this
section
variable (A : Of f m n P os) (U : Up f m n P os m)
include A U
theorem Zg7 : ∀ (N : Nat) (h : Nat), h < m -> (gO os h).toNat = N -> gO os h < 99 -> ∃ L : Nat, Rh f n P h L /\ (L : Int) = gO os h /\ L + 1 <= m := by
 have go : ∀ (N : Nat) (h : Nat), h < m -> (gO os h).toNat = N -> gO os h < 99 -> ∃ L : Nat, Rh f n P h L /\ (L : Int) <= gO os h /\ L <= cnO m os (gO os h) := by
  intro N
  induction N using Nat.strongRecOn with
  | _ N ih =>
   intro h hh hN h9
   have hlo := A.lo h hh
   by_cases h0 : gO os h = 0
   · exact ⟨0, ⟨[], rfl, (fun _ z => by cases z), h, (A.z h hh).mp h0, rfl⟩, by omega, Nat.zero_le _⟩
   · obtain ⟨k, t, g1, g2, g3, g4⟩ := A.st h hh (by omega) h9
     have tlo := A.lo t g2
     obtain ⟨L, r1, r2, r3⟩ := ih (gO os t).toNat (by omega) t g2 rfl (by omega)
     have := ZfL (os := os) (v := gO os h) g2 (by omega)
     exact ⟨L + 1, .step g1 g3 r1, by omega, by omega⟩
 intro N h hh hN h9
 obtain ⟨L, r1, r2, r3⟩ := go N h hh hN h9
 have hc := ZfM (os := os) hh
 have := U h hh L (by omega) r1
 exact ⟨L, r1, by omega, by omega⟩
theorem JI {h k t : Nat} (hh : h < m) (hk : k < n) (ht : t < m) (hf : f h k = some t) : gO os h <= gO os t + 1 := by
 have hlo := A.lo h hh
 have tlo := A.lo t ht
 by_cases h9 : gO os t < 99
 · obtain ⟨L, r1, r2, r3⟩ := Zg7 A U _ t ht rfl h9
   have := U h hh (L + 1) r3 (.step hk hf r1)
   omega
 · omega
theorem Qm (hfm : ∀ a j t, f a j = some t -> a < m -> t < m) : ∀ (w : List Nat) (h t : Nat), h < m -> Dg n w -> wk f h w = some t -> t ∈ P -> gO os h <= w.length
 | [], h, t, hh, _, e, ht => by
  cases e
  have := (A.z h hh).mpr ht
  rw [this]
  exact Int.natCast_nonneg _
 | k :: w, h, t, hh, hd, e, ht => by
  unfold wk at e
  cases hf : f h k with
  | none => rw [hf] at e; cases e
  | some u =>
   rw [hf] at e
   have hu := hfm h k u hf hh
   have h1 := Qm hfm w u t hu (fun x hx => hd x (List.mem_cons_of_mem _ hx)) e ht
   have h2 := JI A U hh (hd k List.mem_cons_self) hu hf
   rw [List.length_cons]
   omega
end
inductive Gr (f : Nat -> Nat -> Option Nat) (n : Nat) (P : List Nat) (os : List Int) : Nat -> List Nat -> Nat -> Prop where
 | stop {h : Nat} (e : gO os h = 0) (hp : h ∈ P) : Gr f n P os h [] h
 | step {h k t e : Nat} {g : List Nat} (h0 : 0 < gO os h) (hk : k < n) (hf : f h k = some t) (ht : gO os t = gO os h - 1) (hl : ∀ j, j < k -> ∀ u, f h j = some u -> gO os u ≠ gO os h - 1) (r : Gr f n P os t g e) : Gr f n P os h (k :: g) e
theorem Zb8 (p : Nat -> Prop) [DecidablePred p] : ∀ (n : Nat), (∃ k, k < n /\ p k) -> ∃ k, k < n /\ p k /\ ∀ j, j < k -> ¬ p j
 | 0, ⟨k, h, _⟩ => absurd h (by omega)
 | n + 1, ⟨k, h, hp⟩ => by
  by_cases hex : ∃ k, k < n /\ p k
  · obtain ⟨k', h1, h2, h3⟩ := Zb8 p n hex
    exact ⟨k', by omega, h2, h3⟩
  · have hkn : k = n := by
     apply Classical.byContradiction
     intro z
     exact hex ⟨k, by omega, hp⟩
    exact ⟨k, h, hp, fun j hj hpj => hex ⟨j, by omega, hpj⟩⟩
section
variable (A : Of f m n P os) (U : Up f m n P os m) (hfm : ∀ a j t, f a j = some t -> a < m -> t < m)
include A U hfm
open Classical in
theorem ZgC : ∀ (N : Nat) (h : Nat), h < m -> (gO os h).toNat = N -> gO os h < 99 -> ∃ g e, Gr f n P os h g e := by
 intro N
 induction N with
 | zero =>
  intro h hh hN h9
  have hlo := A.lo h hh
  have h0 : gO os h = 0 := by omega
  exact ⟨[], h, .stop h0 ((A.z h hh).mp h0)⟩
 | succ N ih =>
  intro h hh hN h9
  have hlo := A.lo h hh
  have hex : ∃ k, k < n /\ ∃ t, f h k = some t /\ gO os t = gO os h - 1 := by
   obtain ⟨k, t, g1, g2, g3, g4⟩ := A.st h hh (by omega) h9
   have := JI A U hh g1 g2 g3
   exact ⟨k, g1, t, g3, by omega⟩
  obtain ⟨k, hk, ⟨t, hf, ht⟩, hl⟩ := Zb8 (fun k => ∃ t, f h k = some t /\ gO os t = gO os h - 1) n hex
  obtain ⟨g, e, r⟩ := ih t (hfm h k t hf hh) (by omega) (by omega)
  exact ⟨k :: g, e, .step (by omega) hk hf ht (fun j hj u hu z => hl j hj ⟨u, hu, z⟩) r⟩
theorem ZgD {h e : Nat} {g : List Nat} (r : Gr f n P os h g e) (hh : h < m) : Dg n g /\ wk f h g = some e /\ e ∈ P /\ (g.length : Int) = gO os h /\ ∀ w t, Dg n w -> wk f h w = some t -> t ∈ P -> vl n g <= vl n w := by
 induction r with
 | stop e0 hp => exact ⟨(fun _ z => by cases z), rfl, hp, by rw [e0]; rfl, fun w t _ _ _ => Nat.zero_le _⟩
 | @step h k t e g h0 hk hf ht hl r ih =>
  have htm := hfm h k t hf hh
  obtain ⟨i1, i2, i3, i4, i5⟩ := ih htm
  have hd : Dg n (k :: g) := fun x hx => by
   rcases List.mem_cons.mp hx with rfl | hx
   · exact hk
   · exact i1 x hx
  refine ⟨hd, ?_, i3, by rw [List.length_cons]; omega, fun w u hw hwu hu => ?_⟩
  · unfold wk
    rw [hf]
    exact i2
  · have hle := Qm A U hfm w h u hh hw hwu hu
    by_cases hlen : (k :: g).length < w.length
    · exact Nat.le_of_lt (Qk hd hw hlen)
    · have hl2 : g.length + 1 = w.length := by
       rw [List.length_cons] at hlen
       omega
      cases w with
      | nil => simp at hl2
      | cons k' w' =>
       have hw' : Dg n w' := fun x hx => hw x (List.mem_cons_of_mem _ hx)
       unfold wk at hwu
       cases hf' : f h k' with
       | none => rw [hf'] at hwu; cases hwu
       | some t' =>
        rw [hf'] at hwu
        have ht' := hfm h k' t' hf' hh
        have hle' := Qm A U hfm w' t' u ht' hw' hwu hu
        have hed := JI A U hh (hw k' List.mem_cons_self) ht' hf'
        have hgl : g.length = w'.length := by simpa using hl2
        have heq : gO os t' = gO os h - 1 := by omega
        rw [V8, V8, hgl]
        by_cases hkk : k' < k
        · exact absurd heq (hl k' hkk t' hf')
        · by_cases hke : k' = k
          · subst hke
            rw [hf] at hf'
            cases hf'
            have := i5 w' u hw' hwu hu
            omega
          · have b1 := (X2 i1).2
            have b2 := (X2 hw').1
            rw [hgl] at b1
            have ew : lw n (w'.length + 1) = lw n w'.length + n ^ w'.length := rfl
            rw [ew] at b1
            have : (k + 1 + 1) * n ^ w'.length <= (k' + 1) * n ^ w'.length := Nat.mul_le_mul_right _ (by omega)
            rw [Nat.add_mul (k + 1) 1, Nat.one_mul] at this
            omega
theorem ZcH (hfed : ∀ r, 0 < r -> r < m -> ∃ b j, b < r /\ j < n /\ f b j = some r) (hP : ∃ a ∈ P, a < m) (hm : m <= 50) (hm0 : 0 < m) : gO os 0 < 99 := by
 have path : ∀ r, r < m -> ∃ w : List Nat, w.length <= r /\ Dg n w /\ wk f 0 w = some r := by
  intro r
  induction r using Nat.strongRecOn with
  | _ r ih =>
   intro hr
   by_cases h0 : r = 0
   · exact ⟨[], Nat.zero_le _, (fun _ z => by cases z), by rw [h0]; rfl⟩
   · obtain ⟨b, j, hb, hj, hf⟩ := hfed r (by omega) hr
     obtain ⟨w, w1, w2, w3⟩ := ih b hb (by omega)
     refine ⟨w ++ [j], by rw [List.length_append, List.length_singleton]; omega, fun x hx => ?_, by rw [Qj, w3]; exact hf⟩
     rcases List.mem_append.mp hx with hx | hx
     · exact w2 x hx
     · rw [List.mem_singleton.mp hx]; exact hj
 obtain ⟨a, ha, ham⟩ := hP
 obtain ⟨w, w1, w2, w3⟩ := path a ham
 have := Qm A U hfm w 0 a hm0 w2 w3 ha
 omega
end
end
end K33
namespace K33
open DL L2
def nD (a : Nat) : D := .int (a : Int)
def PD (P : List Nat) : D := .lst (P.map nD)
abbrev tkK (tk : List Nat) : List Key := tk.map fun t : Nat => (.inl (t : Int) : Key)
theorem JJ (t : Nat) : ∀ tk : List Nat, YA (.inl (t : Int)) (tkK tk) = decide (t ∈ tk)
 | [] => by simp [YA, tkK]
 | u :: tk => by
  show (decide ((.inl (u : Int) : Key) = .inl (t : Int)) || YA (.inl (t : Int)) (tkK tk)) = _
  rw [JJ t tk]
  by_cases h : u = t
  · subst h
    simp
  · have h2 : ¬ t = u := fun z => h z.symm
    have h3 : ¬ ((.inl (u : Int) : Key) = .inl (t : Int)) := fun z => by
     have := Sum.inl.inj z
     omega
    simp [h2, h3]
theorem Ze6 (t : Nat) : ∀ P : List Nat, inV (.int (t : Int)) ((P.map nD).map val) = decide (t ∈ P)
 | [] => by simp [inV]
 | p :: P => by
  have ih := Ze6 t P
  unfold inV at ih ⊢
  rw [List.map_cons, List.map_cons, List.any_cons, ih]
  show (((p : Int) == (t : Int)) || decide (t ∈ P)) = _
  by_cases e : p = t
  · subst e
    simp
  · have e2 : ¬ t = p := fun z => e z.symm
    have e3 : ((p : Int) == (t : Int)) = false := by simp; omega
    rw [e3]
    simp [e2]
theorem Zg8 (P : List Nat) : (P.map nD).all Zi = true := by
 rw [List.all_map]
 exact List.all_eq_true.mpr fun x _ => rfl
theorem JK (t : Nat) (P : List Nat) : inD true (.int (t : Int)) (PD P) = some (.bl (!decide (t ∈ P))) := by
 show (if (Zi (.int (t : Int)) && (P.map nD).all Zi) = true then some (D.bl (if true = true then !(inV (.int (t : Int)) ((P.map nD).map val)) else inV (.int (t : Int)) ((P.map nD).map val))) else none) = _
 rw [Zg8, if_pos (show (Zi (.int (t : Int)) && true) = true from rfl), if_pos rfl, Ze6]
theorem Zdi {ε : DL.Env -> Option D} {δ : DL.Env} {xs : List D} (h : ε δ = some (.lst xs)) : Yo ε δ = some xs := by
 unfold Yo
 rw [h]
theorem Zdj {ε : DL.Env -> Option D} {δ : DL.Env} {cs : List Nat} (h : ε δ = some (.str cs)) : Yo ε δ = some (cs.map fun c => D.str [c]) := by
 unfold Yo
 rw [h]
def ch (M : List Nat) (r : List Nat) : List Nat := r.map fun k => M.getD k 0
abbrev Qu := List (List Nat × Nat)
def RD (M : List Nat) (Q : Qu) : D := .dct (tkK (Q.map Prod.snd)) (Q.map fun x => .str (ch M x.1))
def OD (Q : Qu) : D := .lst (Q.map fun x => nD x.2)
theorem JL (M : List Nat) : ∀ (Q : Qu) (x : List Nat × Nat), (Q.map Prod.snd).Nodup -> x ∈ Q -> XT (.inl (x.2 : Int)) (tkK (Q.map Prod.snd)) (Q.map fun x => D.str (ch M x.1)) = some (.str (ch M x.1))
 | [], x, _, h => by cases h
 | y :: Q, x, hn, h => by
  rw [List.map_cons, List.map_cons]
  show (if (.inl (y.2 : Int) : Key) = .inl (x.2 : Int) then some (D.str (ch M y.1)) else XT (.inl (x.2 : Int)) (tkK (Q.map Prod.snd)) (Q.map fun x => D.str (ch M x.1))) = _
  rw [List.map_cons, List.nodup_cons] at hn
  rcases List.mem_cons.mp h with rfl | hx
  · rw [if_pos rfl]
  · have hne : y.2 ≠ x.2 := fun z => hn.1 (by rw [z]; exact List.mem_map_of_mem hx)
    rw [if_neg (fun z => hne (by have := Sum.inl.inj z; omega)), JL M Q x hn.2 hx]
abbrev TE8 (M : List Nat) (W : Wy) (P : List Nat) (Q : Qu) (v4 v5 v6 v7 : Option D) : DL.Env := [some (ZV M W), some (PD P), some (RD M Q), some (OD Q), v4, v5, v6, v7]
noncomputable def l1 : DL.Env -> Option Out := (Zh 7 (XR "led" U9 (Za 0) (Zb (Za 5) (Zb (Za 6) eNil))))
noncomputable def l2 : DL.Env -> Option Out := (Zd (XU 2 (Za 7) (eOp addX (eOp Y4 (Za 2) (Za 5)) (Za 6))) (Xx 3 (Za 7)))
noncomputable def l3 : DL.Env -> Option Out := (sIf (Z5 (xB (Ye (Za 7))) (xB (eOp (inK true) (Za 7) (Za 2)))) l2 sNext)
noncomputable def lF : DL.Env -> Option Out := (ZL (Yo (Yh Y6 "marks" (Za 0))) (Zl 6) (Zd l1 l3))
noncomputable def lT : DL.Env -> Option Bool := (xB (eOp (inD true) (eOp ixD (Za 3) (Za 4)) (Za 1)))
noncomputable def lB : DL.Env -> Option Out := (Zd (Zh 5 (eOp ixD (Za 3) (Za 4))) (Zd lF (Zh 4 (eOp addX (Za 4) (eC (.int 1))))))
theorem ZeC : f_QJ = Zd (Zh 2 (V2 (eC (.int 0)) (eC (.str [])))) (Zd (Zh 3 (ZT (Zb (eC (.int 0)) eNil))) (Zd (Zh 4 (eC (.int 0))) (Zd (Z3 lT lB) (ZE (YY (Zb (eOp Y4 (Za 2) (eOp ixD (Za 3) (Za 4))) (Zb (eOp ixD (Za 3) (Za 4)) eNil))))))) := rfl
section
variable {m : Nat} {M : List Nat} {W : Wy} (hM : Mk M) (h : Ok m M.length W) {P : List Nat}
include hM h
theorem ZfN {Q : Qu} {p k : Nat} (B : Bf (gt W) m M.length P Q p k) (hL : ∀ y ∈ Q, y.1.length <= Q.length) {x : List Nat × Nat} (hx : Q[p]? = some x) (hk : k < M.length) (v4 v7 : Option D) : ∃ Q' w7, Bf (gt W) m M.length P Q' p (k + 1) /\ (∀ y ∈ Q', y.1.length <= Q'.length) /\ Q'[p]? = some x /\ Zd l1 l3 (TE8 M W P Q v4 (some (nD x.2)) (some (.str [M.getD k 0])) v7) = some (.nx (TE8 M W P Q' v4 (some (nD x.2)) (some (.str [M.getD k 0])) w7)) := by
 have hxm := List.mem_of_getElem? hx
 have hb1 := B.b1 x hxm
 have hlen := B.len
 have hm6 := h.m6
 have hpl : p < Q.length := (List.getElem?_eq_some_iff.mp hx).1
 have hcall : XR "led" U9 (Za 0) (Zb (Za 5) (Zb (Za 6) eNil)) (TE8 M W P Q v4 (some (nD x.2)) (some (.str [M.getD k 0])) v7) = some (oD (gt W x.2 k)) := ZgB hM h hb1.2.2 hk
 have t1 : l1 (TE8 M W P Q v4 (some (nD x.2)) (some (.str [M.getD k 0])) v7) = some (.nx (TE8 M W P Q v4 (some (nD x.2)) (some (.str [M.getD k 0])) (some (oD (gt W x.2 k))))) := ZO hcall
 cases hg : gt W x.2 k with
 | none =>
  rw [hg] at t1
  exact ⟨Q, _, B.skip hx (fun t ht => by rw [hg] at ht; cases ht), hL, hx, (Zv t1).trans ((Xl (Jm (ZQ rfl))).trans rfl)⟩
 | some t =>
  rw [hg] at t1
  have htm := (V7 h hb1.2.2 hg).1
  have hin : xB (eOp (inK true) (Za 7) (Za 2)) (TE8 M W P Q v4 (some (nD x.2)) (some (.str [M.getD k 0])) (some (oD (some t)))) = some (!decide (t ∈ Q.map Prod.snd)) := by
   refine ZQ ((Zj (x := .int (t : Int)) (y := RD M Q) rfl rfl).trans ?_)
   show some (D.bl (true != YA (.inl (t : Int)) (tkK (Q.map Prod.snd)))) = _
   rw [JJ]
   cases decide (t ∈ Q.map Prod.snd) <;> rfl
  by_cases ht : t ∈ Q.map Prod.snd
  · rw [decide_eq_true ht] at hin
    refine ⟨Q, _, B.skip hx fun u hu => ?_, hL, hx, (Zv t1).trans ((Xl (U2 (ZQ rfl) hin)).trans rfl)⟩
    rw [hg] at hu
    cases hu
    obtain ⟨y, hy, e⟩ := List.mem_map.mp ht
    exact ⟨y, hy, e⟩
  · rw [decide_eq_false ht] at hin
    have hno : ∀ y ∈ Q, y.2 ≠ t := fun y hy z => ht (by rw [<- z]; exact List.mem_map_of_mem hy)
    have hget : eOp Y4 (Za 2) (Za 5) (TE8 M W P Q v4 (some (nD x.2)) (some (.str [M.getD k 0])) (some (oD (some t)))) = some (.str (ch M x.1)) := (Zj (x := RD M Q) (y := .int (x.2 : Int)) rfl rfl).trans (JL M Q x B.b2 hxm)
    have hrow : eOp addX (eOp Y4 (Za 2) (Za 5)) (Za 6) (TE8 M W P Q v4 (some (nD x.2)) (some (.str [M.getD k 0])) (some (oD (some t)))) = some (.str (ch M (x.1 ++ [k]))) := by
     refine (Zj (y := .str [M.getD k 0]) hget rfl).trans ((add_str ?_).trans ?_)
     · unfold ch
       rw [List.length_map]
       have := hL x hxm
       show x.1.length + 1 <= 100000
       omega
     · unfold ch
       rw [List.map_append]
       rfl
    have t2 : XU 2 (Za 7) (eOp addX (eOp Y4 (Za 2) (Za 5)) (Za 6)) (TE8 M W P Q v4 (some (nD x.2)) (some (.str [M.getD k 0])) (some (oD (some t)))) = some (.nx [some (ZV M W), some (PD P), some (RD M (Q ++ [(x.1 ++ [k], t)])), some (OD Q), v4, some (nD x.2), some (.str [M.getD k 0]), some (oD (some t))]) := by
     unfold XU
     rw [hrow]
     show (if (tkK (Q.map Prod.snd)).length < PySem.sizeLine then some (Out.nx ((TE8 M W P Q v4 (some (nD x.2)) (some (.str [M.getD k 0])) (some (oD (some t)))).set 2 (some (Vn (tkK (Q.map Prod.snd)) (Q.map fun x => .str (ch M x.1)) (.inl (t : Int)) (.str (ch M (x.1 ++ [k]))))))) else none) = _
     rw [if_pos (by rw [List.length_map, List.length_map, PySem.sizeLine_eq]; omega)]
     unfold Vn
     rw [JJ, decide_eq_false ht, if_neg Bool.false_ne_true]
     unfold RD tkK
     rw [List.map_append, List.map_append, List.map_append]
     rfl
    refine ⟨Q ++ [(x.1 ++ [k], t)], some (oD (some t)), B.put hx hk hg htm hno, fun y hy => ?_, by rw [List.getElem?_append_left hpl]; exact hx, (Zv t1).trans ((V4 (U2 (ZQ rfl) hin)).trans ((Zv t2).trans ((ZdG (xs := Q.map fun x => nD x.2) (d := nD t) rfl rfl (by rw [List.length_map]; omega)).trans ?_)))⟩
    · rw [List.length_append]
      rcases List.mem_append.mp hy with hy | hy
      · have := hL y hy; omega
      · rw [List.mem_singleton.mp hy]
        have := hL x hxm
        show (x.1 ++ [k]).length <= _
        rw [List.length_append, List.length_singleton, List.length_singleton]
        omega
    · rw [show (Q.map fun x => nD x.2) ++ [nD t] = (Q ++ [(x.1 ++ [k], t)]).map fun x => nD x.2 by rw [List.map_append]; rfl]
      rfl
theorem ZgE {Q : Qu} {p : Nat} (B : Bf (gt W) m M.length P Q p 0) (hL : ∀ y ∈ Q, y.1.length <= Q.length) {x : List Nat × Nat} (hx : Q[p]? = some x) (v4 v6 v7 : Option D) : ∃ Q' w6 w7, Bf (gt W) m M.length P Q' p M.length /\ (∀ y ∈ Q', y.1.length <= Q'.length) /\ Q'[p]? = some x /\ lF (TE8 M W P Q v4 (some (nD x.2)) v6 v7) = some (.nx (TE8 M W P Q' v4 (some (nD x.2)) w6 w7)) := by
 obtain ⟨δ', g1, Q', w6, w7, e, g2, g3, g4⟩ := XV (γ := Zl 6) (φ := Zd l1 l3) (fun k δ => ∃ Q v6 v7, δ = TE8 M W P Q v4 (some (nD x.2)) v6 v7 /\ Bf (gt W) m M.length P Q p k /\ (∀ y ∈ Q, y.1.length <= Q.length) /\ Q[p]? = some x) (M.map fun c => D.str [c]) 0 (TE8 M W P Q v4 (some (nD x.2)) v6 v7) ⟨Q, _, _, rfl, B, hL, hx⟩ (by
  intro j d δ hd ⟨Q, v6, v7, e, B, hL, hx⟩
  subst e
  rw [Nat.zero_add] at B ⊢
  rw [List.getElem?_map] at hd
  cases hj : M[j]? with
  | none => rw [hj] at hd; cases hd
  | some c =>
   rw [hj] at hd
   cases hd
   have hjl := (List.getElem?_eq_some_iff.mp hj).1
   have ec : c = M.getD j 0 := by rw [List.getD_eq_getElem?_getD, hj]; rfl
   subst ec
   obtain ⟨Q', w7, k1, k2, k3, k4⟩ := ZfN hM h B hL hx hjl v4 v7
   exact ⟨_, rfl, _, k4, Q', _, _, rfl, k1, k2, k3⟩)
 subst e
 rw [List.length_map, Nat.zero_add] at g2
 exact ⟨Q', w6, w7, g2, g3, g4, XC (Zdj (JE rfl)) g1⟩
theorem ZeD (hF : Fed m M.length W) (hP : ∀ a ∈ P, a < m) (hP0 : ∃ a, a ∈ P) : ∃ (r : List Nat) (t : Nat), V5 [ZV M W, PD P] = some (.tup [.str (ch M r), .int (t : Int)]) /\ Dg M.length r /\ wk (gt W) 0 r = some t /\ t ∈ P /\ ∀ w u, Dg M.length w -> wk (gt W) 0 w = some u -> u ∈ P -> vl M.length r <= vl M.length w := by
 have hlo := hM.lo
 have hfn : ∀ a j t, gt W a j = some t -> a < m -> j < M.length := fun a j t e ha => (V7 h ha e).2
 have t1 : Zh 2 (V2 (eC (.int 0)) (eC (.str []))) [some (ZV M W), some (PD P), none, none, none, none, none, none] = some (.nx [some (ZV M W), some (PD P), some (RD M [([], 0)]), none, none, none, none, none]) := ZO rfl
 have t2 : Zh 3 (ZT (Zb (eC (.int 0)) eNil)) [some (ZV M W), some (PD P), some (RD M [([], 0)]), none, none, none, none, none] = some (.nx [some (ZV M W), some (PD P), some (RD M [([], 0)]), some (OD [([], 0)]), none, none, none, none]) := ZO (Jn (Zm rfl nil_of) (by show 1 <= 1000; decide))
 have t3 : Zh 4 (eC (.int 0)) [some (ZV M W), some (PD P), some (RD M [([], 0)]), some (OD [([], 0)]), none, none, none, none] = some (.nx (TE8 M W P [([], 0)] (some (nD 0)) none none none)) := ZO rfl
 have ixo : ∀ {Q : Qu} {p : Nat} {x : List Nat × Nat} (v5 v6 v7 : Option D), Q[p]? = some x -> eOp ixD (Za 3) (Za 4) (TE8 M W P Q (some (nD p)) v5 v6 v7) = some (nD x.2) := fun {Q p x} v5 v6 v7 hx => (Zj (x := OD Q) (y := .int (p : Int)) rfl rfl).trans (Vs (by rw [List.getElem?_map, hx]; rfl))
 obtain ⟨δ', g1, Q, p, x, v5, v6, v7, e, B, hx, hxP⟩ := Jq (τ := lT) (φ := lB) (fun δ => ∃ Q p v5 v6 v7, δ = TE8 M W P Q (some (nD p)) v5 v6 v7 /\ Bf (gt W) m M.length P Q p 0 /\ ∀ y ∈ Q, y.1.length <= Q.length)
  (fun δ => ∃ Q p x v5 v6 v7, δ = TE8 M W P Q (some (nD p)) v5 v6 v7 /\ Bf (gt W) m M.length P Q p 0 /\ Q[p]? = some x /\ x.2 ∈ P)
  (fun δ => match Za 4 δ with | some (.int s) => m - s.toNat | _ => 0) (by
    rintro δ ⟨Q, p, v5, v6, v7, rfl, B, hL⟩
    obtain ⟨a, ha⟩ := hP0
    have hpl := B.more (fun r h1 h2 => by obtain ⟨b, j, g1, g2, g3⟩ := hF r h1 h2; exact ⟨b, j, g1, g3⟩) ⟨a, ha, hP a ha⟩
    have hx : Q[p]? = some Q[p] := List.getElem?_eq_getElem hpl
    have hlen := B.len
    have ht : lT (TE8 M W P Q (some (nD p)) v5 v6 v7) = some (!decide (Q[p].2 ∈ P)) := ZQ ((Zj (x := .int (Q[p].2 : Int)) (y := PD P) (ixo v5 v6 v7 hx) rfl).trans (JK _ _))
    by_cases hin : Q[p].2 ∈ P
    · exact .inl ⟨by rw [ht, decide_eq_true hin]; rfl, Q, p, _, v5, v6, v7, rfl, B, hx, hin⟩
    · refine .inr ⟨by rw [ht, decide_eq_false hin]; rfl, ?_⟩
      obtain ⟨Q', w6, w7, k1, k2, k3, k4⟩ := ZgE hM h B hL hx (some (nD p)) v6 v7
      have s1 : Zh 5 (eOp ixD (Za 3) (Za 4)) (TE8 M W P Q (some (nD p)) v5 v6 v7) = some (.nx (TE8 M W P Q (some (nD p)) (some (nD Q[p].2)) v6 v7)) := ZO (ixo v5 v6 v7 hx)
      have s3 : Zh 4 (eOp addX (Za 4) (eC (.int 1))) (TE8 M W P Q' (some (nD p)) (some (nD Q[p].2)) w6 w7) = some (.nx (TE8 M W P Q' (some (nD (p + 1))) (some (nD Q[p].2)) w6 w7)) := ZO ((Zj (x := .int (p : Int)) (y := .int 1) rfl rfl).trans rfl)
      refine ⟨_, (Zv s1).trans ((Zv k4).trans s3), ⟨Q', p + 1, _, _, _, rfl, k1.next k3 hin hfn, k2⟩, ?_⟩
      show m - ((p + 1 : Nat) : Int).toNat < m - ((p : Nat) : Int).toNat
      rw [Int.toNat_natCast, Int.toNat_natCast]
      omega) (TE8 M W P [([], 0)] (some (nD 0)) none none none) ⟨_, 0, _, _, _, rfl, Bf.first (by omega) h.m0, fun y hy => by rw [List.mem_singleton.mp hy]; exact Nat.zero_le _⟩
 subst e
 have hxm := List.mem_of_getElem? hx
 obtain ⟨b1, b2, b3⟩ := B.b1 x hxm
 refine ⟨x.1, x.2, Xm (δ := [some (ZV M W), some (PD P), none, none, none, none, none, none]) rfl ?_, b2, b1, hxP, fun w u hw hu hp => B.least (by omega) hx w hw u hp hu hfn⟩
 rw [ZeC, Zv t1, Zv t2, Zv t3, Zv g1]
 have e1 := ixo v5 v6 v7 hx
 exact XW (ZdE (Zm ((Zj (x := RD M Q) (y := .int (x.2 : Int)) rfl e1).trans (JL M Q x B.b2 hxm)) (Zm e1 nil_of)) (by show 2 <= 1000; decide))
end
end K33
namespace K33
open DL L2
abbrev IL (ns : List Int) : D := .lst (ns.map D.int)
theorem ZcI {i : Nat} {κ ε : DL.Env -> Option D} {δ : DL.Env} {xs : List Int} {k : Nat} {x : Int} (hk : k < xs.length) (hv : Za i δ = some (IL xs)) (h1 : κ δ = some (.int (k : Int))) (h2 : ε δ = some (.int x)) : Vj i κ ε δ = some (.nx (δ.set i (some (IL (xs.set k x))))) := by
 unfold Vj
 rw [h2, hv, h1]
 dsimp only
 rw [List.length_map, Ju hk]
 dsimp only
 rw [<- List.map_set]
theorem ZdL (n : Nat) : Zy 0 1 n = (List.range n).map nD := by
 unfold Zy nD
 refine List.map_congr_left fun k _ => congrArg D.int (by omega)
theorem JM {m n : Nat} {W : Wy} (h : Ok m n W) {i : Nat} {δ : DL.Env} (e : Za i δ = some (Zo W)) : eCB lenD (Zb (Za i) eNil) δ = some (.int (m : Int)) := by
 refine (Yq (Zm e nil_of)).trans ?_
 show some (D.int ((W.map ZI).length : Int)) = _
 rw [List.length_map, h.ln]
abbrev FE (W : Wy) (P : List Nat) (os : List Int) (v3 v4 v5 : Option D) : DL.Env := [some (Zo W), some (PD P), some (IL os), v3, v4, v5]
noncomputable def oE : DL.Env -> Option D := (eOp mulX (eCB intD (Zb (eOp (inD true) (Za 0) (Za 1)) eNil)) (eC (.int 99)))
noncomputable def o1 : DL.Env -> Option Out := (sIf (xB (Ye (Za 5))) (Vj 2 (Za 4) (eCB minLD (Zb (ZT (Zb (eOp ixD (Za 2) (Za 4)) (Zb (eOp addX (eOp ixD (Za 2) (Za 5)) (eC (.int 1))) eNil))) eNil))) sNext)
noncomputable def o2 : DL.Env -> Option Out := (ZL (Yo (eOp ixD (Za 0) (Za 4))) (Zl 5) o1)
noncomputable def o3 : DL.Env -> Option Out := (ZL (Zt (Zb (eCB lenD (Zb (Za 0) eNil)) eNil)) (Zl 4) o2)
theorem ZfO : f_QI = Zd (Zh 2 (ZN (Zt (Zb (eCB lenD (Zb (Za 0) eNil)) eNil)) (Zl 0) (fun _ => some true) oE 1 [1])) (Zd (ZL (Zt (Zb (eCB lenD (Zb (Za 0) eNil)) eNil)) (Zl 3) o3) (ZE (Za 2))) := rfl
def os0 (m : Nat) (P : List Nat) : List Int := (List.range m).map fun h => if h ∈ P then 0 else 99
theorem Qn {m : Nat} {P : List Nat} {h : Nat} (hh : h < m) : gO (os0 m P) h = if h ∈ P then 0 else 99 := by
 unfold gO os0
 rw [List.getD_eq_getElem?_getD, List.getElem?_map, List.getElem?_range hh]
 rfl
section
variable {m : Nat} {M : List Nat} {W : Wy} (hM : Mk M) (h : Ok m M.length W) {P : List Nat} (hP : ∀ a ∈ P, a < m)
include h
theorem of0 : Of (gt W) m M.length P (os0 m P) /\ Up (gt W) m M.length P (os0 m P) 0 := by
 refine ⟨⟨by unfold os0; simp, fun u hu => ?_, fun u hu => ?_, fun u hu h0 h9 => ?_⟩, fun u hu L hL r => ?_⟩
 · rw [Qn hu]
   by_cases hp : u ∈ P
   · rw [if_pos hp]; omega
   · rw [if_neg hp]; omega
 · rw [Qn hu]
   by_cases hp : u ∈ P
   · rw [if_pos hp]; simp [hp]
   · rw [if_neg hp]; simp [hp]
 · rw [Qn hu] at h0 h9
   by_cases hp : u ∈ P
   · rw [if_pos hp] at h0; omega
   · rw [if_neg hp] at h9; omega
 · have hL0 : L = 0 := by omega
   subst hL0
   rw [Qn hu, if_pos r.zero]
   exact Int.le_refl _
theorem ZfP (v3 v4 v5 : Option D) : Zh 2 (ZN (Zt (Zb (eCB lenD (Zb (Za 0) eNil)) eNil)) (Zl 0) (fun _ => some true) oE 1 [1]) [some (Zo W), some (PD P), none, v3, v4, v5] = some (.nx (FE W P (os0 m P) v3 v4 v5)) := by
 have hm6 := h.m6
 have hi : Zt (Zb (eCB lenD (Zb (Za 0) eNil)) eNil) [some (Zo W), some (PD P), none, v3, v4, v5] = some ((List.range m).map nD) := (XB (j := (m : Int)) (Zm (JM h rfl) nil_of) (by omega) (by omega)).trans (by rw [Int.toNat_natCast, ZdL])
 have hc : ZM (Zl 0) (fun _ => some true) oE [none, some (PD P)] ((List.range m).map nD) = some ((List.range m).map fun u => .int (if u ∈ P then 0 else 99)) := Zav nD _ _ fun u _ => by
  refine ⟨[some (nD u), some (PD P)], rfl, ?_⟩
  have e1 : eCB intD (Zb (eOp (inD true) (Za 0) (Za 1)) eNil) [some (nD u), some (PD P)] = some (.int (if (!decide (u ∈ P)) = true then 1 else 0)) := (Yq (Zm ((Zj (x := .int (u : Int)) (y := PD P) rfl rfl).trans (JK u P)) nil_of)).trans rfl
  refine (Zj (y := .int 99) e1 rfl).trans ((Jt (by decide) (by decide)).trans ?_)
  by_cases hp : u ∈ P
  · rw [if_pos hp, decide_eq_true hp]; rfl
  · rw [if_neg hp, decide_eq_false hp]; rfl
 refine (ZO (Vr hi rfl hc (by rw [List.length_map, List.length_range]; omega))).trans ?_
 show some (Out.nx [_, _, _, _, _, _]) = _
 rw [show ((List.range m).map fun u => D.int (if u ∈ P then 0 else 99)) = (os0 m P).map D.int by unfold os0; rw [List.map_map]; rfl]
def In1 (f : Nat -> Nat -> Option Nat) (m n : Nat) (P : List Nat) (os : List Int) (T a k : Nat) : Prop := Of f m n P os /\ Up f m n P os T /\ (∀ u, u < a -> ∀ L, L <= T + 1 -> Rh f n P u L -> gO os u <= L) /\ ∀ j, j < k -> ∀ t, f a j = some t -> ∀ L, L <= T -> Rh f n P t L -> gO os a <= L + 1
theorem ZfQ {os : List Int} {T a k : Nat} (I : In1 (gt W) m M.length P os T a k) (ha : a < m) (hk : k < M.length) (v3 : Option D) : ∃ os', In1 (gt W) m M.length P os' T a (k + 1) /\ o1 (FE W P os v3 (some (nD a)) (some (oD (gt W a k)))) = some (.nx (FE W P os' v3 (some (nD a)) (some (oD (gt W a k))))) := by
 obtain ⟨A, U, V, X⟩ := I
 cases hg : gt W a k with
 | none =>
  refine ⟨os, ⟨A, U, V, fun j hj t ht => ?_⟩, (Xl (ZQ rfl)).trans rfl⟩
  by_cases hjk : j = k
  · subst hjk; rw [hg] at ht; cases ht
  · exact X j (by omega) t ht
 | some t =>
  have htm := (V7 h ha hg).1
  have hal : a < os.length := by rw [A.ln]; exact ha
  have htl : t < os.length := by rw [A.ln]; exact htm
  obtain ⟨A', dec⟩ := A.relax ha hk htm hg
  refine ⟨os.set a (min (gO os a) (gO os t + 1)), ⟨A', fun u hu L hL r => Int.le_trans (dec u) (U u hu L hL r), fun u hu L hL r => Int.le_trans (dec u) (V u hu L hL r), fun j hj u hu L hL r => ?_⟩, (V4 (ZQ rfl)).trans ?_⟩
  · by_cases hjk : j = k
    · subst hjk
      rw [hg] at hu
      cases hu
      have := U t htm L hL r
      rw [X3 hal, if_pos rfl]
      omega
    · exact Int.le_trans (dec a) (X j (by omega) u hu L hL r)
  · have e1 : eOp ixD (Za 2) (Za 4) (FE W P os v3 (some (nD a)) (some (oD (some t)))) = some (.int (gO os a)) := (Zj (x := IL os) (y := .int (a : Int)) rfl rfl).trans (U3 hal)
    have e2 : eOp addX (eOp ixD (Za 2) (Za 5)) (eC (.int 1)) (FE W P os v3 (some (nD a)) (some (oD (some t)))) = some (.int (gO os t + 1)) := (Zj (x := .int (gO os t)) (y := .int 1) ((Zj (x := IL os) (y := .int (t : Int)) rfl rfl).trans (U3 htl)) rfl).trans (add_int _ _)
    have e3 : eCB minLD (Zb (ZT (Zb (eOp ixD (Za 2) (Za 4)) (Zb (eOp addX (eOp ixD (Za 2) (Za 5)) (eC (.int 1))) eNil))) eNil) (FE W P os v3 (some (nD a)) (some (oD (some t)))) = some (.int (min (gO os a) (gO os t + 1))) := (Yq (Zm (Jn (Zm e1 (Zm e2 nil_of)) (by show 2 <= 1000; decide)) nil_of)).trans rfl
    exact ZcI hal rfl rfl e3
theorem ZgF {os : List Int} {T a : Nat} (I : In1 (gt W) m M.length P os T a 0) (ha : a < m) (v3 v5 : Option D) : ∃ os' w5, In1 (gt W) m M.length P os' T (a + 1) 0 /\ o2 (FE W P os v3 (some (nD a)) v5) = some (.nx (FE W P os' v3 (some (nD a)) w5)) := by
 obtain ⟨r, h1, h2, h3⟩ := h.row ha
 have hgt : ∀ k, k < r.length -> r[k]? = some (gt W a k) := fun k hk => by
  unfold gt
  rw [h2, List.getD_eq_getElem?_getD, List.getElem?_eq_getElem hk]
  rfl
 obtain ⟨δ', g1, os', w5, e, g2⟩ := XV (γ := Zl 5) (φ := o1) (fun k δ => ∃ os v5, δ = FE W P os v3 (some (nD a)) v5 /\ In1 (gt W) m M.length P os T a k) (r.map oD) 0 (FE W P os v3 (some (nD a)) v5) ⟨os, v5, rfl, I⟩ (by
  intro j d δ hd ⟨os, v5, e, I⟩
  subst e
  rw [Nat.zero_add] at I ⊢
  rw [List.getElem?_map] at hd
  cases hj : r[j]? with
  | none => rw [hj] at hd; cases hd
  | some y =>
   rw [hj] at hd
   cases hd
   have hjl := (List.getElem?_eq_some_iff.mp hj).1
   have ey := hgt j hjl
   rw [hj] at ey
   cases ey
   obtain ⟨os', k1, k2⟩ := ZfQ h I ha (by rw [<- h3.ln]; exact hjl) v3
   exact ⟨_, rfl, _, k2, os', _, rfl, k1⟩)
 subst e
 rw [List.length_map, Nat.zero_add, h3.ln] at g2
 obtain ⟨A, U, V, X⟩ := g2
 refine ⟨os', w5, ⟨A, U, fun u hu L hL rr => ?_, fun j hj => absurd hj (by omega)⟩, XC (Zdi (xs := r.map oD) ((ZdI h ha rfl rfl).trans (by rw [h2]; rfl))) g1⟩
 by_cases hua : u = a
 · subst hua
   cases L with
   | zero => exact U u ha 0 (Nat.zero_le _) rr
   | succ L =>
    obtain ⟨k, t, hk, hf, rt⟩ := rr.succ
    have := X k hk t hf L (by omega) rt
    omega
 · exact V u (by omega) L hL rr
theorem ZgG {os : List Int} {T : Nat} (A : Of (gt W) m M.length P os) (U : Up (gt W) m M.length P os T) (v3 v4 v5 : Option D) : ∃ os' w4 w5, Of (gt W) m M.length P os' /\ Up (gt W) m M.length P os' (T + 1) /\ o3 (FE W P os v3 v4 v5) = some (.nx (FE W P os' v3 w4 w5)) := by
 have hm6 := h.m6
 obtain ⟨δ', g1, os', w4, w5, e, g2⟩ := XV (γ := Zl 4) (φ := o2) (fun a δ => ∃ os v4 v5, δ = FE W P os v3 v4 v5 /\ In1 (gt W) m M.length P os T a 0) (Zy 0 1 m) 0 (FE W P os v3 v4 v5) ⟨os, v4, v5, rfl, A, U, (fun u hu => absurd hu (by omega)), fun j hj => absurd hj (by omega)⟩ (by
  intro j d δ hd ⟨os, v4, v5, e, I⟩
  subst e
  obtain ⟨hj, rfl⟩ := Zb2 hd
  rw [Nat.zero_add] at I ⊢
  obtain ⟨os', w5, k1, k2⟩ := ZgF h I hj v3 v5
  exact ⟨_, rfl, _, k2, os', _, _, rfl, k1⟩)
 subst e
 rw [Jr, Nat.zero_add] at g2
 obtain ⟨A', U', V', _⟩ := g2
 exact ⟨os', w4, w5, A', fun u hu L hL r => V' u hu L hL r, XC ((XB (j := (m : Int)) (Zm (JM h rfl) nil_of) (by omega) (by omega)).trans (by rw [Int.toNat_natCast])) g1⟩
theorem ZfR : ∃ os, Of (gt W) m M.length P os /\ Up (gt W) m M.length P os m /\ V6 [Zo W, PD P] = some (IL os) := by
 have hm6 := h.m6
 obtain ⟨A0, U0⟩ := of0 h (P := P)
 have t1 := ZfP h (P := P) none none none
 obtain ⟨δ', g1, os, w3, w4, w5, e, A, U⟩ := XV (γ := Zl 3) (φ := o3) (fun T δ => ∃ os v3 v4 v5, δ = FE W P os v3 v4 v5 /\ Of (gt W) m M.length P os /\ Up (gt W) m M.length P os T) (Zy 0 1 m) 0 (FE W P (os0 m P) none none none) ⟨_, _, _, _, rfl, A0, U0⟩ (by
  intro j d δ hd ⟨os, v3, v4, v5, e, A, U⟩
  subst e
  obtain ⟨hj, rfl⟩ := Zb2 hd
  rw [Nat.zero_add] at U ⊢
  obtain ⟨os', w4, w5, k1, k2, k3⟩ := ZgG h A U (some (.int (j : Int))) v4 v5
  exact ⟨_, rfl, _, k3, os', _, _, _, rfl, k1, k2⟩)
 subst e
 rw [Jr, Nat.zero_add] at U
 refine ⟨os, A, U, Xm (δ := [some (Zo W), some (PD P), none, none, none, none]) rfl ?_⟩
 rw [ZfO, Zv t1]
 exact (Zv (XC ((XB (j := (m : Int)) (Zm (JM h rfl) nil_of) (by omega) (by omega)).trans (by rw [Int.toNat_natCast])) g1)).trans rfl
end
end K33
namespace K33
open DL L2
theorem JN (c : Nat -> Bool) : ∀ xs : List Nat, xs.filterMap (fun x => if c x = true then some (nD x) else none) = (xs.filter c).map nD
 | [] => rfl
 | x :: xs => by
  by_cases h : c x = true
  · rw [List.filterMap_cons, if_pos h, List.filter_cons, if_pos h, List.map_cons, JN c xs]
  · rw [List.filterMap_cons, if_neg h, List.filter_cons, if_neg h, JN c xs]
theorem Zam (c : Nat -> Bool) : ∀ xs : List Nat, (∀ x ∈ xs, c x = false) -> xs.filter c = []
 | [], _ => rfl
 | x :: xs, h => by
  rw [List.filter_cons, if_neg (by rw [h x List.mem_cons_self]; exact Bool.false_ne_true), Zam c xs fun y hy => h y (List.mem_cons_of_mem _ hy)]
theorem Za3 {c : Nat -> Bool} {n k : Nat} (hk : k < n) (hc : c k = true) (hl : ∀ j, j < k -> c j = false) : ∃ r, (List.range n).filter c = k :: r := by
 have e : List.range n = List.range k ++ List.range' k (n - k) := by
  rw [List.range_eq_range', List.range_eq_range', show List.range' 0 n = List.range' 0 (k + (n - k)) by rw [Nat.add_sub_cancel' (Nat.le_of_lt hk)], <- List.range'_append, Nat.zero_add, Nat.one_mul]
 obtain ⟨d, hd⟩ : ∃ d, n - k = d + 1 := ⟨n - k - 1, by omega⟩
 rw [e, List.filter_append, Zam c (List.range k) fun j hj => hl j (List.mem_range.mp hj), List.nil_append, hd, List.range'_succ, List.filter_cons, if_pos hc]
 exact ⟨_, rfl⟩
abbrev DE7 (M : List Nat) (W : Wy) (P : List Nat) (os : List Int) (r : List Nat) (a : Nat) (v6 : Option D) : DL.Env := [some (Zo W), some (.str M), some (PD P), some (IL os), some (.str (ch M r)), some (nD a), v6]
noncomputable def dT : DL.Env -> Option Bool := (xB (eOp (Xi fun i j => decide (j < i)) (eOp ixD (Za 3) (Za 5)) (eC (.int 0))))
noncomputable def nT : DL.Env -> Option Bool := (Z5 (xB (Ye (eOp ixD (eOp ixD (Za 1) (Za 2)) (Za 0)))) (xB (eOp eqD (eOp ixD (Za 3) (eOp ixD (eOp ixD (Za 1) (Za 2)) (Za 0))) (eOp subD (eOp ixD (Za 3) (Za 2)) (eC (.int 1))))))
noncomputable def d1 : DL.Env -> Option Out := (Zh 6 (ZN (Zt (Zb (eCB lenD (Zb (Za 1) eNil)) eNil)) (Zl 0) nT (Za 0) 1 [0, 5, 3]))
noncomputable def d2 : DL.Env -> Option Out := (Zh 4 (eOp addX (Za 4) (eOp ixD (Za 1) (eOp ixD (Za 6) (eC (.int 0))))))
noncomputable def d3 : DL.Env -> Option Out := (Zh 5 (eOp ixD (eOp ixD (Za 0) (Za 5)) (eOp ixD (Za 6) (eC (.int 0)))))
theorem ZfS : f_QH = Zd (Zh 3 (Zu 2 V6 [] (Zb (Za 0) (Zb (Za 2) eNil)))) (Zd (Zh 4 (eC (.str []))) (Zd (Zh 5 (eC (.int 0))) (Zd (Z3 dT (Zd d1 (Zd d2 d3))) (ZE (YY (Zb (Za 4) (Zb (Za 5) eNil))))))) := rfl
def cb (W : Wy) (os : List Int) (a k : Nat) : Bool := match gt W a k with
 | none => false
 | some t => decide (gO os t = gO os a - 1)
section
variable {m : Nat} {M : List Nat} {W : Wy} (hM : Mk M) (h : Ok m M.length W) {P : List Nat} {os : List Int} (A : Of (gt W) m M.length P os)
include hM h A
theorem JO {a : Nat} (ha : a < m) {i j : DL.Env -> Option D} {δ : DL.Env} (h1 : i δ = some (IL os)) (h2 : j δ = some (nD a)) : eOp ixD i j δ = some (.int (gO os a)) := (Zj h1 h2).trans (U3 (by rw [A.ln]; exact ha))
theorem ZgH {a k : Nat} (ha : a < m) (hk : k < M.length) : nT [some (nD k), some (Zo W), some (nD a), some (IL os)] = some (cb W os a k) := by
 have e1 : eOp ixD (eOp ixD (Za 1) (Za 2)) (Za 0) [some (nD k), some (Zo W), some (nD a), some (IL os)] = some (oD (gt W a k)) := Qg h ha hk rfl rfl rfl
 have e2 : xB (Ye (eOp ixD (eOp ixD (Za 1) (Za 2)) (Za 0))) [some (nD k), some (Zo W), some (nD a), some (IL os)] = some (!(gt W a k).isNone) := by
  refine ZQ ?_
  unfold Ye
  rw [e1]
  dsimp only
  rw [JA]
 unfold cb
 cases hg : gt W a k with
 | none =>
  rw [hg] at e2
  exact Jm e2
 | some t =>
  rw [hg] at e1 e2
  have htm := (V7 h ha hg).1
  refine (U2 e2 (ZQ ((Zj (JO hM h A htm rfl e1) ((Zj (y := .int 1) (JO hM h A ha rfl rfl) rfl).trans rfl)).trans (V3 _ _)))).trans rfl
theorem ZfT {a k t e : Nat} {g r : List Nat} (ha : a < m) (h0 : 0 < gO os a) (hk : k < M.length) (hf : gt W a k = some t) (ht : gO os t = gO os a - 1) (hl : ∀ j, j < k -> ∀ u, gt W a j = some u -> gO os u ≠ gO os a - 1) (hr : r.length <= 1000) (v6 : Option D) : ∃ w6, Zd d1 (Zd d2 d3) (DE7 M W P os r a v6) = some (.nx (DE7 M W P os (r ++ [k]) t w6)) := by
 have hhi := hM.hi
 have hck : cb W os a k = true := by unfold cb; rw [hf]; exact decide_eq_true ht
 have hcl : ∀ j, j < k -> cb W os a j = false := fun j hj => by
  unfold cb
  cases hg : gt W a j with
  | none => rfl
  | some u => exact decide_eq_false (hl j hj u hg)
 obtain ⟨rest, hrest⟩ := Za3 hk hck hcl
 have hi : Zt (Zb (eCB lenD (Zb (Za 1) eNil)) eNil) (DE7 M W P os r a v6) = some ((List.range M.length).map nD) := (XB (j := (M.length : Int)) (Zm ((Yq (Zm rfl nil_of)).trans (len_str (by omega))) nil_of) (by omega) (by omega)).trans (by rw [Int.toNat_natCast, ZdL])
 have hc : ZM (Zl 0) nT (Za 0) [none, some (Zo W), some (nD a), some (IL os)] ((List.range M.length).map nD) = some ((k :: rest).map nD) := by
  rw [<- hrest, <- JN]
  refine Zbj nD _ _ fun j hj => ⟨[some (nD j), some (Zo W), some (nD a), some (IL os)], rfl, ?_, fun y hy => ?_⟩
  · refine (ZgH hM h A ha (List.mem_range.mp hj)).trans ?_
    cases cb W os a j <;> rfl
  · by_cases hcj : cb W os a j = true
    · rw [if_pos hcj] at hy; cases hy; rfl
    · rw [if_neg hcj] at hy; cases hy
 have hlen : (k :: rest).length <= M.length := by
  rw [<- hrest]
  have := List.length_filter_le (cb W os a) (List.range M.length)
  rwa [List.length_range] at this
 have t1 : d1 (DE7 M W P os r a v6) = some (.nx (DE7 M W P os r a (some (PD (k :: rest))))) := ZO (Vr hi rfl hc (by rw [List.length_map]; omega))
 have e0 : ∀ r a, eOp ixD (Za 6) (eC (.int 0)) (DE7 M W P os r a (some (PD (k :: rest)))) = some (nD k) := fun r a => (Zj (x := PD (k :: rest)) (y := .int ((0 : Nat) : Int)) rfl rfl).trans (Vs (xs := (k :: rest).map nD) (a := 0) rfl)
 have t2 : d2 (DE7 M W P os r a (some (PD (k :: rest)))) = some (.nx (DE7 M W P os (r ++ [k]) a (some (PD (k :: rest))))) := by
  refine ZO ((Zj (x := .str (ch M r)) (y := .str [M.getD k 0]) rfl ((Zj (x := .str M) (y := .int (k : Int)) rfl (e0 r a)).trans (ix_str (c := M.getD k 0) (by rw [List.getD_eq_getElem?_getD, List.getElem?_eq_getElem hk]; rfl) (by omega)))).trans ((add_str ?_).trans ?_))
  · unfold ch
    rw [List.length_map]
    show r.length + 1 <= 100000
    omega
  · unfold ch
    rw [List.map_append]
    rfl
 have t3 : d3 (DE7 M W P os (r ++ [k]) a (some (PD (k :: rest)))) = some (.nx (DE7 M W P os (r ++ [k]) t (some (PD (k :: rest))))) := by
  refine ZO ((Qg h ha hk rfl rfl (e0 _ _)).trans ?_)
  have hf' : (W.getD a []).getD k none = some t := hf
  rw [hf']
  rfl
 exact ⟨_, (Zv t1).trans ((Zv t2).trans t3)⟩
theorem ZeE (hfm : ∀ a j t, gt W a j = some t -> a < m -> t < m) (e : Nat) (R : List Nat) (hR : R.length <= 1000) (gr : Gr (gt W) M.length P os 0 R e) : ∃ w6, Z3 dT (Zd d1 (Zd d2 d3)) (DE7 M W P os [] 0 none) = some (.nx (DE7 M W P os R e w6)) := by
 obtain ⟨δ', g1, w6, e1⟩ := Jq (τ := dT) (φ := Zd d1 (Zd d2 d3)) (fun δ => ∃ r g a v6, δ = DE7 M W P os r a v6 /\ Gr (gt W) M.length P os a g e /\ r ++ g = R /\ a < m)
  (fun δ => ∃ w6, δ = DE7 M W P os R e w6) (fun δ => match Za 5 δ with | some (.int s) => (gO os s.toNat).toNat | _ => 0) (by
    rintro δ ⟨r, g, a, v6, rfl, gr, hrg, ha⟩
    have hτ : dT (DE7 M W P os r a v6) = some (decide (0 < gO os a)) := ZQ ((Zj (y := .int 0) (JO hM h A ha rfl rfl) rfl).trans rfl)
    cases gr with
    | stop e0 hp =>
     rw [List.append_nil] at hrg
     subst hrg
     exact .inl ⟨by rw [hτ, decide_eq_false (by omega)], v6, rfl⟩
    | @step _ k t _ g h0 hk hf ht hl gr =>
     have hrl : r.length <= 1000 := by
      rw [<- hrg, List.length_append] at hR
      omega
     obtain ⟨w6, k1⟩ := ZfT hM h A (e := e) (g := g) ha h0 hk hf ht hl hrl v6
     refine .inr ⟨by rw [hτ, decide_eq_true h0], _, k1, ⟨r ++ [k], g, t, w6, rfl, gr, by rw [List.append_assoc]; exact hrg, hfm a k t hf ha⟩, ?_⟩
     show (gO os ((t : Nat) : Int).toNat).toNat < (gO os ((a : Nat) : Int).toNat).toNat
     rw [Int.toNat_natCast, Int.toNat_natCast]
     omega) (DE7 M W P os [] 0 none) ⟨[], R, 0, none, rfl, gr, rfl, h.m0⟩
 subst e1
 exact ⟨w6, g1⟩
end
section
variable {m : Nat} {M : List Nat} {W : Wy} (hM : Mk M) (h : Ok m M.length W) (hF : Fed m M.length W) {P : List Nat} (hP : ∀ a ∈ P, a < m) (hP0 : ∃ a, a ∈ P)
include hM h hF hP hP0
theorem ZeF : ∃ (r : List Nat) (t : Nat), Js (ch M r) /\ V5 [ZV M W, PD P] = some (.tup [.str (ch M r), .int (t : Int)]) /\ Qd [Zo W, .str M, PD P] = some (.tup [.str (ch M r), .int (t : Int)]) := by
 have hm6 := h.m6
 have hfm : ∀ a j t, gt W a j = some t -> a < m -> t < m := fun a j t e ha => (V7 h ha e).1
 obtain ⟨r, t, h1, h2, h3, h4, h5⟩ := ZeD hM h hF hP hP0
 obtain ⟨os, A, U, h6⟩ := ZfR h (P := P)
 obtain ⟨a, ha⟩ := hP0
 have hfed : ∀ r, 0 < r -> r < m -> ∃ b j, b < r /\ j < M.length /\ gt W b j = some r := hF
 have h9 := ZcH A U hfm hfed ⟨a, ha, hP a ha⟩ (by omega) h.m0
 obtain ⟨R, e, gr⟩ := ZgC A U hfm _ 0 h.m0 rfl h9
 obtain ⟨k1, k2, k3, k4, k5⟩ := ZgD A U hfm gr h.m0
 have e1 : r = R := ZfK h2 k1 (Nat.le_antisymm (h5 R e k1 k2 k3) (k5 r t h2 h3 h4))
 subst e1
 rw [h3] at k2
 cases k2
 obtain ⟨w6, g1⟩ := ZeE hM h A hfm t r (by omega) gr
 refine ⟨r, t, fun c hc => ?_, h1, Xm (δ := [some (Zo W), some (.str M), some (PD P), none, none, none, none]) rfl ?_⟩
 · obtain ⟨k, hk, rfl⟩ := List.mem_map.mp hc
   have hkl := h2 k hk
   have := hM.cd (M.getD k 0) (by rw [List.getD_eq_getElem?_getD, List.getElem?_eq_getElem hkl]; exact List.getElem_mem hkl)
   omega
 · have hd : Zb (Za 0) (Zb (Za 2) eNil) [some (Zo W), some (.str M), some (PD P), none, none, none, none] = some [Zo W, PD P] := Zm rfl (Zm rfl nil_of)
   have t1 : Zh 3 (Zu 2 V6 [] (Zb (Za 0) (Zb (Za 2) eNil))) [some (Zo W), some (.str M), some (PD P), none, none, none, none] = some (.nx [some (Zo W), some (.str M), some (PD P), some (IL os), none, none, none]) := ZO ((YB hd rfl).trans h6)
   have t2 : Zh 4 (eC (.str [])) [some (Zo W), some (.str M), some (PD P), some (IL os), none, none, none] = some (.nx [some (Zo W), some (.str M), some (PD P), some (IL os), some (.str (ch M [])), none, none]) := ZO rfl
   have t3 : Zh 5 (eC (.int 0)) [some (Zo W), some (.str M), some (PD P), some (IL os), some (.str (ch M [])), none, none] = some (.nx (DE7 M W P os [] 0 none)) := ZO rfl
   rw [ZfS, Zv t1, Zv t2, Zv t3, Zv g1]
   exact XW (ZdE (Zm rfl (Zm rfl nil_of)) (by show 2 <= 1000; decide))
end
noncomputable def cE (e : DL.Env -> Option D) : DL.Env -> Option D := (Zu 2 Z6 [] (Zb (Za 0) (Zb e eNil)))
theorem JP {ns : List Int} {e : DL.Env -> Option D} {δ : DL.Env} (k : Nat) (h0 : Za 0 δ = some (.lst (ns.map D.int))) (he : e δ = some (.int (k : Int))) : cE e δ = some (.int (ns.getD k 0)) := by
 have hd : Zb (Za 0) (Zb e eNil) δ = some [.lst (ns.map D.int), .int (k : Int)] := Zm h0 (Zm he nil_of)
 exact (YB hd rfl).trans (Qf ns k)
noncomputable def a1 : DL.Env -> Option Out := (Zh 1 (Zu 1 Qb [] (Zb (cE (eC (.int 0))) eNil)))
noncomputable def a2 : DL.Env -> Option Out := (Zh 2 (eOp addX (eC (.int 1)) (eOp modD (cE (eC (.int 1))) (eC (.int 7)))))
noncomputable def a3 : DL.Env -> Option Out := (Zh 3 (Zu 4 Qc [] (Zb (Za 0) (Zb (eC (.int 3)) (Zb (Za 2) (Zb (eCB lenD (Zb (Za 1) eNil)) eNil))))))
noncomputable def a4 : DL.Env -> Option Out := (Zh 4 (ZT (Zb (eOp modD (cE (eC (.int 2))) (Za 2)) eNil)))
noncomputable def pI : DL.Env -> Option (List D) := (Zt (Zb (eOp addX (eOp addX (eC (.int 3)) (Za 2)) (eOp mulX (Za 2) (eCB lenD (Zb (Za 1) eNil)))) (Zb (eCB minD (Zb (eCB lenD (Zb (Za 0) eNil)) (Zb (eC (.int 60)) eNil))) eNil)))
noncomputable def pX : DL.Env -> Option D := (eOp modD (eOp ixD (Za 0) (Za 5)) (Za 2))
noncomputable def pB : DL.Env -> Option Out := (sIf (Z5 (xB (eOp (inD true) pX (Za 4))) (xB (eOp eqD (eOp modD (eOp fdivD (eOp ixD (Za 0) (Za 5)) (eC (.int 7))) (eC (.int 3))) (eC (.int 1))))) (Xx 4 pX) sNext)
noncomputable def a6 : DL.Env -> Option Out := (Zh 4 (eCB Vp (Zb (Za 4) eNil)))
noncomputable def a7 : DL.Env -> Option Out := (Zh 6 (eCB V1 (Zb (Za 4) eNil)))
noncomputable def a8 : DL.Env -> Option Out := (Zh 7 (Zu 2 V5 [] (Zb (Y0 "Rooms" 3 Vt [] (Zb (Za 1) (Zb (Zu 1 XY [] (Zb (Za 3) eNil)) eNil))) (Zb (Za 6) eNil))))
noncomputable def a9 : DL.Env -> Option Out := (sIf (xOr (xB (eOp neD (Za 6) (Za 4))) (xOr (Ym (xB (Yy U6 (Za 7)))) (xB (eOp neD (eCB lenD (Zb (Za 7) eNil)) (eC (.int 2)))))) (ZE (eC (.bl false))) sNext)
noncomputable def a10 : DL.Env -> Option Out := (sIf (xOr (Ym (xB (Yy U5 (eOp ixD (Za 7) (eC (.int 0)))))) (Ym (xB (Zu 1 Qa [] (Zb (eOp ixD (Za 7) (eC (.int 1))) eNil))))) (ZE (eC (.bl false))) sNext)
noncomputable def a11 : DL.Env -> Option Out := (ZE (eOp eqD (Za 7) (Zu 3 Qd [] (Zb (Za 3) (Zb (Za 1) (Zb (Za 4) eNil))))))
theorem ZfU : f_QL = Zd a1 (Zd a2 (Zd a3 (Zd a4 (Zd (ZL pI (Zl 5) pB) (Zd a6 (Zd a7 (Zd a8 (Zd a9 (Zd a10 a11))))))))) := rfl
abbrev LA (ns : List Int) (v1 v2 v3 v4 v5 v6 v7 : Option D) : DL.Env := [some (.lst (ns.map D.int)), v1, v2, v3, v4, v5, v6, v7]
theorem whole (i : Int) : Qa [.int i] = some (.bl true) := rfl
theorem ZeG (ns : List Int) (hns : ns.length <= 63) {m : Nat} (hm0 : 0 < m) (hm : m <= 7) {M : List Nat} (hM : Mk M) (v3 : Option D) (x : Nat) (hx : x < m) : ∃ P w5, (∀ a ∈ P, a < m) /\ (∃ a, a ∈ P) /\ P.length < 64 /\ ZL pI (Zl 5) pB (LA ns (some (.str M)) (some (.int (m : Int))) v3 (some (PD [x])) none none none) = some (.nx (LA ns (some (.str M)) (some (.int (m : Int))) v3 (some (PD P)) w5 none none)) := by
 have hhi := hM.hi
 have hlo := hM.lo
 have hmn : m * M.length <= 7 * 4 := Nat.mul_le_mul hm hhi
 have hb : eCB minD (Zb (eCB lenD (Zb (Za 0) eNil)) (Zb (eC (.int 60)) eNil)) (LA ns (some (.str M)) (some (.int (m : Int))) v3 (some (PD [x])) none none none) = some (.int (min (ns.length : Int) 60)) := by
  refine (Yq (Zm ((Yq (Zm (x := .lst (ns.map D.int)) rfl nil_of)).trans (Zeq)) (Zm (x := .int 60) rfl nil_of))).trans ?_
  rw [List.length_map]
  show some (D.int (if (60 : Int) < (ns.length : Int) then 60 else (ns.length : Int))) = _
  refine congrArg (fun z => some (D.int z)) ?_
  by_cases hz : (60 : Int) < (ns.length : Int)
  · rw [if_pos hz]; omega
  · rw [if_neg hz]; omega
 have ha : eOp addX (eOp addX (eC (.int 3)) (Za 2)) (eOp mulX (Za 2) (eCB lenD (Zb (Za 1) eNil))) (LA ns (some (.str M)) (some (.int (m : Int))) v3 (some (PD [x])) none none none) = some (.int ((3 + m + m * M.length : Nat) : Int)) := by
  refine (Zj (x := .int (3 + (m : Int))) (y := .int ((m * M.length : Nat) : Int)) ((Zj (x := .int 3) (y := .int (m : Int)) rfl rfl).trans (add_int _ _)) (Qh m M.length (by omega) rfl ((Yq (Zm rfl nil_of)).trans (len_str (by omega))))).trans ?_
  rw [add_int]
  exact congrArg (fun z => some (D.int z)) (by omega)
 have hi : pI (LA ns (some (.str M)) (some (.int (m : Int))) v3 (some (PD [x])) none none none) = some (Zy ((3 + m + m * M.length : Nat) : Int) 1 (min (ns.length : Int) 60 - ((3 + m + m * M.length : Nat) : Int)).toNat) := ZdF (Zm ha (Zm hb nil_of)) (by omega) (by omega) (by omega) (by omega)
 obtain ⟨δ', g1, P, w5, e, p1, p2, p3⟩ := XV (γ := Zl 5) (φ := pB) (fun j δ => ∃ P w5, δ = LA ns (some (.str M)) (some (.int (m : Int))) v3 (some (PD P)) w5 none none /\ (∀ a ∈ P, a < m) /\ (∃ a, a ∈ P) /\ P.length <= 1 + j) (Zy ((3 + m + m * M.length : Nat) : Int) 1 (min (ns.length : Int) 60 - ((3 + m + m * M.length : Nat) : Int)).toNat) 0 (LA ns (some (.str M)) (some (.int (m : Int))) v3 (some (PD [x])) none none none) ⟨[x], none, rfl, (fun a ha => by rw [List.mem_singleton.mp ha]; exact hx), ⟨x, List.mem_singleton.mpr rfl⟩, Nat.le_refl _⟩ (by
  intro j d δ hd ⟨P, w5, e, p1, p2, p3⟩
  subst e
  obtain ⟨hj, rfl⟩ := Zbg hd
  rw [Nat.zero_add] at p3 ⊢
  rw [show (((3 + m + m * M.length : Nat) : Int) + (j : Int) * 1) = ((3 + m + m * M.length + j : Nat) : Int) by omega]
  have hkl : 3 + m + m * M.length + j < ns.length := by omega
  have e0 : eOp ixD (Za 0) (Za 5) (LA ns (some (.str M)) (some (.int (m : Int))) v3 (some (PD P)) (some (.int ((3 + m + m * M.length + j : Nat) : Int))) none none) = some (.int (ns.getD (3 + m + m * M.length + j) 0)) := (Zj (x := .lst (ns.map D.int)) (y := .int ((3 + m + m * M.length + j : Nat) : Int)) rfl rfl).trans (U3 hkl)
  generalize ns.getD (3 + m + m * M.length + j) 0 = c at *
  obtain ⟨y, hy, hyl⟩ := U4 c hm0
  have e1 : pX (LA ns (some (.str M)) (some (.int (m : Int))) v3 (some (PD P)) (some (.int ((3 + m + m * M.length + j : Nat) : Int))) none none) = some (nD y) := (Zj (y := .int (m : Int)) e0 rfl).trans ((Y5 (by omega)).trans (by rw [hy]; rfl))
  have e2 : xB (eOp (inD true) pX (Za 4)) (LA ns (some (.str M)) (some (.int (m : Int))) v3 (some (PD P)) (some (.int ((3 + m + m * M.length + j : Nat) : Int))) none none) = some (!decide (y ∈ P)) := ZQ ((Zj (y := PD P) e1 rfl).trans (JK y P))
  have e3 : xB (eOp eqD (eOp modD (eOp fdivD (eOp ixD (Za 0) (Za 5)) (eC (.int 7))) (eC (.int 3))) (eC (.int 1))) (LA ns (some (.str M)) (some (.int (m : Int))) v3 (some (PD P)) (some (.int ((3 + m + m * M.length + j : Nat) : Int))) none none) = some (decide (c / 7 % 3 = 1)) := ZQ ((Zj (x := .int (c / 7 % 3)) (y := .int 1) ((Zj (x := .int (c / 7)) (y := .int 3) ((Zj (y := .int 7) e0 rfl).trans (Vq (ZbC (by decide) (by decide)))) rfl).trans (Y5 (by decide))) rfl).trans (V3 _ _))
  have e4 := Zb6 e2 e3
  cases hb : ((!decide (y ∈ P)) && decide (c / 7 % 3 = 1)) with
  | true =>
   rw [hb] at e4
   refine ⟨_, rfl, _, (V4 e4).trans (ZdG rfl e1 (by rw [List.length_map]; omega)), P ++ [y], some (.int ((3 + m + m * M.length + j : Nat) : Int)), ?_, fun a ha => ?_, ⟨y, List.mem_append_right _ (List.mem_singleton.mpr rfl)⟩, by rw [List.length_append, List.length_singleton]; omega⟩
   · rw [show P.map nD ++ [nD y] = (P ++ [y]).map nD by rw [List.map_append]; rfl]
     rfl
   · rcases List.mem_append.mp ha with ha | ha
     · exact p1 a ha
     · rw [List.mem_singleton.mp ha]; exact hyl
  | false =>
   rw [hb] at e4
   exact ⟨_, rfl, _, (Xl e4).trans rfl, P, _, rfl, p1, p2, by omega⟩)
 subst e
 rw [Zak, Nat.zero_add] at p3
 exact ⟨P, w5, p1, p2, by omega, XC hi g1⟩
theorem ZeH (P : List Nat) (hl : P.length < 64) : ∃ P', (∀ a, a ∈ P' ↔ a ∈ P) /\ Vp [PD P] = some (PD P') := by
 have e1 : P.map nD = (P.map fun a => ((a : Nat) : Int)).map D.int := by rw [List.map_map]; rfl
 refine ⟨(YM (P.map fun a => ((a : Nat) : Int))).map Int.toNat, fun a => ?_, ?_⟩
 · rw [List.mem_map]
   constructor
   · rintro ⟨i, hi, rfl⟩
     obtain ⟨b, hb, rfl⟩ := List.mem_map.mp (sortZ_mem.mp hi)
     rw [Int.toNat_natCast]
     exact hb
   · intro ha
     exact ⟨(a : Int), sortZ_mem.mpr (List.mem_map_of_mem ha), Int.toNat_natCast a⟩
 · show (match YJ (P.map nD) with
    | some ns => if ns.length < 64 then some (D.lst ((YM ns).map D.int)) else none
    | none => none) = _
   rw [e1, DL.intsD_map]
   dsimp only
   rw [if_pos (by rw [List.length_map]; exact hl)]
   unfold PD
   rw [List.map_map]
   refine congrArg (fun l => some (D.lst l)) (List.map_congr_left fun i hi => ?_)
   obtain ⟨b, _, rfl⟩ := List.mem_map.mp (sortZ_mem.mp hi)
   show D.int _ = D.int ((Int.toNat _ : Nat) : Int)
   rw [Int.toNat_natCast]
theorem all_true (ns : List Int) (hns : ns.length <= 63) : Qe [.lst (ns.map D.int)] = some (.bl true) := by
 obtain ⟨M, hM, hm1⟩ := Zdd (ns.getD 0 0)
 obtain ⟨m, hm⟩ := Jv (show 0 <= 1 + ns.getD 1 0 % 7 by omega)
 have hm0 : 0 < m := by omega
 have hm7 : m <= 7 := by omega
 have hhi := hM.hi
 obtain ⟨W, hW, hF, hw⟩ := Zey ns m M.length hm0 hm7 hM.lo hM.hi
 obtain ⟨x, hx, hxm⟩ := U4 (ns.getD 2 0) hm0
 obtain ⟨P, w5, p1, p2, p3, t5⟩ := ZeG ns hns hm0 hm7 hM (some (Zo W)) x hxm
 obtain ⟨P', s1, s2⟩ := ZeH P p3
 have q1 : ∀ a ∈ P', a < m := fun a ha => p1 a ((s1 a).mp ha)
 have q2 : ∃ a, a ∈ P' := by obtain ⟨a, ha⟩ := p2; exact ⟨a, (s1 a).mpr ha⟩
 obtain ⟨r, t, hc, f1, f2⟩ := ZeF hM hW hF q1 q2
 have c0 : cE (eC (.int 0)) (LA ns none none none none none none none) = some (.int (ns.getD 0 0)) := JP 0 rfl rfl
 have t1 : a1 (LA ns none none none none none none none) = some (.nx (LA ns (some (.str M)) none none none none none none)) := ZO ((YB (Zm c0 nil_of) rfl).trans hm1)
 have c1 : cE (eC (.int 1)) (LA ns (some (.str M)) none none none none none none) = some (.int (ns.getD 1 0)) := JP 1 rfl rfl
 have t2 : a2 (LA ns (some (.str M)) none none none none none none) = some (.nx (LA ns (some (.str M)) (some (.int (m : Int))) none none none none none)) := ZO ((Zj (x := .int 1) (y := .int (ns.getD 1 0 % 7)) rfl ((Zj (y := .int 7) c1 rfl).trans (Y5 (by decide)))).trans ((add_int _ _).trans (by rw [hm])))
 have hd3 : Zb (Za 0) (Zb (eC (.int 3)) (Zb (Za 2) (Zb (eCB lenD (Zb (Za 1) eNil)) eNil))) (LA ns (some (.str M)) (some (.int (m : Int))) none none none none none) = some [.lst (ns.map D.int), .int 3, .int (m : Int), .int (M.length : Int)] := Zm rfl (Zm rfl (Zm rfl (Zm ((Yq (Zm rfl nil_of)).trans (len_str (by omega))) nil_of)))
 have t3 : a3 (LA ns (some (.str M)) (some (.int (m : Int))) none none none none none) = some (.nx (LA ns (some (.str M)) (some (.int (m : Int))) (some (Zo W)) none none none none)) := ZO ((YB hd3 rfl).trans hw)
 have c2 : cE (eC (.int 2)) (LA ns (some (.str M)) (some (.int (m : Int))) (some (Zo W)) none none none none) = some (.int (ns.getD 2 0)) := JP 2 rfl rfl
 have t4 : a4 (LA ns (some (.str M)) (some (.int (m : Int))) (some (Zo W)) none none none none) = some (.nx (LA ns (some (.str M)) (some (.int (m : Int))) (some (Zo W)) (some (PD [x])) none none none)) := ZO (Jn (Zm ((Zj (y := .int (m : Int)) c2 rfl).trans ((Y5 (by omega)).trans (by rw [hx]; rfl))) nil_of) (by show 1 <= 1000; decide))
 have t6 : a6 (LA ns (some (.str M)) (some (.int (m : Int))) (some (Zo W)) (some (PD P)) w5 none none) = some (.nx (LA ns (some (.str M)) (some (.int (m : Int))) (some (Zo W)) (some (PD P')) w5 none none)) := ZO ((Yq (Zm rfl nil_of)).trans s2)
 have t7 : a7 (LA ns (some (.str M)) (some (.int (m : Int))) (some (Zo W)) (some (PD P')) w5 none none) = some (.nx (LA ns (some (.str M)) (some (.int (m : Int))) (some (Zo W)) (some (PD P')) w5 (some (PD P')) none)) := ZO ((Yq (Zm rfl nil_of)).trans rfl)
 have hh : Zu 1 XY [] (Zb (Za 3) eNil) (LA ns (some (.str M)) (some (.int (m : Int))) (some (Zo W)) (some (PD P')) w5 (some (PD P')) none) = some (.tup (W.map ZZ)) := (YB (Zm (x := Zo W) rfl nil_of) rfl).trans (ZcG W (by rw [hW.ln]; omega))
 have hmk : Y0 "Rooms" 3 Vt [] (Zb (Za 1) (Zb (Zu 1 XY [] (Zb (Za 3) eNil)) eNil)) (LA ns (some (.str M)) (some (.int (m : Int))) (some (Zo W)) (some (PD P')) w5 (some (PD P')) none) = some (ZV M W) := (Zer (Zm rfl (Zm hh nil_of)) rfl).trans (Zez M W (by rw [hW.ln]; omega))
 have hd8 : Zb (Y0 "Rooms" 3 Vt [] (Zb (Za 1) (Zb (Zu 1 XY [] (Zb (Za 3) eNil)) eNil))) (Zb (Za 6) eNil) (LA ns (some (.str M)) (some (.int (m : Int))) (some (Zo W)) (some (PD P')) w5 (some (PD P')) none) = some [ZV M W, PD P'] := Zm hmk (Zm rfl nil_of)
 have t8 : a8 (LA ns (some (.str M)) (some (.int (m : Int))) (some (Zo W)) (some (PD P')) w5 (some (PD P')) none) = some (.nx (LA ns (some (.str M)) (some (.int (m : Int))) (some (Zo W)) (some (PD P')) w5 (some (PD P')) (some (.tup [.str (ch M r), .int (t : Int)])))) := ZO ((YB hd8 rfl).trans f1)
 have hsP : PySem.SeqAt.shaped (toP (PD P')) = true := by
  have := Za2 (P'.map fun a => ((a : Nat) : Int))
  rw [List.map_map] at this
  exact this
 have t9 : a9 (LA ns (some (.str M)) (some (.int (m : Int))) (some (Zo W)) (some (PD P')) w5 (some (PD P')) (some (.tup [.str (ch M r), .int (t : Int)]))) = some (.nx (LA ns (some (.str M)) (some (.int (m : Int))) (some (Zo W)) (some (PD P')) w5 (some (PD P')) (some (.tup [.str (ch M r), .int (t : Int)])))) := (Xl (Jl (ZQ ((Zj (x := PD P') (y := PD P') rfl rfl).trans (Zda rfl hsP))) (Jl (U1 (b := true) (ZQ (ZdH (d := .tup [.str (ch M r), .int (t : Int)]) rfl rfl))) (ZQ ((Zj (x := .int 2) (y := .int 2) ((Yq (Zm (x := .tup [.str (ch M r), .int (t : Int)]) rfl nil_of)).trans rfl) rfl).trans rfl))))).trans rfl
 have e10 : eOp ixD (Za 7) (eC (.int 1)) (LA ns (some (.str M)) (some (.int (m : Int))) (some (Zo W)) (some (PD P')) w5 (some (PD P')) (some (.tup [.str (ch M r), .int (t : Int)]))) = some (.int (t : Int)) := (Zj (x := .tup [.str (ch M r), .int (t : Int)]) (y := .int 1) rfl rfl).trans rfl
 have e11 : eOp ixD (Za 7) (eC (.int 0)) (LA ns (some (.str M)) (some (.int (m : Int))) (some (Zo W)) (some (PD P')) w5 (some (PD P')) (some (.tup [.str (ch M r), .int (t : Int)]))) = some (.str (ch M r)) := (Zj (x := .tup [.str (ch M r), .int (t : Int)]) (y := .int 0) rfl rfl).trans rfl
 have t10 : a10 (LA ns (some (.str M)) (some (.int (m : Int))) (some (Zo W)) (some (PD P')) w5 (some (PD P')) (some (.tup [.str (ch M r), .int (t : Int)]))) = some (.nx (LA ns (some (.str M)) (some (.int (m : Int))) (some (Zo W)) (some (PD P')) w5 (some (PD P')) (some (.tup [.str (ch M r), .int (t : Int)])))) := (Xl (Jl (U1 (b := true) (ZQ (ZdH (d := .str (ch M r)) e11 rfl))) (U1 (b := true) (ZQ ((YB (Zm e10 nil_of) rfl).trans (whole _)))))).trans rfl
 have hd11 : Zb (Za 3) (Zb (Za 1) (Zb (Za 4) eNil)) (LA ns (some (.str M)) (some (.int (m : Int))) (some (Zo W)) (some (PD P')) w5 (some (PD P')) (some (.tup [.str (ch M r), .int (t : Int)]))) = some [Zo W, .str M, PD P'] := Zm rfl (Zm rfl (Zm rfl nil_of))
 have hst : PySem.SeqAt.shaped (toP (.tup [.str (ch M r), .int (t : Int)])) = true := by
  unfold PySem.SeqAt.shaped
  have e1 : PySem.PyData.canLay0 (toP (.tup [.str (ch M r), .int (t : Int)])) = true := by
   rw [toP, PySem.PyData.canLay0, ZH, ZH, ZH, PySem.PyData.canLayAll0, PySem.PyData.canLayAll0, PySem.PyData.canLayAll0, toP, toP, PySem.PyData.canLay0, PySem.PyData.canLay0, Zdb hc]
   rfl
  rw [e1]
  rfl
 refine Xm (δ := LA ns none none none none none none none) rfl ?_
 rw [ZfU, Zv t1, Zv t2, Zv t3, Zv t4, Zv t5, Zv t6, Zv t7, Zv t8, Zv t9, Zv t10]
 exact XW ((Zj (x := .tup [.str (ch M r), .int (t : Int)]) rfl ((YB hd11 rfl).trans f2)).trans (Zbi rfl hst))
end K33
namespace K33
open PySem PySem.Spec L2 DL
def Qo (K : PySem.W.Frag) : Sp := fun vs H Q _ => ∃ (a : Addr) (ns : List Int), vs = [.ref a] /\ SqL K H a (ns.map V.int) /\ ns.length <= 63 /\ ∀ H', Q (.bl true) H'
theorem ZfV (hall : ∀ ns : List Int, ns.length <= 63 -> Qe [.lst (ns.map D.int)] = some (.bl true)) {P : Program} {w : World} {K : PySem.W.Frag} {mg : Str -> Option Value} {base : Heap} {t : Adr} (T : Txt K mg t) : FnOk P w K mg base CX0 4 t.a_QL t.d_QL ["script"] (Qo K) :=
 (Zgv T).imp fun vs H Q E ⟨a, ns, hv, hr, hl, q⟩ => by
   subst hv
   refine ⟨fun _ => False, [.lst (ns.map D.int)], .bl true, fun _ z => z.elim, .cons ?_ .nil, rfl, hall ns hl, fun v H' _ r => ?_⟩
   · unfold Rep
     refine ⟨a, _, rfl, fun z => z.elim, hr, ?_⟩
     have := RepL.of_vals (cA := ⟨t.c, K⟩) (av := fun _ => False) (H := H) (xs := ns.map D.int) (by rw [List.all_map]; exact List.all_eq_true.mpr fun _ _ => rfl)
     rw [List.map_map] at this
     exact this
   · cases (show v = _ from r)
     exact q H'
theorem all_mk (hall : ∀ ns : List Int, ns.length <= 63 -> Qe [.lst (ns.map D.int)] = some (.bl true)) {l : PySem.W.OpenLaw} {w : World} {K : PySem.W.Frag} {h : Heap} {mg : Str -> Option Value} {fa : Addr} (X : K.In h) (G : h.Ns mainGlobals mg) (hfa : mg "law" = some (.ref fa))
 {c_Rooms : Addr}
 {f0 : Addr} {od0 an0 : Option Addr} {sl0 : Array (Option Value)} {oc0 kV0 dc0 pm0 cd0 ct0 : Value}
 {f1 : Addr} {od1 an1 : Option Addr} {sl1 : Array (Option Value)} {oc1 kV1 dc1 pm1 cd1 ct1 : Value}
 {f2 : Addr} {od2 an2 : Option Addr} {sl2 : Array (Option Value)} {oc2 kV2 dc2 pm2 cd2 ct2 : Value}
 {f3 : Addr} {od3 an3 : Option Addr} {sl3 : Array (Option Value)} {oc3 kV3 dc3 pm3 cd3 ct3 : Value}
 {f4 : Addr} {od4 an4 : Option Addr} {sl4 : Array (Option Value)} {oc4 kV4 dc4 pm4 cd4 ct4 : Value}
 {f5 : Addr} {od5 an5 : Option Addr} {sl5 : Array (Option Value)} {oc5 kV5 dc5 pm5 cd5 ct5 : Value}
 {f6 : Addr} {od6 an6 : Option Addr} {sl6 : Array (Option Value)} {oc6 kV6 dc6 pm6 cd6 ct6 : Value}
 {f7 : Addr} {od7 an7 : Option Addr} {sl7 : Array (Option Value)} {oc7 kV7 dc7 pm7 cd7 ct7 : Value}
 {f8 : Addr} {od8 an8 : Option Addr} {sl8 : Array (Option Value)} {oc8 kV8 dc8 pm8 cd8 ct8 : Value}
 {f9 : Addr} {od9 an9 : Option Addr} {sl9 : Array (Option Value)} {oc9 kV9 dc9 pm9 cd9 ct9 : Value}
 {f10 : Addr} {od10 an10 : Option Addr} {sl10 : Array (Option Value)} {oc10 kV10 dc10 pm10 cd10 ct10 : Value}
 {f11 : Addr} {od11 an11 : Option Addr} {sl11 : Array (Option Value)} {oc11 kV11 dc11 pm11 cd11 ct11 : Value}
 {f12 : Addr} {od12 an12 : Option Addr} {sl12 : Array (Option Value)} {oc12 kV12 dc12 pm12 cd12 ct12 : Value}
 {f13 : Addr} {od13 an13 : Option Addr} {sl13 : Array (Option Value)} {oc13 kV13 dc13 pm13 cd13 ct13 : Value}
 {f14 : Addr} {od14 an14 : Option Addr} {sl14 : Array (Option Value)} {oc14 kV14 dc14 pm14 cd14 ct14 : Value}
 (ZhP : PySem.W.nsIn K mainGlobals "Rooms" = some (some (.ref c_Rooms)))
 (a0 : PySem.W.nsIn K mainGlobals "_wall" = some (some (.ref f0)))
 (l0 : K.lookup f0 = some ⟨oc0, od0, .func (PySem.W.fnOf "_wall" "_wall" (ZR XZ) (ZK XZ) (Zp XZ) .none kV0 dc0 pm0 an0 cd0 ct0), sl0⟩)
 (c0 : PySem.W.codeIn K cd0 "_wall" = true)
 (k0 : PySem.W.keepIn K (.ref f0) = true)
 (a1 : PySem.W.nsIn K mainGlobals "is_mark" = some (some (.ref f1)))
 (l1 : K.lookup f1 = some ⟨oc1, od1, .func (PySem.W.fnOf "is_mark" "is_mark" (ZR XD) (ZK XD) (Zp XD) .none kV1 dc1 pm1 an1 cd1 ct1), sl1⟩)
 (c1 : PySem.W.codeIn K cd1 "is_mark" = true)
 (k1 : PySem.W.keepIn K (.ref f1) = true)
 (a2 : PySem.W.findIn K (.ref c_Rooms) "led" = some (some (.ref f2)))
 (l2 : K.lookup f2 = some ⟨oc2, od2, .func (PySem.W.fnOf "led" "Rooms.led" (ZR XE) (ZK XE) (Zp XE) .none kV2 dc2 pm2 an2 cd2 ct2), sl2⟩)
 (c2 : PySem.W.codeIn K cd2 "Rooms.led" = true)
 (k2 : PySem.W.keepIn K (.ref f2) = true)
 (a3 : PySem.W.nsIn K mainGlobals "lead_to" = some (some (.ref f3)))
 (l3 : K.lookup f3 = some ⟨oc3, od3, .func (PySem.W.fnOf "lead_to" "lead_to" (ZR XF) (ZK XF) (Zp XF) .none kV3 dc3 pm3 an3 cd3 ct3), sl3⟩)
 (c3 : PySem.W.codeIn K cd3 "lead_to" = true)
 (k3 : PySem.W.keepIn K (.ref f3) = true)
 (a4 : PySem.W.findIn K (.ref c_Rooms) "__init__" = some (some (.ref f4)))
 (l4 : K.lookup f4 = some ⟨oc4, od4, .func (PySem.W.fnOf "__init__" "Rooms.__init__" (ZR Xn) (ZK Xn) (Zp Xn) .none kV4 dc4 pm4 an4 cd4 ct4), sl4⟩)
 (c4 : PySem.W.codeIn K cd4 "Rooms.__init__" = true)
 (k4 : PySem.W.keepIn K (.ref f4) = true)
 (a5 : PySem.W.findIn K (.ref c_Rooms) "many" = some (some (.ref f5)))
 (l5 : K.lookup f5 = some ⟨oc5, od5, .func (PySem.W.fnOf "many" "Rooms.many" (ZR X0) (ZK X0) (Zp X0) .none kV5 dc5 pm5 an5 cd5 ct5), sl5⟩)
 (c5 : PySem.W.codeIn K cd5 "Rooms.many" = true)
 (k5 : PySem.W.keepIn K (.ref f5) = true)
 (a6 : PySem.W.findIn K (.ref c_Rooms) "walked" = some (some (.ref f6)))
 (l6 : K.lookup f6 = some ⟨oc6, od6, .func (PySem.W.fnOf "walked" "Rooms.walked" (ZR X1) (ZK X1) (Zp X1) .none kV6 dc6 pm6 an6 cd6 ct6), sl6⟩)
 (c6 : PySem.W.codeIn K cd6 "Rooms.walked" = true)
 (k6 : PySem.W.keepIn K (.ref f6) = true)
 (a7 : PySem.W.nsIn K mainGlobals "_law_cell_at" = some (some (.ref f7)))
 (l7 : K.lookup f7 = some ⟨oc7, od7, .func (PySem.W.fnOf "_law_cell_at" "_law_cell_at" (ZR XG) (ZK XG) (Zp XG) .none kV7 dc7 pm7 an7 cd7 ct7), sl7⟩)
 (c7 : PySem.W.codeIn K cd7 "_law_cell_at" = true)
 (k7 : PySem.W.keepIn K (.ref f7) = true)
 (a8 : PySem.W.nsIn K mainGlobals "_law_is_whole" = some (some (.ref f8)))
 (l8 : K.lookup f8 = some ⟨oc8, od8, .func (PySem.W.fnOf "_law_is_whole" "_law_is_whole" (ZR XH) (ZK XH) (Zp XH) .none kV8 dc8 pm8 an8 cd8 ct8), sl8⟩)
 (c8 : PySem.W.codeIn K cd8 "_law_is_whole" = true)
 (k8 : PySem.W.keepIn K (.ref f8) = true)
 (a9 : PySem.W.nsIn K mainGlobals "_law_marks" = some (some (.ref f9)))
 (l9 : K.lookup f9 = some ⟨oc9, od9, .func (PySem.W.fnOf "_law_marks" "_law_marks" (ZR Xo) (ZK Xo) (Zp Xo) .none kV9 dc9 pm9 an9 cd9 ct9), sl9⟩)
 (c9 : PySem.W.codeIn K cd9 "_law_marks" = true)
 (k9 : PySem.W.keepIn K (.ref f9) = true)
 (a10 : PySem.W.nsIn K mainGlobals "_law_ways" = some (some (.ref f10)))
 (l10 : K.lookup f10 = some ⟨oc10, od10, .func (PySem.W.fnOf "_law_ways" "_law_ways" (ZR Xp) (ZK Xp) (Zp Xp) .none kV10 dc10 pm10 an10 cd10 ct10), sl10⟩)
 (c10 : PySem.W.codeIn K cd10 "_law_ways" = true)
 (k10 : PySem.W.keepIn K (.ref f10) = true)
 (a11 : PySem.W.nsIn K mainGlobals "_law_handed" = some (some (.ref f11)))
 (l11 : K.lookup f11 = some ⟨oc11, od11, .func (PySem.W.fnOf "_law_handed" "_law_handed" (ZR Xq) (ZK Xq) (Zp Xq) .none kV11 dc11 pm11 an11 cd11 ct11), sl11⟩)
 (c11 : PySem.W.codeIn K cd11 "_law_handed" = true)
 (k11 : PySem.W.keepIn K (.ref f11) = true)
 (a12 : PySem.W.nsIn K mainGlobals "_law_off" = some (some (.ref f12)))
 (l12 : K.lookup f12 = some ⟨oc12, od12, .func (PySem.W.fnOf "_law_off" "_law_off" (ZR Xr) (ZK Xr) (Zp Xr) .none kV12 dc12 pm12 an12 cd12 ct12), sl12⟩)
 (c12 : PySem.W.codeIn K cd12 "_law_off" = true)
 (k12 : PySem.W.keepIn K (.ref f12) = true)
 (a13 : PySem.W.nsIn K mainGlobals "_law_due" = some (some (.ref f13)))
 (l13 : K.lookup f13 = some ⟨oc13, od13, .func (PySem.W.fnOf "_law_due" "_law_due" (ZR Xs) (ZK Xs) (Zp Xs) .none kV13 dc13 pm13 an13 cd13 ct13), sl13⟩)
 (c13 : PySem.W.codeIn K cd13 "_law_due" = true)
 (k13 : PySem.W.keepIn K (.ref f13) = true)
 (a14 : PySem.W.nsIn K mainGlobals "law" = some (some (.ref f14)))
 (l14 : K.lookup f14 = some ⟨oc14, od14, .func (PySem.W.fnOf "law" "law" (ZR YN) (ZK YN) (Zp YN) .none kV14 dc14 pm14 an14 cd14 ct14), sl14⟩)
 (c14 : PySem.W.codeIn K cd14 "law" = true)
 (k14 : PySem.W.keepIn K (.ref f14) = true)
 (ZhQ : PySem.W.nsIn K mainGlobals "ValueError" = some none)
 (ZhR : PySem.W.nsIn K mainGlobals "bool" = some none)
 (ZhS : PySem.W.nsIn K mainGlobals "int" = some none)
 (ZhT : PySem.W.nsIn K mainGlobals "isinstance" = some none)
 (ZhU : PySem.W.nsIn K mainGlobals "len" = some none)
 (ZhV : PySem.W.nsIn K mainGlobals "list" = some none)
 (ZhW : PySem.W.nsIn K mainGlobals "min" = some none)
 (ZhX : PySem.W.nsIn K mainGlobals "range" = some none)
 (ZhY : PySem.W.nsIn K mainGlobals "sorted" = some none)
 (ZhZ : PySem.W.nsIn K mainGlobals "str" = some none)
 (Zh0 : PySem.W.nsIn K mainGlobals "tuple" = some none)
 (ZhM : PySem.W.plainGet K c_Rooms Str.empty = true)
 (Zha : PySem.W.hasDictIn K c_Rooms = true)
 (ZhN : PySem.W.plainOver K c_Rooms = true)
 (ZhO : PySem.W.findIn K (.ref c_Rooms) "__setattr__" = some (some (.builtin "object.__setattr__")))
 (Zg9 : PySem.W.findIn K (.ref c_Rooms) "__class__" = some (some (.builtin "object.__class__")))
 (Zhb : PySem.W.mroIn K c_Rooms (.type "object") = some true)
 (ZhI : PySem.W.makesIn K c_Rooms = true)
 (ZhE : PySem.W.keepIn K (.ref c_Rooms) = true)
 (ZhH : PySem.W.findIn K (.ref c_Rooms) "__init__" = some (some (.ref f4)))
 (ZhG : PySem.W.isFn K (.ref f4) = true)
 (hn_ : PySem.W.specialIn K (.builtin "object.__class__") "__get__" = some (some (.builtin "getset_descriptor.__get__")))
 (htk_ : PySem.W.takesIn K (.builtin "object.__class__") = some true)
 (ZhK : PySem.W.findIn K (.ref c_Rooms) "marks" = some none)
 (ZhL : PySem.W.findIn K (.ref c_Rooms) "ways" = some none)
 (ZhF : PySem.W.findIn K (.ref c_Rooms) "led" = some (some (.ref f2)))
 (ZhJ : PySem.W.isFn K (.ref f2) = true)
 (Zhc : PySem.W.kitOne K (.type "NoneType") (.type "bool") = some false)
 (Zhk : PySem.W.kitOne K (.type "bool") (.type "bool") = some true)
 (Zho : PySem.W.kitOne K (.type "int") (.type "bool") = some false)
 (Zhw : PySem.W.kitOne K (.type "str") (.type "bool") = some false)
 (Zhs : PySem.W.kitOne K (.type "list") (.type "bool") = some false)
 (ZhA : PySem.W.kitOne K (.type "tuple") (.type "bool") = some false)
 (Zhg : PySem.W.kitOne K (.ref c_Rooms) (.type "bool") = some false)
 (Zhd : PySem.W.kitOne K (.type "NoneType") (.type "int") = some false)
 (Zhl : PySem.W.kitOne K (.type "bool") (.type "int") = some true)
 (Zhp : PySem.W.kitOne K (.type "int") (.type "int") = some true)
 (Zhx : PySem.W.kitOne K (.type "str") (.type "int") = some false)
 (Zht : PySem.W.kitOne K (.type "list") (.type "int") = some false)
 (ZhB : PySem.W.kitOne K (.type "tuple") (.type "int") = some false)
 (Zhh : PySem.W.kitOne K (.ref c_Rooms) (.type "int") = some false)
 (Zhe : PySem.W.kitOne K (.type "NoneType") (.type "str") = some false)
 (Zhm : PySem.W.kitOne K (.type "bool") (.type "str") = some false)
 (Zhq : PySem.W.kitOne K (.type "int") (.type "str") = some false)
 (Zhy : PySem.W.kitOne K (.type "str") (.type "str") = some true)
 (Zhu : PySem.W.kitOne K (.type "list") (.type "str") = some false)
 (ZhC : PySem.W.kitOne K (.type "tuple") (.type "str") = some false)
 (Zhi : PySem.W.kitOne K (.ref c_Rooms) (.type "str") = some false)
 (Zhf : PySem.W.kitOne K (.type "NoneType") (.type "tuple") = some false)
 (Zhn : PySem.W.kitOne K (.type "bool") (.type "tuple") = some false)
 (Zhr : PySem.W.kitOne K (.type "int") (.type "tuple") = some false)
 (Zhz : PySem.W.kitOne K (.type "str") (.type "tuple") = some false)
 (Zhv : PySem.W.kitOne K (.type "list") (.type "tuple") = some false)
 (ZhD : PySem.W.kitOne K (.type "tuple") (.type "tuple") = some true)
 (Zhj : PySem.W.kitOne K (.ref c_Rooms) (.type "tuple") = some false)
 : ∃ fd : FuncData, (∀ (s : Shared) (v : Value), BindsTo s fd ⟨[v], []⟩ [("script", v)]) /\ ∀ base : Heap, K.In base -> base.Ns mainGlobals mg -> FnOk l.prog w K mg base CX0 4 fa fd ["script"] (Qo K) := by
 have e := hfa.symm.trans (PySem.W.mg_of X G a14)
 cases e
 have F0 : FunX K "_wall" "_wall" XZ f0 _ := (ZF (st := XZ) l0 c0 k0).x
 have b0 := (ZF (st := XZ) l0 c0 k0).binds (ps := ["k"]) fun _ _ _ _ _ _ us hl => match us, hl with | [_], _ => rfl
 have F1 : FunX K "is_mark" "is_mark" XD f1 _ := (ZF (st := XD) l1 c1 k1).x
 have b1 := (ZF (st := XD) l1 c1 k1).binds (ps := ["marks", "text"]) fun _ _ _ _ _ _ us hl => match us, hl with | [_, _], _ => rfl
 have F2 : FunX K "led" "Rooms.led" XE f2 _ := (ZF (st := XE) l2 c2 k2).x
 have b2 := (ZF (st := XE) l2 c2 k2).binds (ps := ["self", "room", "mark"]) fun _ _ _ _ _ _ us hl => match us, hl with | [_, _, _], _ => rfl
 have F3 : FunX K "lead_to" "lead_to" XF f3 _ := (ZF (st := XF) l3 c3 k3).x
 have b3 := (ZF (st := XF) l3 c3 k3).binds (ps := ["rooms", "part"]) fun _ _ _ _ _ _ us hl => match us, hl with | [_, _], _ => rfl
 have F4 : FunX K "__init__" "Rooms.__init__" Xn f4 _ := (ZF (st := Xn) l4 c4 k4).x
 have b4 := (ZF (st := Xn) l4 c4 k4).binds (ps := ["self", "marks", "ways"]) fun _ _ _ _ _ _ us hl => match us, hl with | [_, _, _], _ => rfl
 have F5 : FunX K "many" "Rooms.many" X0 f5 _ := (ZF (st := X0) l5 c5 k5).x
 have b5 := (ZF (st := X0) l5 c5 k5).binds (ps := ["self"]) fun _ _ _ _ _ _ us hl => match us, hl with | [_], _ => rfl
 have F6 : FunX K "walked" "Rooms.walked" X1 f6 _ := (ZF (st := X1) l6 c6 k6).x
 have b6 := (ZF (st := X1) l6 c6 k6).binds (ps := ["self", "room", "row"]) fun _ _ _ _ _ _ us hl => match us, hl with | [_, _, _], _ => rfl
 have F7 : FunX K "_law_cell_at" "_law_cell_at" XG f7 _ := (ZF (st := XG) l7 c7 k7).x
 have b7 := (ZF (st := XG) l7 c7 k7).binds (ps := ["script", "k"]) fun _ _ _ _ _ _ us hl => match us, hl with | [_, _], _ => rfl
 have F8 : FunX K "_law_is_whole" "_law_is_whole" XH f8 _ := (ZF (st := XH) l8 c8 k8).x
 have b8 := (ZF (st := XH) l8 c8 k8).binds (ps := ["found"]) fun _ _ _ _ _ _ us hl => match us, hl with | [_], _ => rfl
 have F9 : FunX K "_law_marks" "_law_marks" Xo f9 _ := (ZF (st := Xo) l9 c9 k9).x
 have b9 := (ZF (st := Xo) l9 c9 k9).binds (ps := ["cell"]) fun _ _ _ _ _ _ us hl => match us, hl with | [_], _ => rfl
 have F10 : FunX K "_law_ways" "_law_ways" Xp f10 _ := (ZF (st := Xp) l10 c10 k10).x
 have b10 := (ZF (st := Xp) l10 c10 k10).binds (ps := ["script", "at", "many", "size"]) fun _ _ _ _ _ _ us hl => match us, hl with | [_, _, _, _], _ => rfl
 have F11 : FunX K "_law_handed" "_law_handed" Xq f11 _ := (ZF (st := Xq) l11 c11 k11).x
 have b11 := (ZF (st := Xq) l11 c11 k11).binds (ps := ["ways"]) fun _ _ _ _ _ _ us hl => match us, hl with | [_], _ => rfl
 have F12 : FunX K "_law_off" "_law_off" Xr f12 _ := (ZF (st := Xr) l12 c12 k12).x
 have b12 := (ZF (st := Xr) l12 c12 k12).binds (ps := ["ways", "part"]) fun _ _ _ _ _ _ us hl => match us, hl with | [_, _], _ => rfl
 have F13 : FunX K "_law_due" "_law_due" Xs f13 _ := (ZF (st := Xs) l13 c13 k13).x
 have b13 := (ZF (st := Xs) l13 c13 k13).binds (ps := ["ways", "marks", "part"]) fun _ _ _ _ _ _ us hl => match us, hl with | [_, _, _], _ => rfl
 have F14 : FunX K "law" "law" YN fa _ := (ZF (st := YN) l14 c14 k14).x
 have b14 := (ZF (st := YN) l14 c14 k14).binds (ps := ["script"]) fun _ _ _ _ _ _ us hl => match us, hl with | [_], _ => rfl
 have T : Txt K mg { a__wall := f0, d__wall := _, a_QK := f1, d_QK := _, a_QF := f2, d_QF := _, a_QJ := f3, d_QJ := _, a_QE := f4, d_QE := _, a_Rooms_many := f5, d_Rooms_many := _, a_Rooms_walked := f6, d_Rooms_walked := _, a_QB := f7, d_QB := _, a_QA := f8, d_QA := _, a_QD := f9, d_QD := _, a_QG := f10, d_QG := _, a_QC := f11, d_QC := _, a_QI := f12, d_QI := _, a_QH := f13, d_QH := _, a_QL := fa, d_QL := _, c_Rooms := c_Rooms } := { f__wall := F0, b__wall := b0, g__wall := PySem.W.mg_of X G a0, k__wall := k0, f_QK := F1, b_QK := b1, g_QK := PySem.W.mg_of X G a1, k_QK := k1, f_QF := F2, b_QF := b2, k_QF := k2, f_QJ := F3, b_QJ := b3, g_QJ := PySem.W.mg_of X G a3, k_QJ := k3, f_QE := F4, b_QE := b4, k_QE := k4, f_Rooms_many := F5, b_Rooms_many := b5, k_Rooms_many := k5, f_Rooms_walked := F6, b_Rooms_walked := b6, k_Rooms_walked := k6, f_QB := F7, b_QB := b7, g_QB := PySem.W.mg_of X G a7, k_QB := k7, f_QA := F8, b_QA := b8, g_QA := PySem.W.mg_of X G a8, k_QA := k8, f_QD := F9, b_QD := b9, g_QD := PySem.W.mg_of X G a9, k_QD := k9, f_QG := F10, b_QG := b10, g_QG := PySem.W.mg_of X G a10, k_QG := k10, f_QC := F11, b_QC := b11, g_QC := PySem.W.mg_of X G a11, k_QC := k11, f_QI := F12, b_QI := b12, g_QI := PySem.W.mg_of X G a12, k_QI := k12, f_QH := F13, b_QH := b13, g_QH := PySem.W.mg_of X G a13, k_QH := k13, f_QL := F14, b_QL := b14, g_QL := PySem.W.mg_of X G a14, k_QL := k14, n_ValueError := PySem.W.mg_none_of X G ZhQ, n_bool := PySem.W.mg_none_of X G ZhR, n_int := PySem.W.mg_none_of X G ZhS, n_isinstance := PySem.W.mg_none_of X G ZhT, n_len := PySem.W.mg_none_of X G ZhU, n_list := PySem.W.mg_none_of X G ZhV, n_min := PySem.W.mg_none_of X G ZhW, n_range := PySem.W.mg_none_of X G ZhX, n_sorted := PySem.W.mg_none_of X G ZhY, n_str := PySem.W.mg_none_of X G ZhZ, n_tuple := PySem.W.mg_none_of X G Zh0, g_Rooms := PySem.W.mg_of X G ZhP, cl_Rooms := ⟨ZhM, Zha, ZhN, ZhO⟩, ci_Rooms := ⟨⟨ZhM, Zha, ZhN, ZhO⟩, Zg9, hn_, htk_, Zhb⟩, mk_Rooms := ⟨ZhI, ZhH, ZhG, ZhE⟩, fl_marks := (by intro c hc; simp only [Y6, List.mem_cons, List.mem_nil_iff, or_false] at hc; rcases hc with rfl <;> first | exact ⟨⟨ZhM, Zha, ZhN, ZhO⟩, ZhK⟩), fl_ways := (by intro c hc; simp only [XX, List.mem_cons, List.mem_nil_iff, or_false] at hc; rcases hc with rfl <;> first | exact ⟨⟨ZhM, Zha, ZhN, ZhO⟩, ZhL⟩), me_Rooms_led := ⟨ZhF, ZhJ, k2⟩, isi_bool := US (by intro p hp; simp only [Jx, List.mem_cons, List.mem_nil_iff, or_false] at hp; rcases hp with rfl | rfl | rfl | rfl | rfl | rfl | rfl <;> first | exact Zhc | exact Zhk | exact Zho | exact Zhw | exact Zhs | exact ZhA | exact ⟨Zhg, ⟨ZhM, Zha, ZhN, ZhO⟩, Zg9, hn_, htk_, Zhb⟩), isi_int := US (by intro p hp; simp only [Jy, List.mem_cons, List.mem_nil_iff, or_false] at hp; rcases hp with rfl | rfl | rfl | rfl | rfl | rfl | rfl <;> first | exact Zhd | exact Zhl | exact Zhp | exact Zhx | exact Zht | exact ZhB | exact ⟨Zhh, ⟨ZhM, Zha, ZhN, ZhO⟩, Zg9, hn_, htk_, Zhb⟩), isi_str := US (by intro p hp; simp only [U5, List.mem_cons, List.mem_nil_iff, or_false] at hp; rcases hp with rfl | rfl | rfl | rfl | rfl | rfl | rfl <;> first | exact Zhe | exact Zhm | exact Zhq | exact Zhy | exact Zhu | exact ZhC | exact ⟨Zhi, ⟨ZhM, Zha, ZhN, ZhO⟩, Zg9, hn_, htk_, Zhb⟩), isi_tuple := US (by intro p hp; simp only [U6, List.mem_cons, List.mem_nil_iff, or_false] at hp; rcases hp with rfl | rfl | rfl | rfl | rfl | rfl | rfl <;> first | exact Zhf | exact Zhn | exact Zhr | exact Zhz | exact Zhv | exact ZhD | exact ⟨Zhj, ⟨ZhM, Zha, ZhN, ZhO⟩, Zg9, hn_, htk_, Zhb⟩) }
 exact ⟨PySem.W.fnOf "law" "law" (ZR YN) (ZK YN) (Zp YN) .none kV14 dc14 pm14 an14 cd14 ct14, fun s v => .of_eq rfl, fun base _ _ => ZfV hall T⟩
theorem walk {l : PySem.W.OpenLaw} {q : Program} {loose : List Str} {XP : (Str -> Option Value) -> Heap -> Prop} {YP : World -> Heap -> Prop} {d : DefRec} {K : Params -> PySem.W.Frag} (hn : l.most = some 63) (hdf : d.params.defaults = [])
 (hY : ∀ (w : World) (h : Heap), YP w h -> (K w.params).In h)
 (F : ∀ (w : World) (mg : Str -> Option Value) (fa : Addr) (h : Heap), (K w.params).In h -> h.Ns mainGlobals mg -> mg d.name = some (.ref fa) ->
   ∃ fd : FuncData, (∀ (s : Shared) (u : Value), BindsTo s fd ⟨[u], []⟩ [("script", u)]) /\ ∀ base : Heap, (K w.params).In base -> base.Ns mainGlobals mg -> FnOk l.prog w (K w.params) mg base CX0 4 fa fd ["script"] (Qo (K w.params))) :
 PySem.W.WalkO q loose XP YP l.row.toRowW d [] (fun f vs => PySem.call f vs) :=
 L2.walk_of (n := 63) (k := 4) (x := "script") (CX := fun _ => CX0) (sp := fun w => Qo (K w.params)) hn (by decide) hdf ⟨rfl, by decide, by decide⟩ hY F (fun _ _ a ns hl _ hS => ⟨a, ns, rfl, hS, hl, fun _ => rfl⟩) fun _ _ _ _ _ z => z
end K33
open PySem PySem.W PyProof.Rows
set_option maxRecDepth 100000 in
set_option maxHeartbeats 0 in
theorem PySem.Challenge.cw_grooveway_k33_leads_to_parts_holds : PySem.Challenge.rw_grooveway_k33_leads_to_parts.Holds := by
 w_on; o_law; k_head; (case hw => w_witness2)
 k_fill
 refine K33.walk (l := PySem.Challenge.rw_grooveway_k33_leads_to_parts) rfl rfl (fun w h Y => PySem.W.kIn_of Y) ?F
 case F =>
  intro w mg fa h KX G hmg
  refine' K33.all_mk K33.all_true KX G hmg ?ZhP ?a0 ?l0 ?c0 ?k0 ?a1 ?l1 ?c1 ?k1 ?a2 ?l2 ?c2 ?k2 ?a3 ?l3 ?c3 ?k3 ?a4 ?l4 ?c4 ?k4 ?a5 ?l5 ?c5 ?k5 ?a6 ?l6 ?c6 ?k6 ?a7 ?l7 ?c7 ?k7 ?a8 ?l8 ?c8 ?k8 ?a9 ?l9 ?c9 ?k9 ?a10 ?l10 ?c10 ?k10 ?a11 ?l11 ?c11 ?k11 ?a12 ?l12 ?c12 ?k12 ?a13 ?l13 ?c13 ?k13 ?a14 ?l14 ?c14 ?k14 ?ZhQ ?ZhR ?ZhS ?ZhT ?ZhU ?ZhV ?ZhW ?ZhX ?ZhY ?ZhZ ?Zh0 ?ZhM ?Zha ?ZhN ?ZhO ?Zg9 ?Zhb ?ZhI ?ZhE ?ZhH ?ZhG ?hn_ ?htk_ ?ZhK ?ZhL ?ZhF ?ZhJ ?Zhc ?Zhk ?Zho ?Zhw ?Zhs ?ZhA ?Zhg ?Zhd ?Zhl ?Zhp ?Zhx ?Zht ?ZhB ?Zhh ?Zhe ?Zhm ?Zhq ?Zhy ?Zhu ?ZhC ?Zhi ?Zhf ?Zhn ?Zhr ?Zhz ?Zhv ?ZhD ?Zhj
  (case ZhP | a0 | l0 | c0 | k0 | a1 | l1 | c1 | k1 | a2 | l2 | c2 | k2 | a3 | l3 | c3 | k3 | a4 | l4 | c4 | k4 | a5 | l5 | c5 | k5 | a6 | l6 | c6 | k6 | a7 | l7 | c7 | k7 | a8 | l8 | c8 | k8 | a9 | l9 | c9 | k9 | a10 | l10 | c10 | k10 | a11 | l11 | c11 | k11 | a12 | l12 | c12 | k12 | a13 | l13 | c13 | k13 | a14 | l14 | c14 | k14 | ZhQ | ZhR | ZhS | ZhT | ZhU | ZhV | ZhW | ZhX | ZhY | ZhZ | Zh0 | ZhM | Zha | ZhN | ZhO | Zg9 | Zhb | ZhI | ZhE | ZhH | ZhG | hn_ | htk_ | ZhK | ZhL | ZhF | ZhJ => k_is)
  (case Zhc | Zhk | Zho | Zhw | Zhs | ZhA | Zhg | Zhd | Zhl | Zhp | Zhx | Zht | ZhB | Zhh | Zhe | Zhm | Zhq | Zhy | Zhu | ZhC | Zhi | Zhf | Zhn | Zhr | Zhz | Zhv | ZhD | Zhj => kit_is)
