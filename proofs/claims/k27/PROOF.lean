import PyProof.Rows.All
import Wide.All
import OpenK.AllK
import Wide.FinOn
import Lean
import PyProof.EqAt
import PyProof.EqKinds
import PyProof.TupleCall
import PyProof.Rows.StrCountLaw
import PyProof.Rows.StrFirst
import PyProof.Rows.StrLast
import PyProof.Rows.StrNews2
import PyProof.Rows.StrSplitCount
import PyProof.StrBlockI
import PyProof.StrLawsIn
import PyProof.StrLawsLast
import PyProof.EnumMake
import PyProof.FString
import PyProof.ReprStr
import PyProof.StrLawsRepr
import PyProof.ListStr
import PyProof.ListRange
import PySem.Challenge.RW_grooveway_k27_presses
set_option Elab.async false
set_option linter.all false
set_option maxRecDepth 100000
set_option maxHeartbeats 4000000
namespace L2
open PySem PySem.Spec PyProof.Rows
abbrev Key := Sum Int Str
def Zez : Key -> Value -> Bool
 | .inl k, v => Value.isInt k v
 | .inr x, v => Value.isStrOf x v
def Zg5 (w : World) : Key -> Int
 | .inl k => hashInt k
 | .inr x => hashStr w x
theorem Xo : ∀ {k : Key} {v : Value}, Zez k v = true -> (∃ i t, k = Sum.inl i /\ v = Value.int i t) \/ (∃ x t, k = Sum.inr x /\ v = Value.str x t)
 | .inl i, v, h => by
  obtain ⟨t, e⟩ := Value.isInt_shape (k := i) (v := v) h
  exact .inl ⟨i, t, rfl, e⟩
 | .inr x, v, h => by
  obtain ⟨t, e⟩ := Value.isStrOf_shape (x := x) (v := v) h
  exact .inr ⟨x, t, rfl, e⟩
theorem Ze0 (a b : Int) : decide ((Sum.inl a : Key) = Sum.inl b) = (a == b) := by
 by_cases e : a = b
 · subst e; simp
 · have h : ¬ (Sum.inl a : Key) = Sum.inl b := fun q => e (Sum.inl.inj q)
   rw [decide_eq_false h]
   exact (beq_eq_false_iff_ne.mpr e).symm
theorem Ze1 (a b : Str) : decide ((Sum.inr a : Key) = Sum.inr b) = decide (a = b) := by
 by_cases e : a = b
 · subst e; simp
 · have h : ¬ (Sum.inr a : Key) = Sum.inr b := fun q => e (Sum.inr.inj q)
   rw [decide_eq_false h, decide_eq_false e]
theorem Ze2 (a : Int) (b : Str) : decide ((Sum.inl a : Key) = Sum.inr b) = false := decide_eq_false (fun q => nomatch q)
theorem Ze3 (a : Str) (b : Int) : decide ((Sum.inr a : Key) = Sum.inl b) = false := decide_eq_false (fun q => nomatch q)
def ZbT (prog : Program) (w : World) : PySem.KeyKind prog w Key where
 is := Zez
 hash := Zg5 w
 inj := fun v a b ha hb => by
  rcases Xo ha with ⟨i, t, rfl, rfl⟩ | ⟨x, t, rfl, rfl⟩
  · rcases Xo hb with ⟨j, u, rfl, e⟩ | ⟨y, u, rfl, e⟩
    · injection e with e1 _; rw [e1]
    · exact nomatch e
  · rcases Xo hb with ⟨j, u, rfl, e⟩ | ⟨y, u, rfl, e⟩
    · exact nomatch e
    · injection e with e1 _; rw [e1]
 byValue := fun k v h => by
  rcases Xo h with ⟨i, t, rfl, rfl⟩ | ⟨x, t, rfl, rfl⟩ <;> rfl
 pyHash := fun hv h => by
  rcases Xo hv with ⟨i, t, rfl, rfl⟩ | ⟨x, t, rfl, rfl⟩
  · exact wpAny_pyHash_int h
  · exact wpAny_pyHash_str h
 eqBool := fun hu hv h => by
  rcases Xo hu with ⟨i, t, rfl, rfl⟩ | ⟨x, t, rfl, rfl⟩
  · rcases Xo hv with ⟨j, u, rfl, rfl⟩ | ⟨y, u, rfl, rfl⟩
    · rw [Ze0] at h; exact wpAny_eqBool_int h
    · rw [Ze2] at h; exact SeqAt.EqAt.int_str i t y u _ _ _ _ h
  · rcases Xo hv with ⟨j, u, rfl, rfl⟩ | ⟨y, u, rfl, rfl⟩
    · rw [Ze3] at h; exact SeqAt.EqAt.str_int x t j u _ _ _ _ h
    · rw [Ze1] at h; exact wpAny_eqBool_str h
 «strs» := fun k x t v h => by
  rcases Xo h with ⟨i, u, rfl, e⟩ | ⟨y, u, rfl, e⟩
  · exact nomatch e
  · injection e with e1 _
    subst e1
    cases v <;> rfl
end L2
namespace L2
open PySem PySem.Spec PyProof.Rows
inductive V where
 | non | bl (b : Bool) | int (i : Int) | str (x : Str) | byt (b : Array UInt8) | flt (b : UInt64) | ref (a : Addr) | ty (n : String)
 deriving DecidableEq
def RelV : V -> Value -> Prop
 | .non, u => u = Value.none
 | .bl b, u => u = Value.bool b
 | .int i, u => ∃ t, u = Value.int i t
 | .str x, u => ∃ t, u = Value.str x t
 | .byt b, u => ∃ t, u = Value.bytes b t
 | .flt b, u => ∃ t, u = Value.float b t
 | .ref a, u => u = Value.ref a
 | .ty n, u => u = Value.type n
abbrev Vals : List V -> List Value -> Prop := Paired RelV
theorem Vals.length {xs : List V} {us : List Value} (r : Vals xs us) : xs.length = us.length := Paired.length r
theorem Vals.get : ∀ {xs : List V} {us : List Value} {i : Nat} {x : V}, Vals xs us -> xs[i]? = some x -> ∃ u, us[i]? = some u /\ RelV x u
 | _, _, _, _, .nil, e => by simp at e
 | _, _, 0, _, .cons r _, e => by simp at e; subst e; exact ⟨_, rfl, r⟩
 | _, _, i + 1, x, .cons _ t, e => by
  obtain ⟨u, h1, h2⟩ := Vals.get (i := i) (x := x) t (by simpa using e)
  exact ⟨u, by simpa using h1, h2⟩
theorem Vals.set {x : V} {u : Value} (r : RelV x u) : ∀ {xs : List V} {us : List Value} (i : Nat), Vals xs us -> Vals (xs.set i x) (us.set i u)
 | _, _, _, .nil => .nil
 | _, _, 0, .cons _ t => .cons r t
 | _, _, i + 1, .cons q t => .cons q (Vals.set r i t)
theorem Vals.append : ∀ {xs ys : List V} {us ws : List Value}, Vals xs us -> Vals ys ws -> Vals (xs ++ ys) (us ++ ws)
 | _, _, _, _, .nil, s => s
 | _, _, _, _, .cons r t, s => .cons r (Vals.append t s)
theorem Vals.take : ∀ {xs : List V} {us : List Value} (n : Nat), Vals xs us -> Vals (xs.take n) (us.take n)
 | _, _, 0, _ => .nil
 | _, _, _ + 1, .nil => .nil
 | _, _, n + 1, .cons r t => .cons r (Vals.take n t)
theorem Vals.drop : ∀ {xs : List V} {us : List Value} (n : Nat), Vals xs us -> Vals (xs.drop n) (us.drop n)
 | _, _, 0, r => r
 | _, _, _ + 1, .nil => .nil
 | _, _, n + 1, .cons _ t => Vals.drop n t
def RelO : Option V -> Option Value -> Prop
 | some v, some u => RelV v u
 | none, none => True
 | _, _ => False
def KV {κ : Type} : List (κ × V) -> List (κ × Value) -> Prop := Paired fun (p : κ × V) (q : κ × Value) => p.1 = q.1 /\ RelV p.2 q.2
def kV : Key -> V
 | .inl i => .int i
 | .inr x => .str x
inductive HO where
 | lst (xs : List V)
 | tup (xs : List V)
 | dK (kvs : List (Key × V)) | dT (kvs : List (List Key × V))
 | set (S : Int -> Bool) (n : Nat)
 | ins (C dx : Addr) (fs : List (Str × V))
 | own (x : Addr)
 | xd (fs : List (Str × V))
 | met (f x : Addr)
 | rng (lo hi : Int)
 | frz (o : Obj) (u : HO)
 | tbl (ps : Array Value)
 | ext (φ : Heap -> Prop)
abbrev Hp := Addr -> Option HO
def upd (H : Hp) (a : Addr) (o : HO) : Hp := fun b => if b = a then some o else H b
theorem Z7 {H : Hp} {a : Addr} {o : HO} : upd H a o a = some o := by unfold upd; rw [if_pos rfl]
theorem Zx {H : Hp} {a b : Addr} {o : HO} (h : b ≠ a) : upd H a o b = H b := by unfold upd; rw [if_neg h]
theorem Z1 {H : Hp} {a b : Addr} {o : HO} (h : H a = some o) (h' : H b = none) : a ≠ b := by
 intro e; subst e; rw [h] at h'; cases h'
def TupN (h : Heap) (a : Addr) (its : Array Value) : Prop := ∃ o, h.get? a = some o /\ o.cls = .type "tuple" /\ (∃ n, o.data = .seq its n) /\ o.dict = none
theorem TupN.tup {h : Heap} {a : Addr} {its : Array Value} (x : TupN h a its) : IsTup h a its := let ⟨o, e, c, d, _⟩ := x; ⟨o, e, c, d⟩
theorem TupN.new (h : Heap) (its : Array Value) : TupN (h.push { cls := .type "tuple", data := .seq its }) h.objs.size its := ⟨_, Heap.get?_push_size _ rfl, rfl, ⟨_, rfl⟩, rfl⟩
section
variable (P : Program) (w : World)
def ObjOk (H : Hp) (h : Heap) (a : Addr) : HO -> Prop
 | .lst xs => xs.length <= sizeLine /\ ∃ (its : List Value) (n : Nat), Vals xs its /\ h.get? a = some { cls := .type "list", data := .seq its.toArray n }
 | .tup xs => xs.length <= sizeLine /\ ∃ its : List Value, Vals xs its /\ TupN h a its.toArray
 | .dK kvs => kvs.length <= sizeLine /\ (a == sysModules) = false /\ ∃ vs, KV kvs vs /\ h.DictOf (ZbT P w) a vs
 | .dT kvs => kvs.length <= sizeLine /\ (a == sysModules) = false /\ ∃ xs : List (List Key × Addr × Value),
  Paired (fun (p : List Key × V) (q : List Key × Addr × Value) => p.1 = q.1 /\ H q.2.1 = some (.tup (p.1.map kV)) /\ RelV p.2 q.2.2) kvs xs /\
  ∃ o es ep, h.get? a = some o /\ o.ExactDict /\ o.data = .dict es ep /\ es.toList = xs.map (entryOfKey (tupleKind (ZbT P w))) /\ (xs.map (·.1)).Nodup
 | .set S n => h.SetOf (intKind P w) a S n
 | .ins C dx fs => H dx = some (.own a) /\ fs.length <= 1000 /\ dx ≠ a /\ h.get? a = some (PySem.W.instObj C dx) /\
  ∃ mA, h.Ns1 dx mA /\ (∀ f, RelO (fs.lookup f) (mA f)) /\ PySem.Within mA (fs.map (·.1))
 | .own _ => ∃ o, h.get? a = some o
 | .xd fs => ∃ mA, h.Ns1 a mA /\ ∀ f, RelO (fs.lookup f) (mA f)
 | .rng lo hi => ∃ t u v, h.get? a = some { cls := .type "range", data := .fields #[.int lo t, .int hi u, .int 1 v] }
 | .frz o u => h.get? a = some o /\ ObjOk H h a u
 | .tbl ps => h.get? a = some { cls := .none, data := .fields ps }
 | .met f x => h.get? a = some (PySem.W.methodObj (.ref f) (.ref x))
 | .ext φ => φ h /\ (∃ o, h.get? a = some o) /\ ∀ h1 h2 : Heap, φ h1 -> (∀ o, h1.get? a = some o -> h2.get? a = some o) -> φ h2
def HOk (H : Hp) (h : Heap) : Prop := ∀ a o, H a = some o -> ObjOk P w H h a o
end
section
variable {P : Program} {w : World} {H H' : Hp} {h h' : Heap} {a : Addr} {o : HO}
theorem ObjOk.lt (x : ObjOk P w H h a o) : a < h.objs.size := by
 cases o with
 | lst xs => obtain ⟨_, _, _, _, e⟩ := x; exact Heap.lt_size e
 | tup xs => obtain ⟨_, _, _, p⟩ := x; exact p.tup.lt
 | dK kvs => obtain ⟨_, _, _, _, o, _, _, e, _⟩ := x; exact Heap.lt_size e
 | dT kvs => obtain ⟨_, _, _, _, o, _, _, e, _⟩ := x; exact Heap.lt_size e
 | set S n => obtain ⟨o, _, _, _, e, _⟩ := x; exact Heap.lt_size e
 | ins C dx fs => obtain ⟨_, _, _, e, _⟩ := x; exact Heap.lt_size e
 | own y => obtain ⟨_, e⟩ := x; exact Heap.lt_size e
 | xd fs => obtain ⟨_, ⟨_, _, _, e, _⟩, _⟩ := x; exact Heap.lt_size e
 | rng lo hi => obtain ⟨_, _, _, e⟩ := x; exact Heap.lt_size e
 | frz ob u => obtain ⟨e, _⟩ := x; exact Heap.lt_size e
 | tbl ps => exact Heap.lt_size (show h.get? a = some _ from x)
 | met f y => exact Heap.lt_size (show h.get? a = some _ from x)
 | ext φ => obtain ⟨_, ⟨_, e⟩, _⟩ := x; exact Heap.lt_size e
theorem Paired.mapP {α β : Type} {F G : α -> β -> Prop} : ∀ {l₁ : List α} {l₂ : List β}, Paired F l₁ l₂ -> (∀ a b, F a b -> G a b) -> Paired G l₁ l₂
 | _, _, .nil, _ => .nil
 | _, _, .cons r t, f => .cons (f _ _ r) (Paired.mapP t f)
theorem ObjOk.stay (x : ObjOk P w H h a o) (k : ∀ b u, (b = a \/ H b = some (.own a)) -> h.get? b = some u -> h'.get? b = some u)
 (ho : ∀ b, H b = some (.own a) -> H' b = some (.own a)) (ht : ∀ b xs, H b = some (.tup xs) -> H' b = some (.tup xs)) : ObjOk P w H' h' a o := by
 induction o with
 | lst xs => obtain ⟨z, its, n, r, e⟩ := x; exact ⟨z, its, n, r, k _ _ (.inl rfl) e⟩
 | tup xs => obtain ⟨z, its, r, ob, e, c⟩ := x; exact ⟨z, its, r, ob, k _ _ (.inl rfl) e, c⟩
 | dK kvs => obtain ⟨z, y, vs, r, ob, es, ep, e, c⟩ := x; exact ⟨z, y, vs, r, ob, es, ep, k _ _ (.inl rfl) e, c⟩
 | dT kvs =>
  obtain ⟨z, y, xs, r, ob, es, ep, e, c⟩ := x
  exact ⟨z, y, xs, Paired.mapP r fun p q z => ⟨z.1, ht _ _ z.2.1, z.2.2⟩, ob, es, ep, k _ _ (.inl rfl) e, c⟩
 | set S n => obtain ⟨ob, es, ep, t, e, c⟩ := x; exact ⟨ob, es, ep, t, k _ _ (.inl rfl) e, c⟩
 | ins C dx fs =>
  obtain ⟨d, z, ne, e, mA, ⟨od, es, ep, e2, c⟩, r⟩ := x
  exact ⟨ho _ d, z, ne, k _ _ (.inl rfl) e, mA, ⟨od, es, ep, k _ _ (.inr d) e2, c⟩, r⟩
 | own y => obtain ⟨ob, e⟩ := x; exact ⟨ob, k _ _ (.inl rfl) e⟩
 | xd fs => obtain ⟨mA, ⟨od, es, ep, e, c⟩, r⟩ := x; exact ⟨mA, ⟨od, es, ep, k _ _ (.inl rfl) e, c⟩, r⟩
 | rng lo hi => obtain ⟨t, u, v, e⟩ := x; exact ⟨t, u, v, k _ _ (.inl rfl) e⟩
 | frz ob u ih => obtain ⟨e, q⟩ := x; exact ⟨k _ _ (.inl rfl) e, ih q⟩
 | tbl ps =>
  have e : h.get? a = some { cls := .none, data := .fields ps } := x
  show h'.get? a = some { cls := .none, data := .fields ps }
  exact k a _ (.inl rfl) e
 | met f y =>
  have e : h.get? a = some (PySem.W.methodObj (.ref f) (.ref y)) := x
  show h'.get? a = some (PySem.W.methodObj (.ref f) (.ref y))
  exact k a _ (.inl rfl) e
 | ext φ => obtain ⟨p, ⟨o, e⟩, st⟩ := x; exact ⟨st _ _ p fun o q => k _ _ (.inl rfl) q, ⟨o, k _ _ (.inl rfl) e⟩, st⟩
theorem HOk.lt (x : HOk P w H h) (e : H a = some o) : a < h.objs.size := (x a o e).lt
theorem HOk.fresh (x : HOk P w H h) (e : h.objs.size <= a) : H a = none := by
 cases q : H a with
 | none => rfl
 | some u => exact absurd (Nat.lt_of_lt_of_le (x.lt q) e) (Nat.lt_irrefl _)
theorem HOk.kept (x : HOk P w H h) (k : ∀ b u, h.get? b = some u -> h'.get? b = some u) : HOk P w H h' := fun a o e =>
 (x a o e).stay (fun b u _ q => k b u q) (fun _ q => q) fun _ _ q => q
theorem HOk.laid (x : HOk P w H h) (k : ∀ b u, h.get? b = some u -> h'.get? b = some u) (hp : h.objs.size <= a) (new : ObjOk P w (upd H a o) h' a o) : HOk P w (upd H a o) h' := fun b u e => by
 have hn := x.fresh hp
 by_cases hb : b = a
 · subst hb; rw [Z7] at e; cases e; exact new
 · rw [Zx hb] at e
   exact (x b u e).stay (fun c v _ q => k c v q) (fun c q => by rw [Zx (Z1 q hn)]; exact q) fun c xs q => by rw [Zx (Z1 q hn)]; exact q
end
def Rd (H : Hp) (a : Addr) (u : HO) : Prop := H a = some u \/ ∃ o, H a = some (.frz o u)
theorem Rd.ok {P : Program} {w : World} {H : Hp} {h : Heap} {a : Addr} {u : HO} (r : Rd H a u) (x : HOk P w H h) : ObjOk P w H h a u := by
 rcases r with r | ⟨o, r⟩
 · exact x a u r
 · obtain ⟨_, q⟩ := x a _ r
   exact q
def Mut : Option HO -> Prop
 | some (.lst _) => True
 | some (.dK _) => True
 | some (.dT _) => True
 | some (.set _ _) => True
 | some (.ins _ _ _) => True
 | some (.ext _) => True
 | _ => False
section
variable {P : Program} {w : World} {H : Hp} {h h' : Heap} {x e : Addr} {o' : HO}
theorem HOk.write (ok : HOk P w H h) (mu : Mut (H x)) (he : e = x \/ H e = some (.own x)) (k : ∀ b u, b ≠ e -> h.get? b = some u -> h'.get? b = some u) (heo : ∃ u, h'.get? e = some u)
 (new : ObjOk P w (upd H x o') h' x o') : HOk P w (upd H x o') h' := fun b u q => by
 have nown : ∀ c y, H c = some (.own y) -> c ≠ x := fun c y r z => by subst z; rw [r] at mu; exact mu
 have ntup : ∀ c xs, H c = some (.tup xs) -> c ≠ x := fun c xs r z => by subst z; rw [r] at mu; exact mu
 by_cases hb : b = x
 · subst hb; rw [Z7] at q; cases q; exact new
 · rw [Zx hb] at q
   by_cases hbe : b = e
   · have q' : H b = some (.own x) := by
      rcases he with z | z
      · exact absurd (hbe.trans z) hb
      · rw [hbe]; exact z
     rw [q] at q'; cases q'
     obtain ⟨v, hv⟩ := heo
     exact ⟨v, by rw [hbe]; exact hv⟩
   · refine (ok b u q).stay (fun c v hc r => k c v ?_ r) (fun c r => by rw [Zx (nown c b r)]; exact r) fun c xs r => by rw [Zx (ntup c xs r)]; exact r
     rcases hc with rfl | hc
     · exact hbe
     · rintro rfl
       rcases he with z | z
       · exact nown c b hc z
       · rw [hc] at z; cases z; exact hb rfl
end
structure Un (fs ex : List Addr) (H H' : Hp) (h h' : Heap) : Prop where
 keep : ∀ b o, h.get? b = some o -> H b = none -> b ∉ fs -> b ∉ ex -> h'.get? b = some o
 slot : ∀ b o, h.get? b = some o -> H b = none -> b ∈ fs -> b ∉ ex -> ∃ sl, h'.get? b = some { o with slots := sl }
 free : ∀ b o, h.get? b = some o -> H b = none -> b ∉ ex -> H' b = none
 there : ∀ b o, h.get? b = some o -> b ∉ ex -> ∃ o', h'.get? b = some o'
 tups : ∀ b xs, H b = some (.tup xs) -> H' b = some (.tup xs)
 frzs : ∀ b o u, H b = some (.frz o u) -> H' b = some (.frz o u)
 tbls : ∀ b ps, H b = some (.tbl ps) -> ∃ more, H' b = some (.tbl (ps ++ more))
section
variable {fs fs' ex ex' : List Addr} {H H1 H2 : Hp} {h h1 h2 h' : Heap} {a x e : Addr} {o : HO}
theorem Un.any (u : Un fs ex H H1 h h1) {b : Addr} {ob : Obj} (q : h.get? b = some ob) (n : H b = none) (hx : b ∉ ex) : ∃ sl, h1.get? b = some { ob with slots := sl } := by
 by_cases hb : b ∈ fs
 · exact u.slot b ob q n hb hx
 · exact ⟨ob.slots, u.keep b ob q n hb hx⟩
theorem Un.trans (a : Un fs ex H H1 h h1) (b : Un fs ex H1 H2 h1 h2) : Un fs ex H H2 h h2 where
 keep := fun c ob q n hc hx => b.keep c ob (a.keep c ob q n hc hx) (a.free c ob q n hx) hc hx
 slot := fun c ob q n hc hx => by
  obtain ⟨sl, e1⟩ := a.slot c ob q n hc hx
  obtain ⟨sl', e2⟩ := b.slot c _ e1 (a.free c ob q n hx) hc hx
  exact ⟨sl', e2⟩
 free := fun c ob q n hx => by
  obtain ⟨o', e1⟩ := a.there c ob q hx
  exact b.free c o' e1 (a.free c ob q n hx) hx
 there := fun c ob q hx => by
  obtain ⟨o', e1⟩ := a.there c ob q hx
  exact b.there c o' e1 hx
 tups := fun c xs q => b.tups c xs (a.tups c xs q)
 frzs := fun c ob xs q => b.frzs c ob xs (a.frzs c ob xs q)
 tbls := fun c ps q => by
  obtain ⟨m1, e1⟩ := a.tbls c ps q
  obtain ⟨m2, e2⟩ := b.tbls c _ e1
  exact ⟨m1 ++ m2, by rw [e2, Array.append_assoc]⟩
theorem Un.kept (k : ∀ b u, h.get? b = some u -> h'.get? b = some u) : Un fs ex H H h h' :=
 ⟨fun b ob q _ _ _ => k b ob q, fun b ob q _ _ _ => ⟨ob.slots, k b ob q⟩, fun _ _ _ n _ => n, fun b ob q _ => ⟨ob, k b ob q⟩, fun _ _ q => q, fun _ _ _ q => q, fun _ ps q => ⟨#[], by rw [q]; simp⟩⟩
theorem Un.refl : Un fs ex H H h h := Un.kept fun _ _ q => q
theorem Un.laid (k : ∀ b u, h.get? b = some u -> h'.get? b = some u) (hp : h.objs.size <= a) (hn : H a = none) : Un fs ex H (upd H a o) h h' where
 keep := fun b u q _ _ _ => k b u q
 slot := fun b u q _ _ _ => ⟨u.slots, k b u q⟩
 free := fun b u q n _ => by rw [Zx (Nat.ne_of_lt (Nat.lt_of_lt_of_le (Heap.lt_size q) hp))]; exact n
 there := fun b u q _ => ⟨u, k b u q⟩
 tups := fun b xs q => by rw [Zx (Z1 q hn)]; exact q
 frzs := fun b u xs q => by rw [Zx (Z1 q hn)]; exact q
 tbls := fun b ps q => ⟨#[], by rw [Zx (Z1 q hn), q]; simp⟩
theorem Un.write (mu : Mut (H x)) (he : e = x \/ H e = some (.own x)) (k : ∀ b u, b ≠ e -> h.get? b = some u -> h'.get? b = some u) (heo : ∃ u, h'.get? e = some u) : Un fs ex H (upd H x o) h h' := by
 have hx : ∀ b, H b = none -> b ≠ x := fun b n z => by subst z; rw [n] at mu; exact mu
 have hb : ∀ b, H b = none -> b ≠ e := fun b n z => by
  subst z
  rcases he with r | r
  · exact hx b n r
  · rw [n] at r; cases r
 have hm : ∀ b u, H b = some u -> ¬ Mut (some u) -> b ≠ x := fun b u q nm z => by subst z; rw [q] at mu; exact nm mu
 refine ⟨fun b u q n _ _ => k b u (hb b n) q, fun b u q n _ _ => ⟨u.slots, k b u (hb b n) q⟩, fun b u q n _ => by rw [Zx (hx b n)]; exact n, fun b u q _ => ?_,
  fun b xs q => by rw [Zx (hm b _ q fun z => z)]; exact q, fun b u xs q => by rw [Zx (hm b _ q fun z => z)]; exact q, fun b ps q => ⟨#[], by rw [Zx (hm b _ q fun z => z), q]; simp⟩⟩
 by_cases hbe : b = e
 · subst hbe; exact heo
 · exact ⟨u, k b u hbe q⟩
end
def trk (h : Heap) (H : Hp) : List Addr := (List.range h.objs.size).filter fun a => (H a).isSome
def Xp (h : Heap) (H : Hp) : Heap := PySem.W.hideAll h (trk h H)
theorem Zcq (h : Heap) (H : Hp) : (Xp h H).objs.size = h.objs.size := PySem.W.hideAll_size _ _
theorem ZcV {h : Heap} {H : Hp} {b : Addr} {o : Obj} (e : h.get? b = some o) (n : H b = none) : (Xp h H).get? b = some o :=
 PySem.W.hideAll_get _ e fun hm => by
  have q : (H b).isSome = true := (List.mem_filter.mp hm).2
  rw [n] at q; simp at q
theorem Zd0 {h : Heap} {H : Hp} {b : Addr} {o : Obj} (e : (Xp h H).get? b = some o) : h.get? b = some o /\ H b = none := by
 have e' : h.get? b = some o := PySem.W.of_hideAll (trk h H) e
 refine ⟨e', ?_⟩
 cases q : H b with
 | none => rfl
 | some x =>
  have hm : b ∈ trk h H := List.mem_filter.mpr ⟨List.mem_range.mpr (Heap.lt_size e'), by simp [q]⟩
  have z : (Xp h H).get? b = none := PySem.W.hideAll_none (trk h H) hm
  rw [z] at e; cases e
end L2
namespace L2
open PySem PySem.Spec PyProof.Rows
structure Mod (K : PySem.W.Frag) (mg : Str -> Option Value) (base : Heap) : Prop where
 kin : K.In base
 glob : base.Ns mainGlobals mg
 blt : ∃ mb, base.Ns builtinsNs mb /\ ∀ x : Str, x ≠ "__name__" -> mb x = bootBuiltins x
 nolimit : base.NoLimit
structure Cx where
 prog : Program
 w : World
 K : PySem.W.Frag
 mg : Str -> Option Value
 base : Heap
 A : Around
 N : List Str
 s₀ : Shared
 H₀ : Hp
 env : Env
 outer : List Env
 stack : List Env
 ex : List Addr
 fn : Str -> Bool
 calm : Bool
 pn : List (Addr × Obj)
 xe : Value -> Shared -> Prop
def frs (l : List Env) : List Addr := l.filterMap (·.frame)
abbrev Cx.fs (X : Cx) : List Addr := frs X.outer
def Vis (sc : Scope) (x : Str) : Prop := sc.names.lookup x = some .local \/ sc.names.lookup x = some .cell \/ sc.names.lookup x = some .free
def Loc (sc : Scope) (x : Str) : Prop := sc.names.lookup x = some .local \/ sc.names.lookup x = some .cell
def ZgL (env : Env) (h : Heap) (m : Str -> Option Value) (x : Str) (u : Value) : Prop :=
 (env.kindOf x = some .local /\ m x = some u) \/ ((env.kindOf x = some .cell \/ env.kindOf x = some .free) /\ ∃ c, env.cells.lookup x = some c /\ h.IsCell c (some u))
structure Cx.Ok (X : Cx) : Prop where
 mod : Mod X.K X.mg X.base
 kind : X.env.scope.kind = .function
 glob : X.env.globals = mainGlobals
 blt : X.env.builtins = builtinsNs
 above : X.s₀.heap.objs.size <= X.env.locals
 inj : ∀ x y c, X.env.cells.lookup x = some c -> X.env.cells.lookup y = some c -> x = y
 has : ∀ x, (X.env.kindOf x = some .cell \/ X.env.kindOf x = some .free) -> ∃ c, X.env.cells.lookup x = some c
 cab : ∀ x c, X.fn x = true -> X.env.cells.lookup x = some c -> X.s₀.heap.objs.size <= c
 hd : X.calm = true -> X.A.handled = none
 frames : X.A.frames = some X.stack
 stk : X.stack = X.outer \/ (X.stack = X.env :: X.outer /\ X.env.frame = some X.env.locals)
 exf : ∀ b ∈ X.ex, b ≠ X.env.locals /\ ∀ x c, X.env.cells.lookup x = some c -> c ≠ b
 bs : ∀ b o, X.base.get? b = some o -> X.s₀.heap.get? b = some o /\ X.H₀ b = none
 bsz : X.base.objs.size <= X.s₀.heap.objs.size
 noex : ∀ b o, X.base.get? b = some o -> b ∉ X.ex
 exfs : ∀ b ∈ X.ex, b ∉ X.fs
 funs : X.s₀.heap.FunFrames X.base X.outer
 frf : ∀ b ∈ X.fs, X.H₀ b = none
structure Inv (X : Cx) (pins : List (Addr × Obj)) (σ : List (Option V)) (H : Hp) (s : Shared) : Prop where
 ok : X.Ok
 os : s.os = X.s₀.os
 bare : AllBare s.gens
 base : Un X.fs X.ex X.H₀ H X.s₀.heap s.heap
 loc : ∃ m, s.heap.Ns X.env.locals m /\ ∀ (i : Nat) (x : Str) (v : V), X.N[i]? = some x -> σ[i]? = some (some v) -> Vis X.env.scope x -> ∃ u, RelV v u /\ ZgL X.env s.heap m x u
 cell : ∀ x c, X.env.cells.lookup x = some c -> ∃ v, s.heap.IsCell c v
 free : H X.env.locals = none
 freeC : ∀ x c, X.env.cells.lookup x = some c -> H c = none
 pin : ∀ p ∈ X.pn ++ pins, s.heap.get? p.1 = some p.2 /\ H p.1 = none /\ p.1 ≠ X.env.locals /\ p.1 ∉ X.fs /\ ∀ v, p.2.data ≠ .cell v
 hok : HOk X.prog X.w H s.heap
 len : σ.length = X.N.length
section
variable {X : Cx} {pins : List (Addr × Obj)} {σ : List (Option V)} {H H' : Hp} {s : Shared} {h' : Heap}
theorem Cx.Ok.nofr (ok : X.Ok) {b : Addr} {o : Obj} (e : X.base.get? b = some o) : b ∉ X.fs := fun hb => by
 have := (ok.funs.mem hb).1
 rw [e] at this; cases this
theorem Inv.bs (I : Inv X pins σ H s) : ∀ b o, X.base.get? b = some o -> s.heap.get? b = some o /\ H b = none := fun b o e =>
 ⟨I.base.keep b o (I.ok.bs b o e).1 (I.ok.bs b o e).2 (I.ok.nofr e) (I.ok.noex b o e), I.base.free b o (I.ok.bs b o e).1 (I.ok.bs b o e).2 (I.ok.noex b o e)⟩
theorem Inv.bk (I : Inv X pins σ H s) : ∀ b o, X.base.get? b = some o -> s.heap.get? b = some o := fun b o e => (I.bs b o e).1
theorem Inv.mod (I : Inv X pins σ H s) : Mod X.K X.mg X.base := I.ok.mod
theorem Inv.kIn (I : Inv X pins σ H s) : X.K.In s.heap := I.ok.mod.kin.keeps I.bk
theorem Inv.nolimit (I : Inv X pins σ H s) : s.heap.NoLimit := I.ok.mod.nolimit.keeps I.bk
theorem Inv.fr (I : Inv X pins σ H s) : ∃ m, Fr X.base X.env.locals s.heap m :=
 let ⟨m, hn, _⟩ := I.loc
 ⟨m, hn, I.bk, Nat.le_trans I.ok.bsz I.ok.above⟩
theorem Inv.lt (I : Inv X pins σ H s) : X.env.locals < s.heap.objs.size := let ⟨_, hn, _⟩ := I.loc; hn.lt
theorem Inv.sz (I : Inv X pins σ H s) : X.s₀.heap.objs.size <= s.heap.objs.size := Nat.le_trans I.ok.above (Nat.le_of_lt I.lt)
theorem Inv.nofs (I : Inv X pins σ H s) {a : Addr} (h : s.heap.objs.size <= a) : a ∉ X.fs := fun hb => by
 obtain ⟨_, o, ho, _⟩ := I.ok.funs.mem hb
 exact absurd (Nat.lt_of_lt_of_le (Heap.lt_size ho) (Nat.le_trans I.sz h)) (Nat.lt_irrefl _)
theorem Inv.cne (I : Inv X pins σ H s) : ∀ x c, X.env.cells.lookup x = some c -> c ≠ X.env.locals := fun x c e z => by
 obtain ⟨v, o, ho, hd⟩ := I.cell x c e
 obtain ⟨m, ⟨o', es, ep, ho', hd', _⟩, _⟩ := I.loc
 rw [z, ho'] at ho; cases ho; rw [hd'] at hd; cases hd
theorem Inv.funs (I : Inv X pins σ H s) : s.heap.FunFrames X.base X.outer := by
 have all : ∀ (l : List Env), (∀ b ∈ frs l, b ∈ X.fs) -> X.s₀.heap.FunFrames X.base l -> s.heap.FunFrames X.base l := by
  intro l
  induction l with
  | nil => intro _ _; trivial
  | cons env r ih =>
   intro hs hl
   obtain ⟨hk, ⟨L, o, hf, hn, ho, hd⟩, hr⟩ := hl
   have hL : L ∈ X.fs := hs L (by unfold frs; rw [List.filterMap_cons, hf]; exact List.mem_cons_self)
   obtain ⟨sl, e⟩ := I.base.slot L o ho (I.ok.frf L hL) hL fun z => I.ok.exfs L z hL
   exact ⟨hk, ⟨L, _, hf, hn, e, hd⟩, ih (fun b hb => hs b (by unfold frs; rw [List.filterMap_cons, hf]; exact List.mem_cons_of_mem _ hb)) hr⟩
 exact all X.outer (fun _ hb => hb) I.ok.funs
theorem Inv.stack (I : Inv X pins σ H s) : s.heap.FunFrames X.base X.stack := by
 rcases I.ok.stk with e | ⟨e, hf⟩
 · rw [e]; exact I.funs
 · rw [e]
   obtain ⟨m, hn, _⟩ := I.loc
   refine .cons (by rw [I.ok.kind]; decide) hf hn ?_ I.funs
   exact Heap.get?_none_of_le (Nat.le_trans I.ok.bsz I.ok.above)
theorem Inv.stkSub (I : Inv X pins σ H s) : ∀ b ∈ frs X.stack, b ∈ X.env.locals :: X.fs := fun b hb => by
 rcases I.ok.stk with e | ⟨e, hf⟩
 · rw [e] at hb; exact List.mem_cons_of_mem _ hb
 · rw [e] at hb
   unfold frs at hb
   rw [List.filterMap_cons, hf] at hb
   exact hb
theorem Inv.stkFree (I : Inv X pins σ H s) : ∀ b ∈ frs X.stack, H b = none := fun b hb => by
 rcases List.mem_cons.mp (I.stkSub b hb) with e | hb
 · rw [e]; exact I.free
 · obtain ⟨_, o, ho, _⟩ := I.ok.funs.mem hb
   exact I.base.free b o ho (I.ok.frf b hb) fun z => I.ok.exfs b z hb
theorem Inv.step {g' : Array GenState} {t' : Nat} {d' : Drawn} {ch : List Addr} (I : Inv X pins σ H s)
 (hch : ∀ b ∈ ch, (b ∈ X.ex \/ X.s₀.heap.objs.size <= b) /\ b ≠ X.env.locals /\ (∀ x c, X.env.cells.lookup x = some c -> c ≠ b) /\ ∀ p ∈ X.pn ++ pins, p.1 ≠ b)
 (keep : ∀ b o, b ≠ X.env.locals -> b ∉ X.fs -> b ∉ ch -> s.heap.get? b = some o -> H b = none -> h'.get? b = some o)
 (slot : ∀ b o, b ≠ X.env.locals -> b ∈ X.fs -> b ∉ ch -> s.heap.get? b = some o -> H b = none -> ∃ sl, h'.get? b = some { o with slots := sl }) (free : ∀ b o, b ∉ ch -> s.heap.get? b = some o -> H b = none -> H' b = none)
 (there : ∀ b o, b ∉ ch -> s.heap.get? b = some o -> ∃ o', h'.get? b = some o')
 (tups : ∀ b xs, H b = some (.tup xs) -> H' b = some (.tup xs)) (frzs : ∀ b o u, H b = some (.frz o u) -> H' b = some (.frz o u)) (tbls : ∀ b ps, H b = some (.tbl ps) -> ∃ more, H' b = some (.tbl (ps ++ more)))
 (ns : ∀ m, s.heap.Ns X.env.locals m -> h'.Ns X.env.locals m) (hok : HOk X.prog X.w H' h') (hg : AllBare g') :
 Inv X pins σ H' { s with heap := h', gens := g', drawn := d', toks := t' } := by
 have neL : ∀ b o, X.s₀.heap.get? b = some o -> b ≠ X.env.locals := fun b o e => Nat.ne_of_lt (Nat.lt_of_lt_of_le (Heap.lt_size e) I.ok.above)
 have neC : ∀ b o, X.s₀.heap.get? b = some o -> b ∉ X.ex -> b ∉ ch := fun b o e hx hb => by
  rcases (hch b hb).1 with z | z
  · exact hx z
  · exact absurd (Nat.lt_of_lt_of_le (Heap.lt_size e) z) (Nat.lt_irrefl _)
 have cellK : ∀ x c, X.env.cells.lookup x = some c -> ∀ v, s.heap.IsCell c v -> h'.IsCell c v := fun x c e v ⟨o, ho, hd⟩ => by
  have nch : c ∉ ch := fun z => (hch c z).2.2.1 x c e rfl
  by_cases hc : c ∈ X.fs
  · obtain ⟨sl, q⟩ := slot c o (I.cne x c e) hc nch ho (I.freeC x c e)
    exact ⟨_, q, hd⟩
  · exact ⟨o, keep c o (I.cne x c e) hc nch ho (I.freeC x c e), hd⟩
 refine ⟨I.ok, I.os, hg, ⟨fun b o e n hb hx => ?_, fun b o e n hb hx => ?_, fun b o e n hx => ?_, fun b o e hx => ?_, fun b xs e => tups b xs (I.base.tups b xs e), fun b o xs e => frzs b o xs (I.base.frzs b o xs e), fun b ps e => ?_⟩, ?_, fun x c e => ?_, ?_, fun x c e => ?_, fun p hp => ?_, hok, I.len⟩
 · exact keep b o (neL b o e) hb (neC b o e hx) (I.base.keep b o e n hb hx) (I.base.free b o e n hx)
 · obtain ⟨sl, e1⟩ := I.base.slot b o e n hb hx
   obtain ⟨sl', e2⟩ := slot b _ (neL b o e) hb (neC b o e hx) e1 (I.base.free b o e n hx)
   exact ⟨sl', e2⟩
 · obtain ⟨o', e1⟩ := I.base.there b o e hx
   exact free b o' (neC b o e hx) e1 (I.base.free b o e n hx)
 · obtain ⟨o', e1⟩ := I.base.there b o e hx
   exact there b o' (neC b o e hx) e1
 · obtain ⟨m1, e1⟩ := I.base.tbls b ps e
   obtain ⟨m2, e2⟩ := tbls b _ e1
   exact ⟨m1 ++ m2, by rw [e2, Array.append_assoc]⟩
 · obtain ⟨m, hn, hl⟩ := I.loc
   refine ⟨m, ns m hn, fun i x v e1 e2 e3 => ?_⟩
   obtain ⟨u, r, l⟩ := hl i x v e1 e2 e3
   refine ⟨u, r, ?_⟩
   rcases l with l | ⟨k, c, e, z⟩
   · exact .inl l
   · exact .inr ⟨k, c, e, cellK x c e _ z⟩
 · obtain ⟨v, z⟩ := I.cell x c e
   exact ⟨v, cellK x c e v z⟩
 · obtain ⟨m, ⟨o, _, _, ho, _⟩, _⟩ := I.loc
   exact free _ o (fun z => (hch _ z).2.1 rfl) ho I.free
 · obtain ⟨v, o, ho, hd⟩ := I.cell x c e
   exact free c o (fun z => (hch c z).2.2.1 x c e rfl) ho (I.freeC x c e)
 · obtain ⟨e, n, ne, nf, d⟩ := I.pin p hp
   have nch : p.1 ∉ ch := fun z => (hch p.1 z).2.2.2 p hp rfl
   exact ⟨keep p.1 p.2 ne nf nch e n, free p.1 p.2 nch e n, ne, nf, d⟩
theorem Inv.un {t' : Nat} (I : Inv X pins σ H s) (u : Un X.fs [] H H' s.heap h') (hok : HOk X.prog X.w H' h') : Inv X pins σ H' { s with heap := h', toks := t' } := by
 obtain ⟨m, ⟨o, es, ep, ho, r⟩, _⟩ := id I.loc
 obtain ⟨sl, hL⟩ := u.any ho I.free (by simp)
 exact I.step (g' := s.gens) (d' := s.drawn) (ch := []) (fun _ z => nomatch z) (fun b o _ hb _ e n => u.keep b o e n hb (by simp)) (fun b o _ hb _ e n => u.slot b o e n hb (by simp)) (fun b o _ e n => u.free b o e n (by simp)) (fun b o _ e => u.there b o e (by simp)) u.tups u.frzs u.tbls (fun m' hm => by
  obtain ⟨o', es', ep', ho', r'⟩ := hm
  rw [ho] at ho'; cases ho'
  exact ⟨_, es', ep', hL, r'⟩) hok I.bare
theorem Inv.call {g' : Array GenState} {t' : Nat} {d' : Drawn} {ch : List Addr} (I : Inv X pins σ H s) (u : Un (frs X.stack) ch H H' s.heap h') (hok : HOk X.prog X.w H' h') (hg : AllBare g')
 (hch : ∀ b ∈ ch, (b ∈ X.ex \/ X.s₀.heap.objs.size <= b) /\ b ≠ X.env.locals /\ (∀ x c, X.env.cells.lookup x = some c -> c ≠ b) /\ ∀ p ∈ X.pn ++ pins, p.1 ≠ b) :
 Inv X pins σ H' { s with heap := h', gens := g', drawn := d', toks := t' } := by
 obtain ⟨m, ⟨o, es, ep, ho, r⟩, _⟩ := id I.loc
 obtain ⟨sl, hL⟩ := u.any ho I.free fun z => (hch _ z).2.1 rfl
 exact I.step (ch := ch) hch (fun b o hL hb hc e n => u.keep b o e n (fun z => (List.mem_cons.mp (I.stkSub b z)).elim hL hb) hc) (fun b o _ _ hc e n => u.any e n hc) (fun b o hc e n => u.free b o e n hc) (fun b o hc e => u.there b o e hc) u.tups u.frzs u.tbls (fun m' hm => by
  obtain ⟨o', es', ep', ho', r'⟩ := hm
  rw [ho] at ho'; cases ho'
  exact ⟨_, es', ep', hL, r'⟩) hok hg
theorem Inv.turned {t' : Nat} {it : Addr} (I : Inv X pins σ H s) (k : ∀ b o, b ≠ it -> s.heap.get? b = some o -> h'.get? b = some o) (hn : H it = none) (hL : it ≠ X.env.locals)
 (h1 : it ∈ X.ex \/ X.s₀.heap.objs.size <= it) (h2 : ∀ x c, X.env.cells.lookup x = some c -> c ≠ it) (h3 : ∀ p ∈ X.pn ++ pins, p.1 ≠ it) : Inv X pins σ H { s with heap := h', toks := t' } := by
 have nit : ∀ b u, H b = some u -> b ≠ it := fun b u e z => by rw [z, hn] at e; cases e
 refine I.step (g' := s.gens) (d' := s.drawn) (ch := [it]) (fun b hb => ?_) (fun b o _ _ hc e _ => k b o (fun z => hc (by simp [z])) e) (fun b o _ _ hc e _ => ⟨o.slots, k b o (fun z => hc (by simp [z])) e⟩) (fun _ _ _ _ n => n)
  (fun b o hc e => ⟨o, k b o (fun z => hc (by simp [z])) e⟩) (fun _ _ e => e) (fun _ _ _ e => e) (fun b ps e => ⟨#[], by rw [e]; simp⟩) (fun m hm => ?_) (fun b u e => ?_) I.bare
 · have e : b = it := by simpa using hb
   subst e
   exact ⟨h1, hL, h2, h3⟩
 · obtain ⟨o, es, ep, ho, r⟩ := hm
   exact ⟨o, es, ep, k _ o (Ne.symm hL) ho, r⟩
 · refine (I.hok b u e).stay (fun c v hc q => k c v ?_ q) (fun _ q => q) fun _ _ q => q
   rcases hc with z | z
   · rw [z]; exact nit b u e
   · exact nit c _ z
theorem Inv.tok (I : Inv X pins σ H s) (t : Nat) : Inv X pins σ H { s with toks := t } := I.un (h' := s.heap) (t' := t) Un.refl I.hok
theorem Inv.kept {t' : Nat} (I : Inv X pins σ H s) (k : ∀ b u, s.heap.get? b = some u -> h'.get? b = some u) : Inv X pins σ H { s with heap := h', toks := t' } := I.un (Un.kept k) (I.hok.kept k)
theorem Inv.laid {a : Addr} {o : HO} {t' : Nat} (I : Inv X pins σ H s) (k : ∀ b u, s.heap.get? b = some u -> h'.get? b = some u) (hp : s.heap.objs.size <= a) (new : ObjOk X.prog X.w (upd H a o) h' a o) :
 Inv X pins σ (upd H a o) { s with heap := h', toks := t' } := I.un (Un.laid k hp (I.hok.fresh hp)) (I.hok.laid k hp new)
theorem Inv.write {x e : Addr} {o : HO} {t' : Nat} (I : Inv X pins σ H s) (mu : Mut (H x)) (he : e = x \/ H e = some (.own x)) (k : ∀ b u, b ≠ e -> s.heap.get? b = some u -> h'.get? b = some u) (heo : ∃ u, h'.get? e = some u)
 (new : ObjOk X.prog X.w (upd H x o) h' x o) : Inv X pins σ (upd H x o) { s with heap := h', toks := t' } := I.un (Un.write mu he k heo) (I.hok.write mu he k heo new)
theorem Inv.pins_of {pins' : List (Addr × Obj)} (I : Inv X pins σ H s) (h : ∀ p ∈ pins', s.heap.get? p.1 = some p.2 /\ H p.1 = none /\ p.1 ≠ X.env.locals /\ p.1 ∉ X.fs /\ ∀ v, p.2.data ≠ .cell v) : Inv X pins' σ H s :=
 ⟨I.ok, I.os, I.bare, I.base, I.loc, I.cell, I.free, I.freeC, fun p hp => (List.mem_append.mp hp).elim (fun z => I.pin p (List.mem_append_left _ z)) (h p), I.hok, I.len⟩
theorem Zbb {N : List Str} (hN : N.Nodup) {i j : Nat} {x : Str} (a : N[i]? = some x) (b : N[j]? = some x) : i = j := by
 obtain ⟨h1, e1⟩ := List.getElem?_eq_some_iff.mp a
 obtain ⟨h2, e2⟩ := List.getElem?_eq_some_iff.mp b
 exact (List.getElem_inj hN).mp (e1.trans e2.symm)
theorem ZaA {M : Model} {A : Around} {E : Value -> Shared -> Prop} {i : Nat} {x : Str} {v : V} {u : Value} {Q : Unit -> Shared -> Prop} (I : Inv X pins σ H s) (hN : X.N.Nodup) (hi : X.N[i]? = some x) (hx : Loc X.env.scope x) (r : RelV v u)
 (h : ∀ s', Inv X pins (σ.set i (some v)) H s' -> (∃ a, Heap.SameBut a s.heap s'.heap /\ (a = X.env.locals \/ X.env.cells.lookup x = some a)) -> Q () s') (hf : X.fn x = true \/ X.env.scope.names.lookup x = some .local := by first | exact .inl rfl | exact .inr rfl | assumption) : wpAny M A (storeName X.env x u) Q E s := by
 obtain ⟨m, hn, hl⟩ := id I.loc
 have hcls : (X.env.scope.kind == .class || (X.env.scope.kind == .module && X.env.locals != X.env.globals)) = false := by rw [I.ok.kind]; rfl
 have hiσ : i < σ.length := by rw [I.len]; exact (List.getElem?_eq_some_iff.mp hi).1
 have cne := I.cne
 have tracked : ∀ {a : Addr} {h' : Heap}, (∃ o, s.heap.get? a = some o /\ H a = none) -> Heap.SameBut a s.heap h' -> HOk X.prog X.w H h' := fun {a h'} ha hs b ob e => by
  obtain ⟨_, _, hfree⟩ := ha
  refine (I.hok b ob e).stay (fun c w' hc q => (hs.2 c ?_).trans q) (fun _ q => q) fun _ _ q => q
  rintro rfl
  rcases hc with rfl | hc
  · rw [hfree] at e; cases e
  · rw [hfree] at hc; cases hc
 rcases hx with hk | hk
 · refine wpAny_storeName_local hk hn (fun h' hn' hs => ?_) hcls
   obtain ⟨oL, _, _, hoL, _⟩ := id hn
   refine h _ ⟨I.ok, I.os, I.bare, ⟨fun b o e n hb hx => ?_, fun b o e n hb hx => ?_, I.base.free, fun b o e hx => ?_, I.base.tups, I.base.frzs, I.base.tbls⟩, ⟨_, hn', fun j y v' e1 e2 e3 => ?_⟩, fun y c e => ?_, I.free, I.freeC, fun p hp => ?_, tracked ⟨oL, hoL, I.free⟩ hs, by simpa using I.len⟩ ⟨_, hs, .inl rfl⟩
   · exact (hs.2 b (Nat.ne_of_lt (Nat.lt_of_lt_of_le (Heap.lt_size e) I.ok.above))).trans (I.base.keep b o e n hb hx)
   · obtain ⟨sl, e1⟩ := I.base.slot b o e n hb hx
     exact ⟨sl, (hs.2 b (Nat.ne_of_lt (Nat.lt_of_lt_of_le (Heap.lt_size e) I.ok.above))).trans e1⟩
   · obtain ⟨o', e1⟩ := I.base.there b o e hx
     exact ⟨o', (hs.2 b (Nat.ne_of_lt (Nat.lt_of_lt_of_le (Heap.lt_size e) I.ok.above))).trans e1⟩
   · by_cases hj : j = i
     · subst hj
       rw [hi] at e1; cases e1
       rw [List.getElem?_set_self hiσ] at e2
       cases e2
       exact ⟨u, r, .inl ⟨hk, by simp⟩⟩
     · rw [List.getElem?_set_ne (Ne.symm hj)] at e2
       obtain ⟨u', r', q⟩ := hl j y v' e1 e2 e3
       refine ⟨u', r', ?_⟩
       rcases q with ⟨k, e⟩ | ⟨k, c, e, z⟩
       · refine .inl ⟨k, ?_⟩
         have : y ≠ x := fun e => hj (Zbb hN e1 (e ▸ hi))
         simp [this, e]
       · exact .inr ⟨k, c, e, z.sameBut hs (cne y c e)⟩
   · obtain ⟨w', z⟩ := I.cell y c e
     exact ⟨w', z.sameBut hs (cne y c e)⟩
   · obtain ⟨e, n, ne, nf, d⟩ := I.pin p hp
     exact ⟨(hs.2 p.1 ne).trans e, n, ne, nf, d⟩
 · have hfn : X.fn x = true := by
    rcases hf with z | z
    · exact z
    · rw [z] at hk; cases hk
   obtain ⟨c, hc⟩ := I.ok.has x (.inl hk)
   obtain ⟨w', z⟩ := I.cell x c hc
   refine wpAny_storeName_cell I.ok.kind hk hc z (fun h' hc' hs => ?_)
   obtain ⟨oc, hoc, hocd⟩ := id z
   refine h { s with heap := h' } ⟨I.ok, I.os, I.bare, ⟨fun b o e n hb hx => ?_, fun b o e n hb hx => ?_, I.base.free, fun b o e hx => ?_, I.base.tups, I.base.frzs, I.base.tbls⟩, ⟨m, hn.sameBut hs (Ne.symm (cne x c hc)), fun j y v' e1 e2 e3 => ?_⟩, fun y c' e => ?_, I.free, I.freeC, fun p hp => ?_, tracked ⟨oc, hoc, I.freeC x c hc⟩ hs, by simpa using I.len⟩ ⟨c, hs, .inr hc⟩
   · exact (hs.2 b (Nat.ne_of_lt (Nat.lt_of_lt_of_le (Heap.lt_size e) (I.ok.cab x c hfn hc)))).trans (I.base.keep b o e n hb hx)
   · obtain ⟨sl, e1⟩ := I.base.slot b o e n hb hx
     exact ⟨sl, (hs.2 b (Nat.ne_of_lt (Nat.lt_of_lt_of_le (Heap.lt_size e) (I.ok.cab x c hfn hc)))).trans e1⟩
   · obtain ⟨o', e1⟩ := I.base.there b o e hx
     exact ⟨o', (hs.2 b (Nat.ne_of_lt (Nat.lt_of_lt_of_le (Heap.lt_size e) (I.ok.cab x c hfn hc)))).trans e1⟩
   · by_cases hj : j = i
     · subst hj
       rw [hi] at e1; cases e1
       rw [List.getElem?_set_self hiσ] at e2
       cases e2
       exact ⟨u, r, .inr ⟨.inl hk, c, hc, hc'⟩⟩
     · rw [List.getElem?_set_ne (Ne.symm hj)] at e2
       obtain ⟨u', r', q⟩ := hl j y v' e1 e2 e3
       refine ⟨u', r', ?_⟩
       rcases q with q | ⟨k, c', e, z'⟩
       · exact .inl q
       · refine .inr ⟨k, c', e, z'.sameBut hs ?_⟩
         rintro rfl
         exact hj (Zbb hN e1 (I.ok.inj _ _ _ e hc ▸ hi))
   · by_cases hcc : c' = c
     · subst hcc; exact ⟨_, hc'⟩
     · obtain ⟨w2, z2⟩ := I.cell y c' e
       exact ⟨w2, z2.sameBut hs hcc⟩
   · obtain ⟨e, n, ne, nf, d⟩ := I.pin p hp
     refine ⟨(hs.2 p.1 ?_).trans e, n, ne, nf, d⟩
     intro q
     rw [q, hoc] at e
     have q' : oc = p.2 := Option.some.inj e
     exact d w' (by rw [<- q']; exact hocd)
theorem Zbc {M : Model} {A : Around} {E : Value -> Shared -> Prop} {i : Nat} {x : Str} {v : V} {u : Value} {Q : Unit -> Shared -> Prop} (I : Inv X pins σ H s) (hN : X.N.Nodup) (hi : X.N[i]? = some x) (hx : Loc X.env.scope x) (r : RelV v u)
 (h : ∀ s', Inv X pins (σ.set i (some v)) H s' -> Q () s') (hf : X.fn x = true \/ X.env.scope.names.lookup x = some .local := by first | exact .inl rfl | exact .inr rfl | assumption) : wpAny M A (storeName X.env x u) Q E s :=
 ZaA I hN hi hx r (fun s' I' _ => h s' I') hf
theorem Inv.call' {s' : Shared} {ch : List Addr} (I : Inv X pins σ H s) (ho : s'.os = s.os) (u : Un (frs X.stack) ch H H' s.heap s'.heap) (hok : HOk X.prog X.w H' s'.heap) (hg : AllBare s'.gens)
 (hch : ∀ b ∈ ch, (b ∈ X.ex \/ X.s₀.heap.objs.size <= b) /\ b ≠ X.env.locals /\ (∀ x c, X.env.cells.lookup x = some c -> c ≠ b) /\ ∀ p ∈ X.pn ++ pins, p.1 ≠ b) : Inv X pins σ H' s' := by
 obtain ⟨h', g', d', t', o'⟩ := s'
 have e : o' = s.os := ho
 subst e
 exact I.call (g' := g') (t' := t') (d' := d') u hok hg hch
end
abbrev XK := Value -> Option Addr -> Hp -> Prop
abbrev St := List (Option V)
abbrev VK := V -> Hp -> Prop
abbrev TE := St -> Hp -> VK -> Prop
abbrev TT := St -> Hp -> (Bool -> Hp -> Prop) -> Prop
abbrev TA := St -> Hp -> (List V -> Hp -> Prop) -> Prop
structure Ends where
 nx : St -> Hp -> Prop
 rt : VK
 bk : St -> Hp -> Prop := fun _ _ => False
 ct : St -> Hp -> Prop := fun _ _ => False
abbrev TS := Ends -> St -> Hp -> Prop
def EP (X : Cx) (pins : List (Addr × Obj)) (σ : St) (Q : VK) (u : Value) (s' : Shared) : Prop := ∃ v H', Inv X pins σ H' s' /\ RelV v u /\ Q v H'
def TP (X : Cx) (pins : List (Addr × Obj)) (σ : St) (Q : Bool -> Hp -> Prop) (b : Bool) (s' : Shared) : Prop := ∃ H', Inv X pins σ H' s' /\ Q b H'
def AP (X : Cx) (pins : List (Addr × Obj)) (σ : St) (Q : List V -> Hp -> Prop) (us : List Value) (s' : Shared) : Prop := ∃ vs H', Inv X pins σ H' s' /\ Vals vs us /\ Q vs H'
def SP (X : Cx) (pins : List (Addr × Obj)) (D : Ends) (f : Flow) (s' : Shared) : Prop :=
 match f with
 | .next => ∃ σ' H', Inv X pins σ' H' s' /\ D.nx σ' H'
 | .brk => ∃ σ' H', Inv X pins σ' H' s' /\ D.bk σ' H'
 | .cont => ∃ σ' H', Inv X pins σ' H' s' /\ D.ct σ' H'
 | .ret u => ∃ v σ' H', Inv X pins σ' H' s' /\ RelV v u /\ D.rt v H'
def PE (X : Cx) (e : Expr) (t : TE) : Prop :=
 ∀ (pins : List (Addr × Obj)) (s : Shared) (σ : St) (H : Hp) (Q : VK), Inv X pins σ H s -> t σ H Q -> wpAny (model X.prog X.w) X.A (eval e X.env) (EP X pins σ Q) X.xe s
def PT (X : Cx) (e : Expr) (t : TT) : Prop :=
 ∀ (pins : List (Addr × Obj)) (s : Shared) (σ : St) (H : Hp) (Q : Bool -> Hp -> Prop), Inv X pins σ H s -> t σ H Q -> wpAny (model X.prog X.w) X.A (isTrue e X.env (eval e X.env)) (TP X pins σ Q) X.xe s
def PW (X : Cx) (e : Expr) (t : TT) : Prop :=
 ∀ (whole : Sem Value) (pins : List (Addr × Obj)) (s : Shared) (σ : St) (H : Hp) (Q : Bool -> Hp -> Prop), Inv X pins σ H s -> t σ H Q -> wpAny (model X.prog X.w) X.A (isTrue e X.env whole) (TP X pins σ Q) X.xe s
theorem PW.pt {X : Cx} {e : Expr} {t : TT} (h : PW X e t) : PT X e t := h _
def PA (X : Cx) (es : List Expr) (t : TA) : Prop :=
 ∀ (pos : Pos) (pins : List (Addr × Obj)) (s : Shared) (σ : St) (H : Hp) (Q : List V -> Hp -> Prop), Inv X pins σ H s -> t σ H Q -> wpAny (model X.prog X.w) X.A (spliced (backTo pos (starEach es X.env))) (AP X pins σ Q) X.xe s
def PS (X : Cx) (st : Stmt) (t : TS) : Prop :=
 ∀ (pins : List (Addr × Obj)) (s : Shared) (σ : St) (H : Hp) (D : Ends), Inv X pins σ H s -> t D σ H -> wpAny (model X.prog X.w) X.A (exec st X.env) (SP X pins D) X.xe s
def PSs (X : Cx) (st : List Stmt) (t : TS) : Prop :=
 ∀ (pins : List (Addr × Obj)) (s : Shared) (σ : St) (H : Hp) (D : Ends), Inv X pins σ H s -> t D σ H -> wpAny (model X.prog X.w) X.A (execs st X.env) (SP X pins D) X.xe s
theorem thn {α : Type} {t : Sem α} {Q Q' : α -> Shared -> Prop} {M : Model} {A : Around} {E : Value -> Shared -> Prop} {s : Shared} (h : wpAny M A t Q E s) (hQ : ∀ a s, Q a s -> Q' a s) : wpAny M A t Q' E s := wpAny_mono h hQ fun _ _ x => x
end L2
namespace L2
open PySem PySem.Spec PyProof.Rows
section
variable {X : Cx}
def Vr (i : Nat) : TE := fun σ H Q => ∃ v, σ[i]? = some (some v) /\ Q v H
def tC (v : V) : TE := fun _ H Q => Q v H
theorem Ze4 {i : Nat} {x : Str} {pos : Pos} (hN : X.N[i]? = some x) (hv : Vis X.env.scope x) (hd : (x == ("__debug__" : Str)) = false := by decide) (hcd : (x == ("__classdict__" : Str)) = false := by decide) : PE X (.Name x pos) (Vr i) := by
 intro pins s σ H Q I h
 obtain ⟨v, e, h⟩ := h
 obtain ⟨m, hn, hl⟩ := I.loc
 obtain ⟨u, r, l⟩ := hl i x v hN e hv
 have fin : EP X pins σ Q u s := ⟨v, H, I, r, h⟩
 rcases l with ⟨hk, hm⟩ | ⟨hk, c, hc, hcell⟩
 · exact wpAny_Name (wpAny_loadName_local I.ok.kind hk hn hm fin) hd
 · rcases hk with hk | hk
   · exact wpAny_Name (wpAny_loadName_cell I.ok.kind hk hc hcell fin) hd
   · exact wpAny_Name (wpAny_loadName_free I.ok.kind hk hc hcell fin hcd) hd
theorem Zs {i j pos} : PE X (.Constant (.int i) j pos) (tC (.int i)) := fun _ _ _ H _ I h => wpAny_Constant_int ⟨.int i, H, I.tok _, ⟨_, rfl⟩, h⟩
theorem XJ {b j pos} : PE X (.Constant (.bool b) j pos) (tC (.bl b)) := fun _ _ _ H _ I h => Constant_bool ⟨.bl b, H, I, rfl, h⟩
theorem Q0 {j pos} : PE X (.Constant .none j pos) (tC .non) := fun _ _ _ H _ I h => Constant_none ⟨.non, H, I, rfl, h⟩
def Gl (X : Cx) (x : Str) : Prop := X.env.kindOf x = some .globalImplicit
theorem Zd1 {E : Value -> Shared -> Prop} {pins : List (Addr × Obj)} {s : Shared} {σ : St} {H : Hp} {x : Str} {u : Value} {pos : Pos} {Q : Value -> Shared -> Prop} (I : Inv X pins σ H s) (hg : Gl X x) (hm : X.mg x = some u) (h : Q u s)
 (hd : (x == ("__debug__" : Str)) = false := by decide) : wpAny (model X.prog X.w) X.A (eval (.Name x pos) X.env) Q E s :=
 Calls.Name_function_global I.ok.kind hg (Calls.loadGlobal_global (by rw [I.ok.glob]; exact I.mod.glob.keeps I.bk) hm h) hd
theorem YX {E : Value -> Shared -> Prop} {pins : List (Addr × Obj)} {s : Shared} {σ : St} {H : Hp} {x : Str} {u : Value} {pos : Pos} {Q : Value -> Shared -> Prop} (I : Inv X pins σ H s) (hg : Gl X x) (hm : X.mg x = none) (hv : bootBuiltins x = some u) (h : Q u s)
 (hn : x ≠ "__name__" := by decide) (hd : (x == ("__debug__" : Str)) = false := by decide) : wpAny (model X.prog X.w) X.A (eval (.Name x pos) X.env) Q E s := by
 obtain ⟨mb, h1, h2⟩ := I.mod.blt
 exact Calls.Name_function_global I.ok.kind hg (Calls.loadGlobal_builtin (by rw [I.ok.glob]; exact I.mod.glob.keeps I.bk) hm (by rw [I.ok.blt]; exact h1.keeps I.bk) ((h2 x hn).trans hv) h) hd
theorem Q1 {x : Str} {v : V} {u : Value} {pos : Pos} (hg : Gl X x) (hm : X.mg x = none) (hv : bootBuiltins x = some u) (r : RelV v u) (hn : x ≠ "__name__" := by decide) (hd : (x == ("__debug__" : Str)) = false := by decide) : PE X (.Name x pos) (tC v) :=
 fun _ _ _ H _ I h => YX I hg hm hv ⟨v, H, I, r, h⟩ hn hd
variable {a b : Expr} {ta tb : TE} {pos : Pos}
def PC (X : Cx) (op : CmpOp) (a b : Expr) (t : TE) : Prop :=
 ∀ (pins : List (Addr × Obj)) (s : Shared) (σ : St) (H : Hp) (Q : VK), Inv X pins σ H s -> t σ H Q ->
  wpAny (model X.prog X.w) X.A (eval a X.env) (fun v s₁ => wpAny (model X.prog X.w) X.A (eval b X.env) (fun u s₂ => wpAny (model X.prog X.w) X.A (compareOp op v u) (EP X pins σ Q) X.xe s₂) X.xe s₁) X.xe s
theorem Zbd (b : Expr) {op : CmpOp} (h : op ≠ .In) (h2 : op ≠ .NotIn) : behindInMarks op b = false := by
 have e1 : (op == CmpOp.In) = false := by cases op <;> first | rfl | exact absurd rfl h
 have e2 : (op == CmpOp.NotIn) = false := by cases op <;> first | rfl | exact absurd rfl h2
 cases b <;> simp [behindInMarks, e1, e2]
def ZgM (ta : TE) : TE := fun σ H Q => ta σ H fun x H1 => Q (.bl (decide (x = .non))) H1
theorem RelV.none_iff {x : V} {v : Value} (r : RelV x v) : (v == Value.none) = decide (x = .non) := by
 cases x with
 | non => cases r; rfl
 | bl _ => cases r; rfl
 | int _ => obtain ⟨t, rfl⟩ := r; rfl
 | str _ => obtain ⟨t, rfl⟩ := r; rfl
 | byt _ => obtain ⟨t, rfl⟩ := r; rfl
 | flt _ => obtain ⟨t, rfl⟩ := r; rfl
 | ref _ => cases r; rfl
 | ty _ => cases r; rfl
theorem Q2 {j pos'} (ha : PE X a ta) : PC X .Is a (.Constant .none j pos') (ZgM ta) := by
 intro pins s σ H Q I h
 refine thn (ha pins s σ H _ I h) fun v s1 ⟨x, H1, I1, r1, q1⟩ => ?_
 exact Constant_none (is_none_gen ⟨.bl _, H1, I1, by rw [r1.none_iff]; rfl, q1⟩)
def tB (t : TE) : TT := fun σ H Q => t σ H fun x H1 => ∃ c, x = .bl c /\ Q c H1
theorem Ze5 {op : CmpOp} {t : TE} (h : PC X op a b t) (h1 : behindInMarks op b = false := by first | exact Zbd _ (by decide) (by decide) | rfl) : PE X (.Compare a [op] [b] pos) t := fun pins s σ H Q I hw => wpAny_Compare1 (h pins s σ H Q I hw) h1
theorem Zdw {op : CmpOp} {t : TE} (h : PC X op a b t) (h1 : behindInMarks op b = false := by first | exact Zbd _ (by decide) (by decide) | rfl) : PT X (.Compare a [op] [b] pos) (tB t) := by
 intro pins s σ H Q I hw
 refine wpAny_isTrue_Compare1 (thn (h pins s σ H _ I hw) fun v s1 h1 => thn h1 fun u s2 h2 => thn h2 fun c s3 ⟨x, H1, I1, r1, q1⟩ => ?_) h1
 obtain ⟨d, rfl, q⟩ := q1
 cases r1
 exact wpAny_truthy_bool ⟨H1, I1, q⟩
theorem V6 {e : Expr} {t : TE} (h : PE X e t) (he : ∀ whole, isTrue e X.env whole = (do let v <- whole; standAt e.pos; holding [v] (truthy v)) := by intro _; rfl) : PT X e (tB t) := by
 intro pins s σ H Q I hw
 refine isTrue_plain (thn (h pins s σ H _ I hw) fun v s1 ⟨x, H1, I1, r1, q1⟩ => ?_) (he _)
 obtain ⟨d, rfl, q⟩ := q1
 cases r1
 exact wpAny_truthy_bool ⟨H1, I1, q⟩
variable {tA tB' : TT} {rest : List Expr}
def tOr (t u : TT) : TT := fun σ H Q => t σ H fun c H1 => if c = true then Q true H1 else u σ H1 Q
def ZgN (t : TT) : TT := fun σ H Q => t σ H fun c H1 => Q (!c) H1
theorem Q3 (ha : PT X a tA) : PW X (.BoolOp .Or [a] pos) tA := by
 intro wh pins s σ H Q I h
 refine isTrue_or (thn (ha pins s σ H Q I h) fun c s1 e => ?_)
 cases c with
 | false => exact isTrue_or_nil e
 | true => exact e
theorem Q4 (ha : PT X a tA) (hb : PW X (.BoolOp .Or (b :: rest) pos) tB') : PW X (.BoolOp .Or (a :: b :: rest) pos) (tOr tA tB') := by
 intro wh pins s σ H Q I h
 refine isTrue_or (thn (ha pins s σ H _ I h) fun c s1 ⟨H1, I1, q1⟩ => ?_)
 cases c with
 | true => exact ⟨H1, I1, q1⟩
 | false => exact hb wh pins s1 σ H1 Q I1 q1
theorem V7 (ha : PT X a tA) : PT X (.UnaryOp .Not a pos) (ZgN tA) := by
 intro pins s σ H Q I h
 exact isTrue_not (ha pins s σ H (fun c H1 => Q (!c) H1) I h)
def ZeA (ta tb : TE) : TE := fun σ H Q => ta σ H fun x H1 => ∃ c, x = .bl c /\ if c = true then tb σ H1 Q else Q (.bl false) H1
def ZeB (ta : TE) : TE := fun σ H Q => ta σ H fun x H1 => ∃ c, x = .bl c /\ Q (.bl (!c)) H1
theorem Q5 {op} {t : TE} (h : PE X a t) : PE X (.BoolOp op [a] pos) t := fun pins s σ H Q I hw => BoolOp_one (h pins s σ H Q I hw)
theorem U1 (ha : PE X a ta) (hb : PE X (.BoolOp .And (b :: rest) pos) tb) : PE X (.BoolOp .And (a :: b :: rest) pos) (ZeA ta tb) := by
 intro pins s σ H Q I h
 refine BoolOp_and (thn (ha pins s σ H _ I h) fun v s1 ⟨x, H1, I1, r1, q1⟩ => ?_)
 obtain ⟨c, rfl, q1⟩ := q1
 cases r1
 refine wpAny_truthy_bool ?_
 cases c with
 | true => exact hb pins s1 σ H1 Q I1 q1
 | false => exact ⟨.bl false, H1, I1, rfl, q1⟩
theorem Ze6 (ha : PE X a ta) : PE X (.UnaryOp .Not a pos) (ZeB ta) := by
 intro pins s σ H Q I h
 refine UnaryOp_ (thn (ha pins s σ H _ I h) fun v s1 ⟨x, H1, I1, r1, q1⟩ => ?_)
 obtain ⟨c, rfl, q1⟩ := q1
 cases r1
 exact not_of (wpAny_truthy_bool ⟨.bl (!c), H1, I1, rfl, q1⟩)
def tIf (t : TT) (ta tb : TE) : TE := fun σ H Q => t σ H fun c H1 => if c = true then ta σ H1 Q else tb σ H1 Q
theorem ZcW {c : Expr} (hc : PT X c tA) (ha : PE X a ta) (hb : PE X b tb) : PE X (.IfExp c a b pos) (tIf tA ta tb) := by
 intro pins s σ H Q I h
 refine wpAny_IfExp (thn (hc pins s σ H _ I h) fun d s1 ⟨H1, I1, q1⟩ => ?_)
 cases d with
 | true => exact ha pins s1 σ H1 Q I1 q1
 | false => exact hb pins s1 σ H1 Q I1 q1
end
end L2
namespace L2
open PySem PySem.Spec PyProof.Rows
def SqL (K : PySem.W.Frag) (H : Hp) (a : Addr) (xs : List V) : Prop :=
 Rd H a (.lst xs) \/
  ∃ (o : Obj) (its : Array Value) (n : Nat), K.lookup a = some o /\ o.cls = .type "list" /\ o.dict = none /\ o.data = .seq its n /\ its.size <= sizeLine /\ Vals xs its.toList
def SqT (K : PySem.W.Frag) (H : Hp) (a : Addr) (xs : List V) : Prop :=
 Rd H a (.tup xs) \/
  ∃ (o : Obj) (its : Array Value) (n : Nat), K.lookup a = some o /\ o.cls = .type "tuple" /\ o.data = .seq its n /\ its.size <= sizeLine /\ Vals xs its.toList
def Zg6 : Value -> Option V
 | .none => some .non
 | .bool b => some (.bl b)
 | .int i _ => some (.int i)
 | .str x _ => some (.str x)
 | .bytes b _ => some (.byt b)
 | .float b _ => some (.flt b)
 | .ref a => some (.ref a)
 | .type n => some (.ty n)
 | _ => none
theorem RelV.abs {x : V} {u : Value} (r : RelV x u) : Zg6 u = some x := by
 cases x with
 | non => cases r; rfl
 | bl _ => cases r; rfl
 | int _ => obtain ⟨t, rfl⟩ := r; rfl
 | str _ => obtain ⟨t, rfl⟩ := r; rfl
 | byt _ => obtain ⟨t, rfl⟩ := r; rfl
 | flt _ => obtain ⟨t, rfl⟩ := r; rfl
 | ref _ => cases r; rfl
 | ty _ => cases r; rfl
theorem RelV.inj {x y : V} {u : Value} (r : RelV x u) (q : RelV y u) : x = y := Option.some.inj (r.abs.symm.trans q.abs)
theorem Vals.inj : ∀ {xs ys : List V} {us : List Value}, Vals xs us -> Vals ys us -> xs = ys
 | _, _, _, .nil, .nil => rfl
 | _, _, _, .cons r t, .cons r' t' => by rw [r.inj r', Vals.inj t t']
section
variable {X : Cx} {pins : List (Addr × Obj)} {σ : St} {H : Hp} {s : Shared} {a : Addr} {xs ys : List V}
theorem SqL.of {K : PySem.W.Frag} (h : H a = some (.lst xs)) : SqL K H a xs := .inl (.inl h)
theorem SqT.of {K : PySem.W.Frag} (h : H a = some (.tup xs)) : SqT K H a xs := .inl (.inl h)
theorem Inv.list (I : Inv X pins σ H s) (h : SqL X.K H a xs) : ∃ its : List Value, Vals xs its /\ PlainL s.heap a its.toArray /\ xs.length <= sizeLine := by
 rcases h with h | ⟨o, its, n, hk, hc, hd, hs, hz, r⟩
 · obtain ⟨z, its, n, r, e⟩ := h.ok I.hok
   exact ⟨its, r, ⟨_, n, e, rfl, rfl, rfl⟩, z⟩
 · refine ⟨its.toList, r, ⟨o, n, I.kIn a o hk, hc, hd, by simpa using hs⟩, ?_⟩
   have e := r.length
   simp only [Array.length_toList] at e
   omega
theorem Inv.tuple (I : Inv X pins σ H s) (h : SqT X.K H a xs) : ∃ its : List Value, Vals xs its /\ IsTup s.heap a its.toArray /\ xs.length <= sizeLine := by
 rcases h with h | ⟨o, its, n, hk, hc, hs, hz, r⟩
 · obtain ⟨z, its, r, p⟩ := h.ok I.hok
   exact ⟨its, r, p.tup, z⟩
 · refine ⟨its.toList, r, ⟨o, I.kIn a o hk, hc, n, by simpa using hs⟩, ?_⟩
   have e := r.length
   simp only [Array.length_toList] at e
   omega
theorem Inv.list_inj (I : Inv X pins σ H s) (h : SqL X.K H a xs) (h' : SqL X.K H a ys) : xs = ys := by
 obtain ⟨its, r, ⟨o, n, e, _, _, d⟩, _⟩ := I.list h
 obtain ⟨its', r', ⟨o', n', e', _, _, d'⟩, _⟩ := I.list h'
 rw [e] at e'; cases e'
 rw [d] at d'
 injection d' with d1 _
 have : its = its' := by simpa using congrArg Array.toList d1
 subst this
 exact r.inj r'
theorem Inv.tuple_inj (I : Inv X pins σ H s) (h : SqT X.K H a xs) (h' : SqT X.K H a ys) : xs = ys := by
 obtain ⟨its, r, ⟨o, e, _, n, d⟩, _⟩ := I.tuple h
 obtain ⟨its', r', ⟨o', e', _, n', d'⟩, _⟩ := I.tuple h'
 rw [e] at e'; cases e'
 rw [d] at d'
 injection d' with d1 _
 have : its = its' := by simpa using congrArg Array.toList d1
 subst this
 exact r.inj r'
end
abbrev Cx.wish (X : Cx) (E : Value -> Shared -> Prop) : Cx := { X with xe := E }
abbrev Cx.nox (X : Cx) : Cx := X.wish fun _ _ => False
theorem Cx.Ok.wish {X : Cx} (ok : X.Ok) (E : Value -> Shared -> Prop) : (X.wish E).Ok :=
 ⟨ok.mod, ok.kind, ok.glob, ok.blt, ok.above, ok.inj, ok.has, ok.cab, ok.hd, ok.frames, ok.stk, ok.exf, ok.bs, ok.bsz, ok.noex, ok.exfs, ok.funs, ok.frf⟩
theorem Cx.Ok.unwish {X : Cx} {E : Value -> Shared -> Prop} (ok : (X.wish E).Ok) : X.Ok :=
 ⟨ok.mod, ok.kind, ok.glob, ok.blt, ok.above, ok.inj, ok.has, ok.cab, ok.hd, ok.frames, ok.stk, ok.exf, ok.bs, ok.bsz, ok.noex, ok.exfs, ok.funs, ok.frf⟩
section
variable {X : Cx} {pins : List (Addr × Obj)} {σ : St} {H : Hp} {s : Shared} {E : Value -> Shared -> Prop}
theorem Inv.wish (I : Inv X pins σ H s) (E : Value -> Shared -> Prop) : Inv (X.wish E) pins σ H s := ⟨I.ok.wish E, I.os, I.bare, I.base, I.loc, I.cell, I.free, I.freeC, I.pin, I.hok, I.len⟩
theorem Inv.unwish (I : Inv (X.wish E) pins σ H s) : Inv X pins σ H s := ⟨I.ok.unwish, I.os, I.bare, I.base, I.loc, I.cell, I.free, I.freeC, I.pin, I.hok, I.len⟩
theorem SP.unwish {D : Ends} {f : Flow} {s' : Shared} (h : SP (X.wish E) pins D f s') : SP X pins D f s' := by
 cases f with
 | next => obtain ⟨σ', H', I, q⟩ := h; exact ⟨σ', H', I.unwish, q⟩
 | brk => obtain ⟨σ', H', I, q⟩ := h; exact ⟨σ', H', I.unwish, q⟩
 | cont => obtain ⟨σ', H', I, q⟩ := h; exact ⟨σ', H', I.unwish, q⟩
 | ret u => obtain ⟨v, σ', H', I, r, q⟩ := h; exact ⟨v, σ', H', I.unwish, r, q⟩
theorem PSs.nox {st : List Stmt} {t : TS} (h : PSs X.nox st t) : PSs X st t := fun pins s σ H D I hw =>
 wpAny_mono (h pins s σ H D (I.wish _) hw) (fun _ _ q => q.unwish) fun _ _ z => False.elim z
end
section
variable {X : Cx} {st : Stmt} {rest : List Stmt} {t u : TS} {e : Expr} {te : TE} {pos : Pos}
def tNext : TS := fun D σ H => D.nx σ H
def Vs (t u : TS) : TS := fun D σ H => t { D with nx := u D } σ H
theorem Ys : PSs X [] tNext := fun _ _ σ H _ I h => wpAny_execs_nil ⟨σ, H, I, h⟩
theorem Zt (h1 : PS X st t) (h2 : PSs X rest u) : PSs X (st :: rest) (Vs t u) := by
 intro pins s σ H D I h
 refine wpAny_execs_cons (thn (h1 pins s σ H { D with nx := u D } I h) fun f s1 q => ?_)
 cases f with
 | next =>
  obtain ⟨σ', H', I', q⟩ := q
  exact h2 pins s1 σ' H' D I' q
 | ret v => exact q
 | brk => exact q
 | cont => exact q
theorem Zv (h1 : PS X st t) : PSs X [st] t := by
 intro pins s σ H D I h
 refine wpAny_execs_cons (thn (h1 pins s σ H D I h) fun f s1 q => ?_)
 cases f with
 | next => exact wpAny_execs_nil q
 | ret v => exact q
 | brk => exact q
 | cont => exact q
theorem Inv.quiet {pins : List (Addr × Obj)} {σ : St} {H : Hp} {s : Shared} (I : Inv X pins σ H s) : interactive X.env = false := by simp [interactive, I.ok.kind]
def ZeC (te : TE) : TS := fun D σ H => te σ H fun _ H1 => D.nx σ H1
theorem Vb (he : PE X e te) (hs : swapsWith e none pos.line X.env = pure false := by rfl) : PS X (.Expr e pos) (ZeC te) := by
 intro pins s σ H D I h
 exact wpAny_Expr_any (thn (he pins s σ H _ I h) fun v s1 ⟨x, H1, I1, r1, q1⟩ => ⟨σ, H1, I1, q1⟩) I.quiet hs
def Q6 (te : TE) : TS := fun D σ H => te σ H D.rt
theorem ZF (he : PE X e te) : PS X (.Return (some e) pos) (Q6 te) := by
 intro pins s σ H D I h
 exact wpAny_Return_some (thn (he pins s σ H _ I h) fun v s1 ⟨x, H1, I1, r1, q1⟩ => ⟨x, σ, H1, I1, r1, q1⟩)
def ZgO (c : TT) (t u : TS) : TS := fun D σ H => c σ H fun b H1 => if b = true then t D σ H1 else u D σ H1
theorem Yn {c : Expr} {a b : List Stmt} {tc : TT} (hc : PT X c tc) (ha : PSs X a t) (hb : PSs X b u) : PS X (.If c a b pos) (ZgO tc t u) := by
 intro pins s σ H D I h
 refine wpAny_If (thn (hc pins s σ H _ I h) fun d s1 ⟨H1, I1, q1⟩ => ?_)
 cases d with
 | true => exact ha pins s1 σ H1 D I1 q1
 | false => exact hb pins s1 σ H1 D I1 q1
end
abbrev TG := V -> St -> Hp -> (St -> Hp -> Prop) -> Prop
abbrev TGs := List V -> St -> Hp -> (St -> Hp -> Prop) -> Prop
def PG (X : Cx) (target : Expr) (t : TG) : Prop :=
 ∀ (pins : List (Addr × Obj)) (s : Shared) (σ : St) (H : Hp) (v : V) (u : Value) (Q : St -> Hp -> Prop), Inv X pins σ H s -> RelV v u -> t v σ H Q ->
  wpAny (model X.prog X.w) X.A (assign target X.env u) (fun _ s' => ∃ σ' H', Inv X pins σ' H' s' /\ Q σ' H') X.xe s
def PGs (X : Cx) (ts : List Expr) (t : TGs) : Prop :=
 ∀ (pins : List (Addr × Obj)) (s : Shared) (σ : St) (H : Hp) (vs : List V) (us : List Value) (Q : St -> Hp -> Prop), Inv X pins σ H s -> Vals vs us -> t vs σ H Q ->
  wpAny (model X.prog X.w) X.A (assignInOrder ((assignEach ts X.env).map (·.2)) us) (fun _ s' => ∃ σ' H', Inv X pins σ' H' s' /\ Q σ' H') X.xe s
abbrev TSet := V -> V -> V -> Hp -> (Hp -> Prop) -> Prop
def ZgP (X : Cx) (t : TSet) : Prop :=
 ∀ (pins : List (Addr × Obj)) (s : Shared) (σ : St) (H : Hp) (o i v : V) (ov iv u : Value) (Q : Hp -> Prop), Inv X pins σ H s -> RelV o ov -> RelV i iv -> RelV v u -> t o i v H Q ->
  wpAny (model X.prog X.w) X.A (setItem ov iv u) (fun _ s' => ∃ H', Inv X pins σ H' s' /\ Q H') X.xe s
section
variable {X : Cx} {pos : Pos}
def Y6 (i : Nat) : TG := fun v σ H Q => Q (σ.set i (some v)) H
theorem ZR {i : Nat} {x : Str} (hN : X.N.Nodup) (hi : X.N[i]? = some x) (hx : Loc X.env.scope x) (hf : X.fn x = true \/ X.env.scope.names.lookup x = some .local := by first | exact .inl rfl | exact .inr rfl | assumption) : PG X (.Name x pos) (Y6 i) := by
 intro pins s σ H v u Q I r h
 exact wpAny_assign_Name (Zbc I hN hi hx r (fun s' I' => ⟨_, H, I', h⟩) hf)
def gNil : TGs := fun vs σ H Q => vs = [] /\ Q σ H
def ZeD (t : TG) (u : TGs) : TGs := fun vs σ H Q => ∃ v r, vs = v :: r /\ t v σ H fun σ' H' => u r σ' H' Q
theorem Q7 : PGs X [] gNil := by
 intro pins s σ H vs us Q I r h
 obtain ⟨e, h⟩ := h
 subst e
 cases r
 exact assignInOrder_nil ⟨σ, H, I, h⟩
theorem Vt {e : Expr} {es : List Expr} {t : TG} {u : TGs} (h1 : PG X e t) (h2 : PGs X es u)
 (hs : (assignEach (e :: es) X.env).map (·.2) = assign e X.env :: (assignEach es X.env).map (·.2) := by rfl) : PGs X (e :: es) (ZeD t u) := by
 intro pins s σ H vs us Q I r h
 obtain ⟨v, vr, e1, h⟩ := h
 subst e1
 cases r with
 | cons r rr =>
  rw [hs]
  refine assignInOrder_cons (thn (h1 pins s σ H _ _ _ I r h) fun _ s1 ⟨σ1, H1, I1, q1⟩ => ?_)
  exact h2 pins s1 σ1 H1 _ _ Q I1 rr q1
def Q8 (K : PySem.W.Frag) (n : Nat) (t : TGs) : TG := fun v σ H Q => ∃ a xs, v = .ref a /\ SqT K H a xs /\ xs.length = n /\ t xs σ H Q
theorem Ze7 {es : List Expr} {k : Nat} {t : TGs} {n : Nat} (hc : X.calm = true) (h : PGs X es t)
 (hn : (assignEach es X.env).length = n := by rfl) (hst : (assignEach es X.env).findIdx? (·.1) = none := by rfl) : PG X (.Tuple es k pos) (Q8 X.K n t) := by
 intro pins s σ H v u Q I r hw
 obtain ⟨a, xs, e1, hq, hl, hw⟩ := hw
 subst e1
 cases r
 obtain ⟨its, rv, ht, hz⟩ := I.tuple hq
 refine assign_Tuple_tuple (I.ok.hd hc) ht (by simp [hn, <- hl, rv.length]) hst fun h' hx => ?_
 have I1 : Inv X pins σ H { s with heap := h' } := I.kept (t' := s.toks) fun b o e => hx b o (Nat.ne_of_lt (Heap.lt_size e)) e
 exact h pins _ σ H xs _ Q I1 (by simpa using rv) hw
def ZgQ (to ti : TE) (t : TSet) : TG := fun v σ H Q => to σ H fun o H1 => ti σ H1 fun i H2 => t o i v H2 fun H3 => Q σ H3
theorem Q9 {o i : Expr} {to ti : TE} {t : TSet} (ho : PE X o to) (hi : PE X i ti) (hs : ZgP X t)
 (ha : ∀ v, assign (.Subscript o i pos) X.env v = (do
   let ov <- holding [v] (eval o X.env)
   let iv <- holding [v, ov] (eval i X.env)
   standAt pos
   holding [v, ov, iv] (setItem ov iv v)
   release [v, ov, iv] []) := by intro _; rfl) : PG X (.Subscript o i pos) (ZgQ to ti t) := by
 intro pins s σ H v u Q I r h
 rw [ha]
 refine wpAny_bind (wpAny_holding (thn (ho pins s σ H _ I h) fun ov s1 ⟨x, H1, I1, r1, q1⟩ => ?_))
 refine wpAny_bind (wpAny_holding (thn (hi pins s1 σ H1 _ I1 q1) fun iv s2 ⟨y, H2, I2, r2, q2⟩ => ?_))
 refine wpAny_bind (wpAny_standAt (wpAny_bind (wpAny_holding (thn (hs pins s2 σ H2 x y v ov iv u _ I2 r1 r2 r q2) fun _ s3 ⟨H3, I3, q3⟩ => ?_))))
 exact wpAny_release ⟨σ, H3, I3, q3⟩
def Xq (te : TE) (g : TG) : TS := fun D σ H => te σ H fun x H1 => g x σ H1 D.nx
theorem Ja {tg e : Expr} {te : TE} {g : TG} (he : PE X e te) (hg : PG X tg g) (hs : swapsWithSole [tg] e pos.line X.env = pure false := by rfl) (hw : swappedStores [tg] e X.env = pure none := by rfl)
 (h1 : (assignEach [tg] X.env).map (·.2) = [assign tg X.env] := by rfl) : PS X (.Assign [tg] e pos) (Xq te g) := by
 intro pins s σ H D I h
 refine wpAny_Assign_stores (thn (he pins s σ H _ I h) fun v s1 ⟨x, H1, I1, r1, q1⟩ => ?_) hs hw
 rw [h1]
 exact thn (hg pins s1 σ H1 x v _ I1 r1 q1) fun _ s2 q => q
theorem ZA {i : Nat} {x : Str} {e : Expr} {te : TE} {pos' : Pos} (hN : X.N.Nodup) (hi : X.N[i]? = some x) (hx : Loc X.env.scope x) (he : PE X e te) (hs : swapsWith e (some (.Name x pos')) pos.line X.env = pure false := by rfl) (hf : X.fn x = true \/ X.env.scope.names.lookup x = some .local := by first | exact .inl rfl | exact .inr rfl | assumption) :
 PS X (.Assign [.Name x pos'] e pos) (Xq te (Y6 i)) := by
 intro pins s σ H D I h
 refine wpAny_Assign_Name (thn (he pins s σ H _ I h) fun v s1 ⟨y, H1, I1, r1, q1⟩ => ?_) hs
 exact Zbc I1 hN hi hx r1 (fun s2 I2 => ⟨_, H1, I2, q1⟩) hf
end
section
variable {X : Cx} {pos : Pos}
def Zdx (c : TT) (tb : TS) : TS := fun D σ H => ∃ W : Nat -> St -> Hp -> Prop, (∃ m, W m σ H) /\ ∀ m σ H, W m σ H ->
 c σ H fun b H1 => if b = true then ∃ N : St -> Hp -> Prop, (∀ σ' H', N σ' H' -> ∃ m', m' < m /\ W m' σ' H') /\ tb { D with nx := N, ct := N, bk := D.nx } σ H1 else D.nx σ H1
theorem Zbe {c : Expr} {body : List Stmt} {tc : TT} {tb : TS} (hp : PassesOwn (model X.prog X.w) X.A X.env X.xe) (hc : PT X c tc) (hb : PSs X body tb) : PS X (.While c body [] pos) (Zdx tc tb) := by
 intro pins s σ H D I h
 obtain ⟨W, ⟨m0, w0⟩, turn⟩ := h
 refine wpAny_While (codeAny_whileLoop (fun n s' => ∃ σ' H', Inv X pins σ' H' s' /\ W n σ' H') ?_ m0 ⟨σ, H, I, w0⟩)
 rintro n s1 ⟨σ1, H1, I1, w1⟩
 refine wpAny_passesOwn hp (thn (hc pins s1 σ1 H1 _ I1 (turn n σ1 H1 w1)) fun b s2 ⟨H2, I2, q2⟩ => ?_)
 cases b with
 | true =>
  obtain ⟨N, hN, q2⟩ := q2
  rw [if_pos rfl]
  refine wpAny_passesOwn hp (thn (hb pins s2 σ1 H2 _ I2 q2) fun f s3 q3 => ?_)
  cases f with
  | next =>
   obtain ⟨σ3, H3, I3, n3⟩ := q3
   obtain ⟨m', hm, w3⟩ := hN σ3 H3 n3
   exact ⟨m', hm, σ3, H3, I3, w3⟩
  | cont =>
   obtain ⟨σ3, H3, I3, n3⟩ := q3
   obtain ⟨m', hm, w3⟩ := hN σ3 H3 n3
   exact ⟨m', hm, σ3, H3, I3, w3⟩
  | brk => exact q3
  | ret v => exact q3
 | false =>
  rw [if_neg Bool.false_ne_true]
  exact wpAny_execs_nil ⟨σ1, H2, I2, q2⟩
end
structure It where
 go : Nat -> Hp -> Prop
 yld : Nat -> Hp -> V -> Hp -> Prop
 stop : Nat -> Hp -> Prop
def Yt (X : Cx) (pins : List (Addr × Obj)) (H : Hp) (b : Addr) : Prop :=
 H b = none /\ b ≠ X.env.locals /\ b ∉ X.fs /\ (b ∈ X.ex \/ X.s₀.heap.objs.size <= b) /\ (∀ x c, X.env.cells.lookup x = some c -> c ≠ b) /\ ∀ p ∈ X.pn ++ pins, p.1 ≠ b
theorem Inv.fpOk {X : Cx} {pins : List (Addr × Obj)} {σ : St} {H H' : Hp} {s : Shared} {b : Addr} (I : Inv X pins σ H s) (hb : s.heap.objs.size <= b) (hn : H' b = none) : Yt X pins H' b := by
 refine ⟨hn, Nat.ne_of_gt (Nat.lt_of_lt_of_le I.lt hb), I.nofs hb, .inr (Nat.le_trans I.sz hb), fun x c e z => ?_, fun p hp z => ?_⟩
 · obtain ⟨v, q⟩ := I.cell x c e
   exact absurd (Nat.lt_of_lt_of_le q.lt (by rw [z]; exact hb)) (Nat.lt_irrefl _)
 · exact absurd (Nat.lt_of_lt_of_le (Heap.lt_size (I.pin p hp).1) (by rw [z]; exact hb)) (Nat.lt_irrefl _)
structure Turn (P : Program) (w : World) (K : PySem.W.Frag) (tg : Expr) (J : It) (fp : List Addr) (it : Addr) (tn : Nat -> Heap -> Prop) : Prop where
 mem : it ∈ fp
 obj : ∀ i h, tn i h -> ∀ b ∈ fp, ∃ o, h.get? b = some o /\ ∀ v, o.data ≠ .cell v
 keep : ∀ i h h', tn i h -> (∀ b ∈ fp, ∀ o, h.get? b = some o -> h'.get? b = some o) -> tn i h'
 item : ∀ (X : Cx), X.prog = P -> X.w = w -> X.K = K -> X.calm = true -> ∀ (i : Nat) (pins : List (Addr × Obj)) (s : Shared) (σ : St) (H : Hp) (E : Value -> Shared -> Prop), Inv X pins σ H s -> (∀ b ∈ fp, Yt X pins H b) -> tn i s.heap -> J.go i H ->
  wpAny (model P w) X.A (pyNext (.ref it)) (fun r s1 => ∃ u, r = some u /\
   wpAny (model P w) X.A (letOwnedTupleGo tg (.ref it) u) (fun _ s2 => ∃ x H', Inv X pins σ H' s2 /\ RelV x u /\ J.yld i H x H' /\ tn (i + 1) s2.heap /\ ∀ b ∈ fp, H' b = none) E s1) E s
 done : ∀ (X : Cx), X.prog = P -> X.w = w -> X.K = K -> X.calm = true -> ∀ (i : Nat) (pins : List (Addr × Obj)) (s : Shared) (σ : St) (H : Hp) (E : Value -> Shared -> Prop), Inv X pins σ H s -> (∀ b ∈ fp, Yt X pins H b) -> tn i s.heap -> J.stop i H ->
  wpAny (model P w) X.A (pyNext (.ref it)) (fun r s1 => r = none /\ Inv X pins σ H s1) E s
 self : ∀ (A : Around) (i : Nat) (s : Shared) (Q : Value -> Shared -> Prop) (E : Value -> Shared -> Prop), tn i s.heap -> Q (.ref it) s -> wpAny (model P w) A (pyIter (.ref it)) Q E s
abbrev TI := St -> Hp -> (It -> Hp -> Prop) -> Prop
def PIE (X : Cx) (pins : List (Addr × Obj)) (σ : St) (tg : Expr) (R : It -> Hp -> Prop) (itv : Value) (s2 : Shared) : Prop :=
 ∃ (it : Addr) (fp : List Addr) (tn : Nat -> Heap -> Prop) (J : It) (H' : Hp), itv = .ref it /\ Inv X pins σ H' s2 /\ Turn X.prog X.w X.K tg J fp it tn /\ tn 0 s2.heap /\ (∀ b ∈ fp, Yt X pins H' b) /\ R J H'
def PI (X : Cx) (tg iter : Expr) (wi : TI) : Prop :=
 ∀ (pins : List (Addr × Obj)) (s : Shared) (σ : St) (H : Hp) (R : It -> Hp -> Prop), Inv X pins σ H s -> wi σ H R ->
  wpAny (model X.prog X.w) X.A (eval iter X.env) (fun v s1 => wpAny (model X.prog X.w) X.A (pyIter v) (PIE X pins σ tg R) X.xe s1) X.xe s
theorem U2 {M : Model} {A : Around} {E : Value -> Shared -> Prop} {s : Shared} {tg : Expr} {it : Addr} {u : Value} {o : Obj} {n : String} {vs : Array Value} {Q : Unit -> Shared -> Prop} (ho : s.heap.get? it = some o) (hc : o.cls = .type n) (hd : o.data = .fields vs)
 (hn : ["enumerate", "zip", "dict_itemiterator", "dict_reverseitemiterator", "odict_iterator", "itertools.zip_longest", "itertools.pairwise"].contains n = false) (hQ : Q () s) : wpAny M A (letOwnedTupleGo tg (.ref it) u) Q E s := by
 unfold letOwnedTupleGo
 cases tg <;> first
  | exact wpAny_pure hQ
  | (cases u <;> first
      | exact wpAny_pure hQ
      | (refine wpAny_bind (wpAny_load ho ?_)
         rw [hc, hd]
         show wpAny M A (if (["enumerate", "zip", "dict_itemiterator", "dict_reverseitemiterator", "odict_iterator", "itertools.zip_longest", "itertools.pairwise"].contains n && vs[0]? == some (rawInt _)) = true then _ else _) Q E s
         rw [if_neg (by intro h; rw [hn, Bool.false_and] at h; cases h)]
         exact wpAny_pure hQ))
def Itl (K : PySem.W.Frag) (a : Addr) : It :=
 ⟨fun i H => ∃ xs x, SqL K H a xs /\ xs[i]? = some x, fun i H x H' => H' = H /\ ∀ xs, SqL K H a xs -> xs[i]? = some x, fun i H => ∃ xs, SqL K H a xs /\ xs.length <= i⟩
def Itt (K : PySem.W.Frag) (a : Addr) : It :=
 ⟨fun i H => ∃ xs x, SqT K H a xs /\ xs[i]? = some x, fun i H x H' => H' = H /\ ∀ xs, SqT K H a xs -> xs[i]? = some x, fun i H => ∃ xs, SqT K H a xs /\ xs.length <= i⟩
def Itr (lo : Int) (n : Nat) : It := ⟨fun i _ => i < n, fun i H x H' => H' = H /\ x = .int (lo + i), fun i _ => n <= i⟩
theorem Zcr {P : Program} {w : World} {K : PySem.W.Frag} {tg : Expr} (a it : Addr) : Turn P w K tg (Itl K a) [it] it (fun i h => h.IsListIter it a i) where
 mem := by simp
 obj := fun i h st b hb => by
  have e : b = it := by simpa using hb
  subst e
  obtain ⟨o, e, c, d⟩ := st
  exact ⟨o, e, fun v z => by rw [d] at z; cases z⟩
 keep := fun i h h' st k => st.at fun o e => k it (by simp) o e
 item := by
  intro X hP hw hK hc i pins s σ H E I hf st hg
  subst hP hw hK
  obtain ⟨xs, x, hq, hx⟩ := hg
  obtain ⟨its, rv, p, hz⟩ := I.list hq
  obtain ⟨u, hu, ru⟩ := rv.get hx
  obtain ⟨f0, f1, f2, f3, f4, f5⟩ := hf it (by simp)
  refine wpAny_pyNext_list_item st p.isList (x := u) (by simpa using hu) fun h' st' sb => ?_
  have I1 : Inv X pins σ H { s with heap := h' } := I.turned (t' := s.toks) (fun b o hb e => (sb.2 b hb).trans e) f0 f1 f3 f4 f5
  obtain ⟨o, e, c, d⟩ := id st'
  exact ⟨u, rfl, U2 (s := { s with heap := h' }) e c d (by decide) ⟨x, H, I1, ru, ⟨rfl, fun ys hy => by rw [I.list_inj hy hq]; exact hx⟩, st', fun b hb => (hf b hb).1⟩⟩
 done := by
  intro X hP hw hK hc i pins s σ H E I hf st hg
  subst hP hw hK
  obtain ⟨xs, hq, hx⟩ := hg
  obtain ⟨its, rv, p, hz⟩ := I.list hq
  obtain ⟨f0, f1, f2, f3, f4, f5⟩ := hf it (by simp)
  have hl := rv.length
  exact wpAny_pyNext_list_end (I.ok.hd hc) st p.isList (by simp; omega) fun h' eb => ⟨rfl, I.turned (t' := s.toks) (fun b o hb e => eb b o hb e) f0 f1 f3 f4 f5⟩
 self := fun _ _ _ _ _ st h => wpAny_pyIter_listiter st h
theorem Zap {P : Program} {w : World} {K : PySem.W.Frag} {tg : Expr} (a it : Addr) : Turn P w K tg (Itt K a) [it] it (fun i h => h.IsTupleIter it a i) where
 mem := by simp
 obj := fun i h st b hb => by
  have e : b = it := by simpa using hb
  subst e
  obtain ⟨o, e, c, d⟩ := st
  exact ⟨o, e, fun v z => by rw [d] at z; cases z⟩
 keep := fun i h h' st k => st.at fun o e => k it (by simp) o e
 item := by
  intro X hP hw hK hc i pins s σ H E I hf st hg
  subst hP hw hK
  obtain ⟨xs, x, hq, hx⟩ := hg
  obtain ⟨its, rv, p, hz⟩ := I.tuple hq
  obtain ⟨u, hu, ru⟩ := rv.get hx
  obtain ⟨f0, f1, f2, f3, f4, f5⟩ := hf it (by simp)
  refine wpAny_pyNext_tuple_item st (show s.heap.IsTuple a its.toArray from p) (x := u) (by simpa using hu) fun h' st' sb => ?_
  have I1 : Inv X pins σ H { s with heap := h' } := I.turned (t' := s.toks) (fun b o hb e => (sb.2 b hb).trans e) f0 f1 f3 f4 f5
  obtain ⟨o, e, c, d⟩ := id st'
  exact ⟨u, rfl, U2 (s := { s with heap := h' }) e c d (by decide) ⟨x, H, I1, ru, ⟨rfl, fun ys hy => by rw [I.tuple_inj hy hq]; exact hx⟩, st', fun b hb => (hf b hb).1⟩⟩
 done := by
  intro X hP hw hK hc i pins s σ H E I hf st hg
  subst hP hw hK
  obtain ⟨xs, hq, hx⟩ := hg
  obtain ⟨its, rv, p, hz⟩ := I.tuple hq
  obtain ⟨f0, f1, f2, f3, f4, f5⟩ := hf it (by simp)
  have hl := rv.length
  exact wpAny_pyNext_tuple_end (I.ok.hd hc) st (show s.heap.IsTuple a its.toArray from p) (by simp; omega) fun h' eb => ⟨rfl, I.turned (t' := s.toks) (fun b o hb e => eb b o hb e) f0 f1 f3 f4 f5⟩
 self := fun _ _ _ _ _ st h => wpAny_pyIter_tupleiter st h
theorem Zbz {P : Program} {w : World} {K : PySem.W.Frag} {tg : Expr} (it : Addr) (lo : Int) (n : Nat) : Turn P w K tg (Itr lo n) [it] it (fun i h => IsRangeIter h it (lo + (i : Nat) * 1) ((n : Int) - (i : Nat)) 1) where
 mem := by simp
 obj := fun i h st b hb => by
  have e : b = it := by simpa using hb
  subst e
  exact ⟨_, st, fun v z => by
   have z' : Data.fields _ = Data.cell v := z
   cases z'⟩
 keep := fun i h h' st k => k it (by simp) _ st
 item := by
  intro X hP hw hK hc i pins s σ H E I hf st hg
  subst hP hw hK
  obtain ⟨f0, f1, f2, f3, f4, f5⟩ := hf it (by simp)
  have W := Walks.range (prog := X.prog) (w := X.w) (I.ok.hd hc) it lo 1 n
  refine W.item i s _ _ hg st fun v h' tk hv st' kk => ?_
  obtain ⟨t, rfl⟩ := hv
  have I1 : Inv X pins σ H { s with heap := h', toks := tk } := I.turned (fun b o hb e => kk b o (by simpa using hb) e) f0 f1 f3 f4 f5
  refine ⟨_, rfl, U2 (s := { s with heap := h', toks := tk }) (n := "range_iterator") st' rfl rfl (by decide) ⟨.int (lo + i), H, I1, ⟨t, ?_⟩, ⟨rfl, rfl⟩, st', fun b hb => (hf b hb).1⟩⟩
  rw [Int.mul_one]
 done := by
  intro X hP hw hK hc i pins s σ H E I hf st hg
  subst hP hw hK
  obtain ⟨f0, f1, f2, f3, f4, f5⟩ := hf it (by simp)
  exact wpAny_pyNext_range_end (I.ok.hd hc) st (by have : n <= i := hg; omega) fun h' eb => ⟨rfl, I.turned (t' := s.toks) (fun b o hb e => eb b o hb e) f0 f1 f3 f4 f5⟩
 self := fun _ _ _ _ _ st h => wpAny_pyIter_rangeiter st h
end L2
namespace L2
open PySem PySem.Spec PyProof.Rows
section
variable {X : Cx} {tg : Expr}
def Zg7 (K : PySem.W.Frag) (tl : TE) : TI := fun σ H R => tl σ H fun x H1 => ∃ a, x = .ref a /\ (∃ xs, SqT K H1 a xs) /\ R (Itt K a) H1
theorem Ze8 {l : Expr} {tl : TE} (hl : PE X l tl) : PI X tg l (Zg7 X.K tl) := by
 intro pins s σ H R I h
 refine thn (hl pins s σ H _ I h) fun v s1 ⟨x, H1, I1, r1, q1⟩ => ?_
 obtain ⟨a, e, ⟨xs, hq⟩, q⟩ := q1
 subst e
 cases r1
 obtain ⟨its, rv, p, hz⟩ := I1.tuple hq
 refine wpAny_pyIter_tuple (show s1.heap.IsTuple a its.toArray from p) ?_
 refine ⟨s1.heap.objs.size, [s1.heap.objs.size], _, _, H1, rfl, I1.kept (t' := s1.toks) fun b o e => Heap.get?_push_of_some _ e, Zap a _, ⟨_, Heap.get?_push_size _ rfl, rfl, rfl⟩, fun b hb => ?_, q⟩
 have e : b = s1.heap.objs.size := by simpa using hb
 subst e
 exact I1.fpOk (Nat.le_refl _) (I1.hok.fresh (Nat.le_refl _))
theorem Zbf {pins : List (Addr × Obj)} {σ : St} {H : Hp} {s : Shared} {R : It -> Hp -> Prop} {E : Value -> Shared -> Prop} {lo hi : Int} {t u v : Tok} {tk : Nat} (I : Inv X pins σ H s) (h1 : -(2 ^ 62) <= lo) (h2 : lo < 2 ^ 62) (h3 : -(2 ^ 62) <= hi) (h4 : hi < 2 ^ 62)
 (q : R (Itr lo (hi - lo).toNat) H) : wpAny (model X.prog X.w) X.A (pyIter (.ref s.heap.objs.size)) (PIE X pins σ tg R) E { s with heap := s.heap.push { cls := .type "range", data := .fields #[.int lo t, .int hi u, .int 1 v] }, toks := tk } := by
 refine wpAny_pyIter_range (IsRange.new ..) (small_one h1 h2 h3 h4) ?_
 have I1 : Inv X pins σ H { s with heap := s.heap.push { cls := .type "range", data := .fields #[.int lo t, .int hi u, .int 1 v] }, toks := tk } := I.kept fun b o e => Heap.get?_push_of_some _ e
 refine ⟨(s.heap.push { cls := .type "range", data := .fields #[.int lo t, .int hi u, .int 1 v] }).objs.size, [(s.heap.push { cls := .type "range", data := .fields #[.int lo t, .int hi u, .int 1 v] }).objs.size], _, _, H, rfl,
  I1.kept (t' := tk) fun b o e => Heap.get?_push_of_some _ e, Zbz _ lo (hi - lo).toNat, ?_, fun b hb => ?_, q⟩
 · have e1 : lo + ((0 : Nat) : Int) * 1 = lo := by simp
   have e2 : (((hi - lo).toNat : Nat) : Int) - ((0 : Nat) : Int) = Builtin.Range.rangeSize lo hi 1 := by rw [rangeSize_one]; split <;> omega
   show IsRangeIter _ _ (lo + ((0 : Nat) : Int) * 1) ((((hi - lo).toNat : Nat) : Int) - ((0 : Nat) : Int)) 1
   rw [e1, e2]
   exact Heap.get?_push_size _ rfl
 · have e : b = (s.heap.push { cls := .type "range", data := .fields #[.int lo t, .int hi u, .int 1 v] }).objs.size := by simpa using hb
   subst e
   exact I1.fpOk (Nat.le_refl _) (I1.hok.fresh (Nat.le_refl _))
def ZeE (ta : TA) : TI := fun σ H R => ta σ H fun vs H1 => ∃ j : Int, vs = [.int j] /\ -(2 ^ 62) <= j /\ j < 2 ^ 62 /\ R (Itr 0 j.toNat) H1
def ZeF (ta : TA) : TI := fun σ H R => ta σ H fun vs H1 => ∃ i j : Int, vs = [.int i, .int j] /\ (-(2 ^ 62) <= i /\ i < 2 ^ 62 /\ -(2 ^ 62) <= j /\ j < 2 ^ 62) /\ R (Itr i (j - i).toNat) H1
theorem Xr {a : Expr} {ta : TA} {p pos : Pos} (hg : Gl X "range") (hm : X.mg "range" = none) (ha : PA X [a] ta) (hs : starEach [a] X.env = [(false, eval a X.env)] := by rfl) : PI X tg (.Call (.Name "range" p) [a] [] pos) (ZeE ta) := by
 intro pins s σ H R I h
 refine Call_ (YX I hg hm boot_range (PyProof.Rows.callWith_type1 (thn (ha pos pins s σ H _ I h) fun us s1 ⟨vs, H1, I1, r1, q1⟩ => ?_) hs rfl))
 obtain ⟨j, e, q1, q2, q⟩ := q1
 subst e
 cases r1 with
 | cons r rr =>
  cases rr
  obtain ⟨t, rfl⟩ := r
  exact call_range_1 (Zbf I1 (by omega) (by omega) q1 q2 (by simpa using q))
theorem ZaB {a b : Expr} {ta : TA} {p pos : Pos} (hg : Gl X "range") (hm : X.mg "range" = none) (ha : PA X [a, b] ta) (hs : starEach [a, b] X.env = [(false, eval a X.env), (false, eval b X.env)] := by rfl) (hs2 : starEach [b] X.env = [(false, eval b X.env)] := by rfl) :
 PI X tg (.Call (.Name "range" p) [a, b] [] pos) (ZeF ta) := by
 intro pins s σ H R I h
 refine Call_ (YX I hg hm boot_range (PyProof.Rows.callWith_type1 (thn (ha pos pins s σ H _ I h) fun us s1 ⟨vs, H1, I1, r1, q1⟩ => ?_) (by rw [hs, hs2]) (by rw [hs2]; rfl)))
 obtain ⟨i, j, e, ⟨q1, q2, q3, q4⟩, q⟩ := q1
 subst e
 cases r1 with
 | cons r rr =>
  cases rr with
  | cons r' rr =>
   cases rr
   obtain ⟨t, rfl⟩ := r
   obtain ⟨t', rfl⟩ := r'
   exact call_range_2 (Zbf I1 q1 q2 q3 q4 q)
def ZgR (wi : TI) (g : TG) (tb : TS) : TS := fun D σ H => wi σ H fun J H1 => ∃ W : Nat -> Nat -> St -> Hp -> Prop, (∃ m, W 0 m σ H1) /\ ∀ i m σ H, W i m σ H ->
 (J.stop i H /\ D.nx σ H) \/ (J.go i H /\ ∃ N : St -> Hp -> Prop, (∀ σ' H', N σ' H' -> ∃ m', m' < m /\ W (i + 1) m' σ' H') /\ ∀ x H', J.yld i H x H' -> g x σ H' fun σ2 H2 => tb { D with nx := N, ct := N, bk := D.nx } σ2 H2)
def Y7 (fp : List Addr) (h : Heap) : List (Addr × Obj) := fp.filterMap fun b => (h.get? b).map fun o => (b, o)
theorem U3 {fp : List Addr} {h : Heap} {b : Addr} {o : Obj} (hb : b ∈ fp) (e : h.get? b = some o) : (b, o) ∈ Y7 fp h := List.mem_filterMap.mpr ⟨b, hb, by rw [e]; rfl⟩
theorem ZaC {fp : List Addr} {h : Heap} {p : Addr × Obj} (hp : p ∈ Y7 fp h) : p.1 ∈ fp /\ h.get? p.1 = some p.2 := by
 obtain ⟨b, hb, e⟩ := List.mem_filterMap.mp hp
 cases q : h.get? b with
 | none => rw [q] at e; cases e
 | some o =>
  rw [q] at e
  have e' : (b, o) = p := Option.some.inj e
  subst e'
  exact ⟨hb, q⟩
theorem Inv.pinned {pins : List (Addr × Obj)} {σ : St} {H : Hp} {s : Shared} {fp : List Addr} (I : Inv X pins σ H s) (hf : ∀ b ∈ fp, Yt X pins H b) (ho : ∀ b ∈ fp, ∃ o, s.heap.get? b = some o /\ ∀ v, o.data ≠ .cell v) : Inv X (pins ++ Y7 fp s.heap) σ H s :=
 I.pins_of fun p hp => (List.mem_append.mp hp).elim (fun z => I.pin p (List.mem_append_right _ z)) fun z => by
  obtain ⟨hb, e⟩ := ZaC z
  obtain ⟨f0, f1, f2, _⟩ := hf p.1 hb
  obtain ⟨o, e', d⟩ := ho p.1 hb
  rw [e] at e'; cases e'
  exact ⟨e, f0, f1, f2, d⟩
theorem Inv.unpinned {pins pl : List (Addr × Obj)} {σ : St} {H : Hp} {s : Shared} (I : Inv X (pins ++ pl) σ H s) : Inv X pins σ H s := I.pins_of fun p hp => I.pin p (List.mem_append_right _ (List.mem_append_left _ hp))
theorem YY {iter : Expr} {body : List Stmt} {wi : TI} {g : TG} {tb : TS} {pos : Pos} (hp : PassesOwn (model X.prog X.w) X.A X.env X.xe) (hc : X.calm = true) (hi : PI X tg iter wi) (hg : PG X tg g) (hb : PSs X body tb)
 (hs : ∀ x, foldedSetIterable iter X.env x = pure x := by intro _; rfl) : PS X (.For tg iter body [] pos) (ZgR wi g tb) := by
 intro pins s σ H D I h
 refine wpAny_For (thn (hi pins s σ H _ I h) fun v s1 h1 => thn h1 fun itv s2 h2 => ?_) hs
 obtain ⟨it, fp, tn, J, H2, e, I2, T, st2, f2, W, ⟨m0, w0⟩, turn⟩ := h2
 subst e
 have stat : ∀ {H' : Hp}, (∀ b ∈ fp, H' b = none) -> ∀ b ∈ fp, Yt X pins H' b := fun hn b hb => ⟨hn b hb, (f2 b hb).2⟩
 refine codeAny_forLoop_any (fun n s' => ∃ i σ' H', Inv X pins σ' H' s' /\ tn i s'.heap /\ (∀ b ∈ fp, H' b = none) /\ W i n σ' H') ?_ m0 ⟨0, σ, H2, I2, st2, fun b hb => (f2 b hb).1, w0⟩
 rintro n s3 ⟨i, σ3, H3, I3, st3, fr3, w3⟩
 rcases turn i n σ3 H3 w3 with ⟨stop, qn⟩ | ⟨go, N, hN, step⟩
 · refine wpAny_passesOwn hp (thn (T.done X rfl rfl rfl hc i pins s3 σ3 H3 X.xe I3 (stat fr3) st3 stop) fun r s4 ⟨hr, I4⟩ => ?_)
   subst hr
   exact wpAny_execs_nil ⟨σ3, H3, I4, qn⟩
 · refine wpAny_passesOwn hp (thn (T.item X rfl rfl rfl hc i pins s3 σ3 H3 X.xe I3 (stat fr3) st3 go) fun r s4 ⟨u, hr, h4⟩ => ?_)
   subst hr
   refine wpAny_passesOwn hp (thn h4 fun _ s5 ⟨x, H5, I5, r5, y5, st5, fr5⟩ => ?_)
   have I5' := I5.pinned (stat fr5) (T.obj _ _ st5)
   refine wpAny_passesOwn hp (thn (hg _ s5 σ3 H5 x u _ I5' r5 (step x H5 y5)) fun _ s6 ⟨σ6, H6, I6, q6⟩ => ?_)
   refine wpAny_passesOwn hp (thn (hb _ s6 σ6 H6 _ I6 q6) fun f s7 q7 => ?_)
   have again : ∀ {σ7 : St} {H7 : Hp}, Inv X (pins ++ Y7 fp s5.heap) σ7 H7 s7 -> N σ7 H7 -> ∃ m, m < n /\ ∃ i σ' H', Inv X pins σ' H' s7 /\ tn i s7.heap /\ (∀ b ∈ fp, H' b = none) /\ W i m σ' H' := fun {σ7 H7} I7 n7 => by
    obtain ⟨m', hm, w7⟩ := hN σ7 H7 n7
    refine ⟨m', hm, i + 1, σ7, H7, I7.unpinned, T.keep _ _ _ st5 fun b hb o e => (I7.pin (b, o) (List.mem_append_right _ (List.mem_append_right _ (U3 hb e)))).1, fun b hb => ?_, w7⟩
    obtain ⟨o, e, d⟩ := T.obj _ _ st5 b hb
    exact (I7.pin (b, o) (List.mem_append_right _ (List.mem_append_right _ (U3 hb e)))).2.1
   cases f with
   | next => obtain ⟨σ7, H7, I7, n7⟩ := q7; exact again I7 n7
   | cont => obtain ⟨σ7, H7, I7, n7⟩ := q7; exact again I7 n7
   | brk => obtain ⟨σ7, H7, I7, q7⟩ := q7; exact ⟨σ7, H7, I7.unpinned, q7⟩
   | ret v => obtain ⟨x7, σ7, H7, I7, r7, q7⟩ := q7; exact ⟨x7, σ7, H7, I7.unpinned, r7, q7⟩
end
end L2
namespace L2
open PySem PySem.Spec PyProof.Rows
abbrev R2 := V -> V -> Hp -> VK -> Prop
def OpR (X : Cx) (f : Value -> Value -> Sem Value) (r : R2) : Prop :=
 ∀ (pins : List (Addr × Obj)) (s : Shared) (σ : St) (H : Hp) (x y : V) (v u : Value) (Q : VK), Inv X pins σ H s -> RelV x v -> RelV y u -> r x y H Q ->
  wpAny (model X.prog X.w) X.A (f v u) (EP X pins σ Q) X.xe s
def UnR (X : Cx) (f : Value -> Sem Value) (r : V -> Hp -> VK -> Prop) : Prop :=
 ∀ (pins : List (Addr × Obj)) (s : Shared) (σ : St) (H : Hp) (x : V) (v : Value) (Q : VK), Inv X pins σ H s -> RelV x v -> r x H Q ->
  wpAny (model X.prog X.w) X.A (f v) (EP X pins σ Q) X.xe s
def Ye (X : Cx) (f : Value) (r : List V -> Hp -> VK -> Prop) : Prop :=
 ∀ (pins : List (Addr × Obj)) (s : Shared) (σ : St) (H : Hp) (xs : List V) (us : List Value) (Q : VK), Inv X pins σ H s -> Vals xs us -> r xs H Q ->
  wpAny (model X.prog X.w) X.A (call f us) (EP X pins σ Q) X.xe s
def tOp (r : R2) (ta tb : TE) : TE := fun σ H Q => ta σ H fun x H1 => tb σ H1 fun y H2 => r x y H2 Q
def tUn (r : V -> Hp -> VK -> Prop) (ta : TE) : TE := fun σ H Q => ta σ H fun x H1 => r x H1 Q
def rI (C : Int -> Int -> Prop) (g : Int -> Int -> V) : R2 := fun x y H Q => ∃ i j, x = .int i /\ y = .int j /\ C i j /\ Q (g i j) H
def rI0 (g : Int -> Int -> V) : R2 := fun x y H Q => ∃ i j, x = .int i /\ y = .int j /\ Q (g i j) H
def rU (g : Int -> V) : V -> Hp -> VK -> Prop := fun x H Q => ∃ i, x = .int i /\ Q (g i) H
section
variable {X : Cx} {a b c : Expr} {ta tb tc : TE} {pos : Pos}
theorem Jb (ha : PE X a ta) (hb : PE X b tb) {pins : List (Addr × Obj)} {s : Shared} {σ : St} {H : Hp} {R : V -> V -> Hp -> Prop} (I : Inv X pins σ H s)
 (h : ta σ H fun x H1 => tb σ H1 fun y H2 => R x y H2) {Q : Value -> Shared -> Prop} {f : Value -> Value -> Sem Value}
 (hf : ∀ v u s2 x y H2, Inv X pins σ H2 s2 -> RelV x v -> RelV y u -> R x y H2 -> wpAny (model X.prog X.w) X.A (f v u) Q X.xe s2) :
 wpAny (model X.prog X.w) X.A (eval a X.env) (fun v s₁ => wpAny (model X.prog X.w) X.A (eval b X.env) (fun u s₂ => wpAny (model X.prog X.w) X.A (f v u) Q X.xe s₂) X.xe s₁) X.xe s := by
 refine thn (ha pins s σ H _ I h) fun v s1 ⟨x, H1, I1, r1, q1⟩ => ?_
 refine thn (hb pins s1 σ H1 _ I1 q1) fun u s2 ⟨y, H2, I2, r2, q2⟩ => ?_
 exact hf v u s2 x y H2 I2 r1 r2 q2
theorem Zw {op : Operator} {r : R2} (ho : OpR X (binaryOp op) r) (ha : PE X a ta) (hb : PE X b tb) : PE X (.BinOp a op b pos) (tOp r ta tb) := by
 intro pins s σ H Q I h
 exact wpAny_BinOp (Jb ha hb I h fun v u s2 x y H2 I2 rx ry q => ho pins s2 σ H2 x y v u Q I2 rx ry q)
theorem ZeG {op : UnaryOp} {r : V -> Hp -> VK -> Prop} (ho : UnR X (unaryOp op) r) (ha : PE X a ta) : PE X (.UnaryOp op a pos) (tUn r ta) := by
 intro pins s σ H Q I h
 exact UnaryOp_ (thn (ha pins s σ H _ I h) fun v s1 ⟨x, H1, I1, r1, q1⟩ => ho pins s1 σ H1 x v Q I1 r1 q1)
theorem opI {f : Value -> Value -> Sem Value} {C : Int -> Int -> Prop} {g : Int -> Int -> Int}
 (rule : ∀ (i j : Int) (t u : Tok) (s : Shared) (Q : Value -> Shared -> Prop) (E : Value -> Shared -> Prop), C i j -> Q (.int (g i j) s.toks) { s with toks := s.toks + 1 } -> wpAny (model X.prog X.w) X.A (f (.int i t) (.int j u)) Q E s) :
 OpR X f (rI C fun i j => .int (g i j)) := by
 intro pins s σ H x y v u Q I rx ry h
 obtain ⟨i, j, rfl, rfl, hc, q⟩ := h
 obtain ⟨t, rfl⟩ := rx
 obtain ⟨t', rfl⟩ := ry
 exact rule i j t t' s _ _ hc ⟨.int (g i j), H, I.tok _, ⟨_, rfl⟩, q⟩
theorem ZgS {f : Value -> Value -> Sem Value} {g : Int -> Int -> Int}
 (rule : ∀ (i j : Int) (t u : Tok) (s : Shared) (Q : Value -> Shared -> Prop) (E : Value -> Shared -> Prop), Q (.int (g i j) s.toks) { s with toks := s.toks + 1 } -> wpAny (model X.prog X.w) X.A (f (.int i t) (.int j u)) Q E s) :
 OpR X f (rI0 fun i j => .int (g i j)) := by
 intro pins s σ H x y v u Q I rx ry h
 obtain ⟨i, j, rfl, rfl, q⟩ := h
 obtain ⟨t, rfl⟩ := rx
 obtain ⟨t', rfl⟩ := ry
 exact rule i j t t' s _ _ ⟨.int (g i j), H, I.tok _, ⟨_, rfl⟩, q⟩
theorem Jc {f : Value -> Value -> Sem Value} {g : Int -> Int -> Bool}
 (rule : ∀ (i j : Int) (t u : Tok) (s : Shared) (Q : Value -> Shared -> Prop) (E : Value -> Shared -> Prop), Q (.bool (g i j)) s -> wpAny (model X.prog X.w) X.A (f (.int i t) (.int j u)) Q E s) :
 OpR X f (rI0 fun i j => .bl (g i j)) := by
 intro pins s σ H x y v u Q I rx ry h
 obtain ⟨i, j, rfl, rfl, q⟩ := h
 obtain ⟨t, rfl⟩ := rx
 obtain ⟨t', rfl⟩ := ry
 exact rule i j t t' s _ _ ⟨.bl (g i j), H, I, rfl, q⟩
def XL (i j : Int) : Prop := 0 < j /\ j < 1073741824
def Vc (i j : Int) : Prop := 0 <= j /\ j <= 1000000 /\ i.natAbs < 2 ^ 64
def CMul (i j : Int) : Prop := (-(2 ^ 64) < i /\ i < 2 ^ 64) \/ (-(2 ^ 64) < j /\ j < 2 ^ 64)
theorem CMul.ok {i j : Int} (h : CMul i j) : IntMulOk i j := by
 rcases h with ⟨h1, h2⟩ | ⟨h1, h2⟩
 · exact .of_left (intBits_le_64 h1 h2)
 · exact .of_right (intBits_le_64 h1 h2)
theorem op_add : OpR X (binaryOp .Add) (rI0 fun i j => .int (i + j)) := ZgS fun _ _ _ _ _ _ _ q => add_int q
theorem Vu : OpR X (binaryOp .Sub) (rI0 fun i j => .int (i - j)) := ZgS fun _ _ _ _ _ _ _ q => sub_int q
theorem Xs : OpR X (binaryOp .Mod) (rI (fun _ j => j ≠ 0) fun i j => .int (i.fmod j)) := opI fun _ _ _ _ _ _ _ hc q => mod_int' hc q
theorem Ze9 : OpR X (binaryOp .Pow) (rI Vc fun i j => .int (i ^ j.toNat)) := opI fun _ _ _ _ _ _ _ hc q => pow_int_small hc.1 hc.2.1 hc.2.2 q
theorem unI {f : Value -> Sem Value} {g : Int -> Int}
 (rule : ∀ (i : Int) (t : Tok) (s : Shared) (Q : Value -> Shared -> Prop) (E : Value -> Shared -> Prop), Q (.int (g i) s.toks) { s with toks := s.toks + 1 } -> wpAny (model X.prog X.w) X.A (f (.int i t)) Q E s) :
 UnR X f (rU fun i => .int (g i)) := by
 intro pins s σ H x v Q I rx h
 obtain ⟨i, rfl, q⟩ := h
 obtain ⟨t, rfl⟩ := rx
 exact rule i t s _ _ ⟨.int (g i), H, I.tok _, ⟨_, rfl⟩, q⟩
theorem Zdy : UnR X (unaryOp .USub) (rU fun i => .int (-i)) := unI fun _ _ _ _ _ q => neg_int q
end
def Y8 : V -> V -> Bool
 | .non, .non => true | .non, .int _ => true | .int _, .non => true | .non, .bl _ => true | .bl _, .non => true | .non, .str _ => true | .str _, .non => true
 | .int _, .int _ => true | .bl _, .bl _ => true | .str _, .str _ => true | .byt _, .byt _ => true
 | .int _, .str _ => true | .str _, .int _ => true | .bl _, .str _ => true | .str _, .bl _ => true
 | _, _ => false
def rEq : R2 := fun x y H Q => Y8 x y = true /\ Q (.bl (decide (x = y))) H
def rNe : R2 := fun x y H Q => Y8 x y = true /\ Q (.bl (!decide (x = y))) H
theorem ZbU {i j : Int} : decide (V.int i = V.int j) = (i == j) := by
 rw [Bool.eq_iff_iff]
 simp
theorem Zdz {i j : Bool} : decide (V.bl i = V.bl j) = (i == j) := by
 rw [Bool.eq_iff_iff]
 simp
theorem ZbV {i j : Str} : decide (V.str i = V.str j) = (i == j) := by
 rw [Bool.eq_iff_iff]
 simp
theorem ZbW {i j : Array UInt8} : decide (V.byt i = V.byt j) = (i.toList == j.toList) := by
 rw [Bool.eq_iff_iff]
 cases i
 cases j
 simp
section
variable {X : Cx} {a b c : Expr} {ta tb tc : TE} {pos : Pos}
theorem ZM {pins : List (Addr × Obj)} {σ : St} {H : Hp} {s : Shared} {Q : VK} {k k' : Bool} (I : Inv X pins σ H s) (q : Q (.bl k) H) (e : k = k') : EP X pins σ Q (.bool k') s := by
 subst e
 exact ⟨.bl k, H, I, rfl, q⟩
theorem ZfD : OpR X (compareOp .Eq) rEq := by
 intro pins s σ H x y v u Q I rx ry h
 obtain ⟨hs, q⟩ := h
 cases x with
 | non =>
  cases rx
  cases y with
  | non => cases ry; exact PySem.EqNone.eq_none_none (ZM I q (by simp))
  | bl j => cases ry; exact PySem.EqNone.eq_none_bool (ZM I q (by simp))
  | int j => obtain ⟨t', rfl⟩ := ry; exact PySem.EqNone.eq_none_int (ZM I q (by simp))
  | str j => obtain ⟨t', rfl⟩ := ry; exact PySem.EqNone.eq_none_str (ZM I q (by simp))
  | _ => exact absurd (show false = true from hs) Bool.false_ne_true
 | bl i =>
  cases rx
  cases y with
  | non => cases ry; exact PySem.EqNone.eq_bool_none (ZM I q (by simp))
  | bl j => cases ry; exact eq_bool (ZM I q Zdz)
  | str j => obtain ⟨t', rfl⟩ := ry; exact PySem.EqMixed.eq_bool_str (ZM I q (by simp))
  | _ => exact absurd (show false = true from hs) Bool.false_ne_true
 | int i =>
  obtain ⟨t, rfl⟩ := rx
  cases y with
  | non => cases ry; exact PySem.EqNone.eq_int_none (ZM I q (by simp))
  | int j => obtain ⟨t', rfl⟩ := ry; exact eq_int (ZM I q ZbU)
  | str j => obtain ⟨t', rfl⟩ := ry; exact PySem.EqMixed.eq_int_str (ZM I q (by simp))
  | _ => exact absurd (show false = true from hs) Bool.false_ne_true
 | str i =>
  obtain ⟨t, rfl⟩ := rx
  cases y with
  | non => cases ry; exact PySem.EqNone.eq_str_none (ZM I q (by simp))
  | bl j => cases ry; exact PySem.EqMixed.eq_str_bool (ZM I q (by simp))
  | int j => obtain ⟨t', rfl⟩ := ry; exact PySem.EqMixed.eq_str_int (ZM I q (by simp))
  | str j => obtain ⟨t', rfl⟩ := ry; exact eq_str (ZM I q ZbV)
  | _ => exact absurd (show false = true from hs) Bool.false_ne_true
 | byt i =>
  obtain ⟨t, rfl⟩ := rx
  cases y with
  | byt j => obtain ⟨t', rfl⟩ := ry; exact PySem.W.eq_bytes (ZM I q ZbW)
  | _ => exact absurd (show false = true from hs) Bool.false_ne_true
 | _ => cases y <;> exact absurd (show false = true from hs) Bool.false_ne_true
theorem ZfE : OpR X (compareOp .NotEq) rNe := by
 intro pins s σ H x y v u Q I rx ry h
 obtain ⟨hs, q⟩ := h
 cases x with
 | non =>
  cases rx
  cases y with
  | non => cases ry; exact PySem.EqNone.ne_none_none (ZM I q (by simp))
  | bl j => cases ry; exact PySem.EqNone.ne_none_bool (ZM I q (by simp))
  | int j => obtain ⟨t', rfl⟩ := ry; exact PySem.EqNone.ne_none_int (ZM I q (by simp))
  | str j => obtain ⟨t', rfl⟩ := ry; exact PySem.EqNone.ne_none_str (ZM I q (by simp))
  | _ => exact absurd (show false = true from hs) Bool.false_ne_true
 | bl i =>
  cases rx
  cases y with
  | non => cases ry; exact PySem.EqNone.ne_bool_none (ZM I q (by simp))
  | bl j => cases ry; exact ne_bool (ZM I q (congrArg not Zdz))
  | str j => obtain ⟨t', rfl⟩ := ry; exact PySem.EqMixed.ne_bool_str (ZM I q (by simp))
  | _ => exact absurd (show false = true from hs) Bool.false_ne_true
 | int i =>
  obtain ⟨t, rfl⟩ := rx
  cases y with
  | non => cases ry; exact PySem.EqNone.ne_int_none (ZM I q (by simp))
  | int j => obtain ⟨t', rfl⟩ := ry; exact ne_int (ZM I q (congrArg not ZbU))
  | str j => obtain ⟨t', rfl⟩ := ry; exact PySem.EqMixed.ne_int_str (ZM I q (by simp))
  | _ => exact absurd (show false = true from hs) Bool.false_ne_true
 | str i =>
  obtain ⟨t, rfl⟩ := rx
  cases y with
  | non => cases ry; exact PySem.EqNone.ne_str_none (ZM I q (by simp))
  | bl j => cases ry; exact PySem.EqMixed.ne_str_bool (ZM I q (by simp))
  | int j => obtain ⟨t', rfl⟩ := ry; exact PySem.EqMixed.ne_str_int (ZM I q (by simp))
  | str j => obtain ⟨t', rfl⟩ := ry; exact ne_str (ZM I q (congrArg not ZbV))
  | _ => exact absurd (show false = true from hs) Bool.false_ne_true
 | byt i =>
  obtain ⟨t, rfl⟩ := rx
  cases y with
  | byt j => obtain ⟨t', rfl⟩ := ry; exact PySem.W.ne_bytes (ZM I q (congrArg not ZbW))
  | _ => exact absurd (show false = true from hs) Bool.false_ne_true
 | _ => cases y <;> exact absurd (show false = true from hs) Bool.false_ne_true
theorem ZeH : OpR X (compareOp .Lt) (rI0 fun i j => .bl (decide (i < j))) := Jc fun _ _ _ _ _ _ _ q => lt_int q
theorem Jd : OpR X (compareOp .LtE) (rI0 fun i j => .bl (decide (i <= j))) := Jc fun _ _ _ _ _ _ _ q => le_int q
theorem ZeI : OpR X (compareOp .Gt) (rI0 fun i j => .bl (decide (j < i))) := Jc fun _ _ _ _ _ _ _ q => gt_int q
theorem OpR.or {f : Value -> Value -> Sem Value} {r r' : R2} (h : OpR X f r) (h' : OpR X f r') : OpR X f (fun x y H Q => r x y H Q \/ r' x y H Q) := by
 intro pins s σ H x y v u Q I rx ry q
 rcases q with q | q
 · exact h pins s σ H x y v u Q I rx ry q
 · exact h' pins s σ H x y v u Q I rx ry q
theorem Z2 (b : Expr) {op : CmpOp} (h : op ≠ .In := by decide) (h2 : op ≠ .NotIn := by decide) : behindInMarks op b = false := by
 have e1 : (op == CmpOp.In) = false := by cases op <;> first | rfl | exact absurd rfl h
 have e2 : (op == CmpOp.NotIn) = false := by cases op <;> first | rfl | exact absurd rfl h2
 cases b <;> simp [behindInMarks, e1, e2]
theorem Vv {op : CmpOp} {r : R2} (ho : OpR X (compareOp op) r) (ha : PE X a ta) (hb : PE X b tb) (hm : behindInMarks op b = false) : PE X (.Compare a [op] [b] pos) (tOp r ta tb) := by
 intro pins s σ H Q I h
 exact wpAny_Compare1 (Jb ha hb I h fun v u s2 x y H2 I2 rx ry q => ho pins s2 σ H2 x y v u Q I2 rx ry q) hm
def ZeJ (t : TE) : TT := fun σ H Q => t σ H fun x H' => ∃ k, x = .bl k /\ Q k H'
theorem Yo {op : CmpOp} {r : R2} (ho : OpR X (compareOp op) r) (ha : PE X a ta) (hb : PE X b tb) (hm : behindInMarks op b = false) : PT X (.Compare a [op] [b] pos) (ZeJ (tOp r ta tb)) := by
 intro pins s σ H Q I h
 refine wpAny_isTrue_Compare1 (thn (ha pins s σ H _ I h) fun v s1 ⟨x, H1, I1, r1, q1⟩ => thn (hb pins s1 σ H1 _ I1 q1) fun u s2 ⟨y, H2, I2, r2, q2⟩ =>
  thn (ho pins s2 σ H2 x y v u _ I2 r1 r2 q2) fun c s3 ⟨z, H3, I3, r3, k, e, q3⟩ => ?_) hm
 subst e
 cases r3
 exact wpAny_truthy_bool ⟨H3, I3, q3⟩
theorem Vw : (sizeLine : Nat) < 2 ^ 63 := by rw [sizeLine_eq]; decide
theorem ZbA : OpR X (binaryOp .Add) (fun x y H Q => ∃ i j, x = .str i /\ y = .str j /\ i.length + j.length <= sizeLine /\ Q (.str (i ++ j)) H) := by
 intro pins s σ H x y v u Q I rx ry h
 obtain ⟨i, j, rfl, rfl, hz, q⟩ := h
 obtain ⟨t, rfl⟩ := rx
 obtain ⟨t', rfl⟩ := ry
 exact add_str (fun t' tk => ⟨.str (i ++ j), H, I.tok _, ⟨_, rfl⟩, q⟩) hz
theorem YL {x : V} {us : List Value} (r : Vals [x] us) : ∃ u, us = [u] /\ RelV x u := by
 cases r with
 | cons r1 r2 => cases r2; exact ⟨_, rfl, r1⟩
theorem ZeK {x y : V} {us : List Value} (r : Vals [x, y] us) : ∃ u w', us = [u, w'] /\ RelV x u /\ RelV y w' := by
 cases r with
 | cons r1 r2 =>
  cases r2 with
  | cons r3 r4 => cases r4; exact ⟨_, _, rfl, r1, r3⟩
theorem Zcs : Ye X (.type "int") (fun xs H Q => (∃ i, xs = [.int i] /\ Q (.int i) H) \/ ∃ k, xs = [.bl k] /\ Q (.int (if k then 1 else 0)) H) := by
 intro pins s σ H xs us Q I r h
 rcases h with ⟨i, rfl, q⟩ | ⟨k, rfl, q⟩
 · obtain ⟨u, rfl, t, rfl⟩ := YL r
   exact call_int_int ⟨.int i, H, I, ⟨_, rfl⟩, q⟩
 · obtain ⟨u, rfl, r1⟩ := YL r
   cases r1
   exact call_int_bool ⟨.int (if k then 1 else 0), H, I.tok _, ⟨_, rfl⟩, q⟩
end
end L2
namespace L2
open PySem PySem.Spec PyProof.Rows
structure ObjM (h : Heap) (x dx C : Addr) (mA : Str -> Option Value) : Prop where
 obj : h.get? x = some (PySem.W.instObj C dx)
 ns : h.Ns1 dx mA
 ne : dx ≠ x
theorem Zct {h : Heap} {dx : Addr} {mA : Str -> Option Value} (n : h.Ns1 dx mA) : ∃ od, h.get? dx = some od /\ ∀ name, PySem.W.lookIn name od = some (mA name) := by
 obtain ⟨o, es, ep, ho, hd, hk, _, hm⟩ := n
 refine ⟨o, ho, fun name => ?_⟩
 have e := hm name
 unfold nsFind findBy at e
 rw [<- Array.find?_toList] at e
 unfold PySem.W.lookIn
 rw [hd]
 dsimp only
 split
 · rename_i y q
   rw [q] at e
   exact congrArg some e
 · rename_i q
   rw [q] at e
   have a : es.toList.any (·.refKey) = false := by
    rw [List.any_eq_false]
    intro y hy
    obtain ⟨z, t, hkey⟩ := hk y (Array.mem_toList_iff.mp hy)
    simp [DictEntry.refKey, hkey]
   have a' : ¬ es.toList.any (·.refKey) = true := by rw [a]; exact Bool.false_ne_true
   rw [if_neg a']
   exact congrArg some e
theorem ObjM.look {h : Heap} {x dx C : Addr} {mA : Str -> Option Value} (I : ObjM h x dx C mA) : ∃ od, PySem.W.InstAt h x (PySem.W.instObj C dx) C (some od) /\ ∀ name, PySem.W.lookIn name od = some (mA name) :=
 let ⟨od, ho, hl⟩ := Zct I.ns
 ⟨od, ⟨I.obj, rfl, rfl, ho⟩, hl⟩
section
variable {prog : Program} {w : World} {A : Around} {E : Value -> Shared -> Prop} {s : Shared} {K : PySem.W.Frag} {x dx C f : Addr} {mA : Str -> Option Value} {name : Str} {v : Value}
end
section
variable {P : Program} {w : World} {H H' : Hp} {h h' : Heap} {a C dx : Addr} {fs fs' : List (Str × V)}
theorem Zd2 (hok : HOk P w H h) (e : H a = some (.ins C dx fs)) : ∃ mA, ObjM h a dx C mA /\ (∀ f, RelO (fs.lookup f) (mA f)) /\ PySem.Within mA (fs.map (·.1)) /\ fs.length <= 1000 /\ H dx = some (.own a) := by
 obtain ⟨d, z, ne, ob, mA, n, r, q⟩ := (show ObjOk P w H h a (.ins C dx fs) from hok a _ e)
 exact ⟨mA, ⟨ob, n, ne⟩, r, q, z, d⟩
end
structure Cls (K : PySem.W.Frag) (C : Addr) : Prop where
 pg : PySem.W.plainGet K C Str.empty = true
 hd : PySem.W.hasDictIn K C = true
 po : PySem.W.plainOver K C = true
 sa : PySem.W.findIn K (.ref C) "__setattr__" = some (some (.builtin "object.__setattr__"))
theorem Cls.get {K : PySem.W.Frag} {C : Addr} (c : Cls K C) (f : Str) : PySem.W.plainGet K C f = true := c.pg
structure Con (K : PySem.W.Frag) (C : Addr) (f : Str) (v : V) (u : Value) : Prop where
 at_ : PySem.W.findIn K (.ref C) f = some (some u)
 rel : RelV v u
 get : PySem.W.specialIn K u "__get__" = some none
 cp : PySem.W.copiedNames.contains f = false
structure Meth (K : PySem.W.Frag) (C : Addr) (m : Str) (f : Addr) : Prop where
 at_ : PySem.W.findIn K (.ref C) m = some (some (.ref f))
 fn : PySem.W.isFn K (.ref f) = true
 kp : PySem.W.keepIn K (.ref f) = true
section
variable {X : Cx} {pins : List (Addr × Obj)} {σ : St} {H : Hp} {s : Shared} {a C dx : Addr} {fs : List (Str × V)} {f : Str} {v : V} {A : Around} {E : Value -> Shared -> Prop}
end
section
variable {X : Cx} {o e value : Expr} {f : Str} {pos pos' tpos : Pos} {ta tv : TE}
end
section
variable {X : Cx} {pins : List (Addr × Obj)} {σ : St} {H : Hp} {s : Shared} {A : Around} {E : Value -> Shared -> Prop} {Q : Value -> Shared -> Prop} {c : Value} {b : Bool}
inductive TyOf (K : PySem.W.Frag) (H : Hp) : V -> Value -> Prop where
 | non : TyOf K H .non (.type "NoneType")
 | bl (x : Bool) : TyOf K H (.bl x) (.type "bool")
 | int (i : Int) : TyOf K H (.int i) (.type "int")
 | str (x : Str) : TyOf K H (.str x) (.type "str")
 | flt (x : UInt64) : TyOf K H (.flt x) (.type "float")
 | lst {a : Addr} {xs : List V} (e : H a = some (.lst xs)) : TyOf K H (.ref a) (.type "list")
 | frz {a : Addr} {o : Obj} {xs : List V} (e : H a = some (.frz o (.lst xs))) : TyOf K H (.ref a) (.type "list")
 | tup {a : Addr} {xs : List V} (e : H a = some (.tup xs)) : TyOf K H (.ref a) (.type "tuple")
 | dK {a : Addr} {kvs : List (Key × V)} (e : H a = some (.dK kvs)) : TyOf K H (.ref a) (.type "dict")
 | dT {a : Addr} {kvs : List (List Key × V)} (e : H a = some (.dT kvs)) : TyOf K H (.ref a) (.type "dict")
 | ins {a C dx : Addr} {fs : List (Str × V)} (e : H a = some (.ins C dx fs)) (cl : Cls K C) (ha : PySem.W.findIn K (.ref C) "__class__" = some (some (.builtin "object.__class__")))
  (hn : PySem.W.specialIn K (.builtin "object.__class__") "__get__" = some (some (.builtin "getset_descriptor.__get__"))) (htk : PySem.W.takesIn K (.builtin "object.__class__") = some true)
  (hm : PySem.W.mroIn K C (.type "object") = some true) : TyOf K H (.ref a) (.ref C)
theorem Zcu {x : V} {u t : Value} (I : Inv X pins σ H s) (rx : RelV x u) (ty : TyOf X.K H x t) (e : PySem.W.kitOne X.K t c = some b) (h : ∀ tk, Q (.bool b) { s with toks := tk }) :
 wpAny (model X.prog X.w) A (call (.builtin "isinstance") [u, c]) Q E s := by
 cases ty with
 | non => cases (show u = Value.none from rx); exact PySem.W.kia_one PySem.W.kitx_none I.kIn True.intro e (fun z => nomatch z) h
 | bl y => cases (show u = Value.bool y from rx); exact PySem.W.kia_one PySem.W.kitx_bool I.kIn True.intro e (fun z => nomatch z) h
 | int i => obtain ⟨t, q⟩ := (show ∃ t, u = Value.int i t from rx); cases q; exact PySem.W.kia_one PySem.W.kitx_int I.kIn True.intro e (fun z => nomatch z) h
 | str y => obtain ⟨t, q⟩ := (show ∃ t, u = Value.str y t from rx); cases q; exact PySem.W.kia_one PySem.W.kitx_str I.kIn True.intro e (fun z => nomatch z) h
 | flt y => obtain ⟨t, q⟩ := (show ∃ t, u = Value.float y t from rx); cases q; exact PySem.W.kia_one PySem.W.kitx_float I.kIn True.intro e (fun z => nomatch z) h
 | @lst a xs ea =>
  cases (show u = Value.ref a from rx)
  obtain ⟨_, _, n, _, h1⟩ := (show ObjOk X.prog X.w H s.heap a (.lst xs) from I.hok a _ ea)
  exact PySem.W.kia_one PySem.W.kitx_list I.kIn ⟨_, h1, rfl⟩ e (fun z => nomatch z) h
 | @frz a ob xs ea =>
  cases (show u = Value.ref a from rx)
  obtain ⟨_, _, _, n, _, h1⟩ := (show ObjOk X.prog X.w H s.heap a (.frz ob (.lst xs)) from I.hok a _ ea)
  exact PySem.W.kia_one PySem.W.kitx_list I.kIn ⟨_, h1, rfl⟩ e (fun z => nomatch z) h
 | @tup a xs ea =>
  cases (show u = Value.ref a from rx)
  obtain ⟨_, _, _, p⟩ := (show ObjOk X.prog X.w H s.heap a (.tup xs) from I.hok a _ ea)
  obtain ⟨o, h1, h2, _⟩ := p
  exact PySem.W.kia_one PySem.W.kitx_tuple I.kIn ⟨o, h1, h2⟩ e (fun z => nomatch z) h
 | @dK a kvs ea =>
  cases (show u = Value.ref a from rx)
  obtain ⟨_, _, vs, _, p⟩ := (show ObjOk X.prog X.w H s.heap a (.dK kvs) from I.hok a _ ea)
  obtain ⟨o, es, ep, h1, h2, _⟩ := p
  exact PySem.W.kia_one PySem.W.kitx_dict I.kIn ⟨o, h1, h2.1⟩ e (fun z => nomatch z) h
 | @dT a kvs ea =>
  cases (show u = Value.ref a from rx)
  obtain ⟨_, _, xs, _, o, es, ep, h1, h2, _⟩ := (show ObjOk X.prog X.w H s.heap a (.dT kvs) from I.hok a _ ea)
  exact PySem.W.kia_one PySem.W.kitx_dict I.kIn ⟨o, h1, h2.1⟩ e (fun z => nomatch z) h
 | @ins a C dx fs ea cl ha hn htk hm =>
  cases (show u = Value.ref a from rx)
  obtain ⟨mA, O, _⟩ := Zd2 I.hok ea
  obtain ⟨od, J, _⟩ := O.look
  exact PySem.W.kia_one (PySem.W.kitx_own (cl.get _) cl.hd ha hn htk hm) I.kIn J e (fun z => nomatch z) h
end
end L2
namespace L2
open PySem PySem.Spec PyProof.Rows
structure Room (k : Nat) (A : Around) : Prop where
 hd : A.handled = none
 dp : A.depth + 3 * k + 5 < recursionLimit
 un : A.units + 16 * k + 200 < cLine
theorem Room.mono {j k : Nat} {A : Around} (r : Room k A) (h : j <= k) : Room j A := ⟨r.hd, by have := r.dp; omega, by have := r.un; omega⟩
theorem Room.deeper {k : Nat} {A : Around} (r : Room (k + 1) A) (env : Env) : Room k (A.deeper env) :=
 ⟨r.hd, by have := r.dp; show A.depth + 1 + 3 * k + 5 < _; omega, by have := r.un; show A.units + 3 + 16 * k + 200 < _; omega⟩
theorem Room.depth {k : Nat} {A : Around} (r : Room k A) : A.depth < recursionLimit := by have := r.dp; omega
theorem Room.units {k : Nat} {A : Around} (r : Room k A) : A.units + 64 < cLine := by have := r.un; omega
def tNil : TA := fun _ H Q => Q [] H
def Yu (ta : TE) (tr : TA) : TA := fun σ H Q => ta σ H fun x H1 => tr σ H1 fun xs H2 => Q (x :: xs) H2
section
variable {X : Cx} {e : Expr} {es : List Expr} {te : TE} {t : TA} {pos : Pos}
theorem Zk : PA X [] tNil := fun _ _ _ _ H Q I h => Calls.spliced_nil ⟨[], H, I, .nil, h⟩
theorem Ze (ha : PE X e te) (hr : PA X es t) (hs : starEach (e :: es) X.env = (false, eval e X.env) :: starEach es X.env := by rfl) : PA X (e :: es) (Yu te t) := by
 intro pos pins s σ H Q I h
 rw [hs]
 show wpAny _ _ (spliced ((false, eval e X.env) :: backTo pos (starEach es X.env))) _ _ s
 refine Calls.spliced_cons (thn (ha pins s σ H _ I h) fun u s1 ⟨x, H1, I1, r1, q1⟩ => ?_)
 exact thn (hr pos pins s1 σ H1 _ I1 q1) fun us s2 ⟨xs, H2, I2, r2, q2⟩ => ⟨x :: xs, H2, I2, .cons r1 r2, q2⟩
def ZgT (t : TA) : TE := fun σ H Q => t σ H fun xs H1 => xs.length <= sizeLine /\ ∀ p, H1 p = none -> Q (.ref p) (upd H1 p (.tup xs))
def ZgU (t : TA) : TE := fun σ H Q => t σ H fun xs H1 => xs.length <= sizeLine /\ ∀ p, H1 p = none -> Q (.ref p) (upd H1 p (.lst xs))
theorem Zfa {x1} (h : PA X es t) : PE X (.Tuple es x1 pos) (ZgT t) := by
 intro pins s σ H Q I hq
 refine wpAny_Tuple_spliced (thn (h pos pins s σ H _ I hq) fun us s1 ⟨xs, H1, I1, r, z, q⟩ => ⟨by rw [<- r.length]; exact z, ?_⟩)
 have hf : H1 s1.heap.objs.size = none := I1.hok.fresh (Nat.le_refl _)
 refine ⟨.ref s1.heap.objs.size, upd H1 s1.heap.objs.size (.tup xs), I1.laid (t' := s1.toks) (fun b u e => Heap.get?_push_of_some _ e) (Nat.le_refl _) ?_, rfl, q _ hf⟩
 exact ⟨z, us, r, ⟨_, Heap.get?_push_size _ rfl, rfl, ⟨_, rfl⟩, rfl⟩⟩
theorem Y9 (h : PA X es t) : PE X (.List es pos) (ZgU t) := by
 intro pins s σ H Q I hq
 refine wpAny_List_spliced (thn (h pos pins s σ H _ I hq) fun us s1 ⟨xs, H1, I1, r, z, q⟩ => ⟨by rw [<- r.length]; exact z, ?_⟩)
 have hf : H1 s1.heap.objs.size = none := I1.hok.fresh (Nat.le_refl _)
 refine ⟨.ref s1.heap.objs.size, upd H1 s1.heap.objs.size (.lst xs), I1.laid (t' := s1.toks) (fun b u e => Heap.get?_push_of_some _ e) (Nat.le_refl _) ?_, rfl, q _ hf⟩
 exact ⟨z, us, 0, r, Heap.get?_push_size _ rfl⟩
end
abbrev Sp := List V -> Hp -> VK -> XK -> Prop
abbrev CXT := List Env -> Hp -> Shared -> XK -> Value -> Shared -> Prop
structure Env0 (P : Program) (w : World) (K : PySem.W.Frag) (mg : Str -> Option Value) (base : Heap) (A : Around) (outer : List Env) (s : Shared) (H : Hp) : Prop where
 frames : A.frames = some outer
 mod : Mod K mg base
 bs : ∀ b o, base.get? b = some o -> s.heap.get? b = some o /\ H b = none
 bsz : base.objs.size <= s.heap.objs.size
 funs : s.heap.FunFrames base outer
 frf : ∀ b ∈ frs outer, H b = none
 hok : HOk P w H s.heap
 bare : AllBare s.gens
def CE (outer : List Env) (P : Program) (w : World) (H : Hp) (s : Shared) (Q : VK) (u : Value) (s' : Shared) : Prop :=
 ∃ v H', s'.os = s.os /\ AllBare s'.gens /\ Un (frs outer) [] H H' s.heap s'.heap /\ HOk P w H' s'.heap /\ RelV v u /\ Q v H'
def CR (CX : CXT) (outer : List Env) (P : Program) (w : World) (H : Hp) (s : Shared) (Q : VK) (E : XK) (r : Result) (s' : Shared) : Prop :=
 match r with
 | .ok (.ret u) => CE outer P w H s Q u s'
 | .ok _ => False
 | .error e => CX outer H s E e s'
structure FnOk (P : Program) (w : World) (K : PySem.W.Frag) (mg : Str -> Option Value) (base : Heap) (CX : CXT) (k : Nat) (f : Addr) (fd : FuncData) (ps : List Str) (sp : Sp) : Prop where
 len : ∀ vs H Q E, sp vs H Q E -> vs.length = ps.length
 run : ∀ (A : Around) (outer : List Env) (s : Shared) (H : Hp) (args : Args) (us : List Value) (vs : List V) (Q : VK) (E : XK), Room k A -> Env0 P w K mg base A outer s H -> BindsTo s fd args (ps.zip us) -> Vals vs us -> sp vs H Q E ->
  codeAny (model P w) A (.call (.ref f) args) (CR CX outer P w H s Q E) s
theorem FnOk.mono {P : Program} {w : World} {K : PySem.W.Frag} {mg : Str -> Option Value} {base : Heap} {CX : CXT} {j k : Nat} {f : Addr} {fd : FuncData} {ps : List Str} {sp : Sp} (F : FnOk P w K mg base CX j f fd ps sp) (h : j <= k) :
 FnOk P w K mg base CX k f fd ps sp := ⟨F.len, fun A outer s H args us vs Q E hr => F.run A outer s H args us vs Q E (hr.mono h)⟩
theorem FnOk.imp {P : Program} {w : World} {K : PySem.W.Frag} {mg : Str -> Option Value} {base : Heap} {CX : CXT} {k : Nat} {f : Addr} {fd : FuncData} {ps : List Str} {sp sp' : Sp} (F : FnOk P w K mg base CX k f fd ps sp)
 (h : ∀ vs H Q E, sp' vs H Q E -> sp vs H Q E) : FnOk P w K mg base CX k f fd ps sp' :=
 ⟨fun vs H Q E q => F.len vs H Q E (h _ _ _ _ q), fun A outer s H args us vs Q E hr he hb hv hs => F.run A outer s H args us vs Q E hr he hb hv (h _ _ _ _ hs)⟩
section
variable {X : Cx} {pins : List (Addr × Obj)} {σ : St} {H : Hp} {s s' : Shared}
theorem Inv.env0 (I : Inv X pins σ H s) : Env0 X.prog X.w X.K X.mg X.base X.A X.stack s H :=
 ⟨I.ok.frames, I.ok.mod, I.bs, Nat.le_trans I.ok.bsz I.sz, I.stack, I.stkFree, I.hok, I.bare⟩
theorem Inv.after {Q : VK} {u : Value} (I : Inv X pins σ H s) (h : CE X.stack X.prog X.w H s Q u s') : EP X pins σ Q u s' := by
 obtain ⟨v, H', os, bare, un, hok, r, q⟩ := h
 obtain ⟨hh, g, d, t, os'⟩ := s'
 obtain rfl : os' = s.os := os
 exact ⟨v, H', I.call (h' := hh) (g' := g) (d' := d) (t' := t) (ch := []) un hok bare (fun b z => absurd z (by simp)), r, q⟩
end
def U4 (sp : Sp) (dvs : List V) (E : XK) (t : TA) : TE := fun σ H Q => t σ H fun vs H1 => sp (vs ++ dvs) H1 Q E
def Binds (K : PySem.W.Frag) (fd : FuncData) (ps : List Str) (ds : List Value) : Prop :=
 ∀ (s : Shared) (us : List Value), K.In s.heap -> (us ++ ds).length = ps.length -> BindsTo s fd ⟨us, []⟩ (ps.zip (us ++ ds))
theorem Binds.all {K : PySem.W.Frag} {fd : FuncData} {ps : List Str} (h : ∀ us : List Value, us.length = ps.length -> bindArgs fd ⟨us, []⟩ = pure (ps.zip us)) : Binds K fd ps [] := fun s us _ hl => by
 rw [List.append_nil] at hl ⊢
 exact .of_eq (h us hl)
def Je (CX : CXT) (X : Cx) (E : XK) : Prop := ∀ (pins : List (Addr × Obj)) (σ : St) (H : Hp) (s : Shared) (e : Value) (s' : Shared), Inv X pins σ H s -> CX X.stack H s E e s' -> X.xe e s'
section
variable {X : Cx} {CX : CXT} {k : Nat} {f C : Addr} {fd : FuncData} {ps : List Str} {sp : Sp} {dvs : List V} {ds : List Value} {E : XK} {x m : Str} {p pos apos : Pos} {e o : Expr} {es : List Expr} {ta : TE} {t : TA}
theorem Zfb {pins : List (Addr × Obj)} {σ : St} {H : Hp} {s : Shared} {Q : VK} {us : List Value} {vs : List V} (F : FnOk X.prog X.w X.K X.mg X.base CX k f fd ps sp) (hr : Room k X.A) (hb : Binds X.K fd ps ds) (hd : Vals dvs ds) (hx : Je CX X E)
 (I : Inv X pins σ H s) (r : Vals vs us) (h : sp (vs ++ dvs) H Q E) : wpAny (model X.prog X.w) X.A (call (.ref f) us) (EP X pins σ Q) X.xe s := by
 have r2 : Vals (vs ++ dvs) (us ++ ds) := r.append hd
 have hl : (us ++ ds).length = ps.length := by rw [<- r2.length]; exact F.len _ _ _ _ h
 refine wpAny_call (codeAny_mono (F.run X.A X.stack s H ⟨us, []⟩ (us ++ ds) (vs ++ dvs) Q E hr I.env0 (hb s us I.kIn hl) r2 h) fun r s' hq => ?_)
 cases r with
 | error e => exact hx pins σ H s e s' I hq
 | ok fl =>
  cases fl with
  | ret u => exact I.after hq
  | next => exact False.elim hq
  | brk => exact False.elim hq
  | cont => exact False.elim hq
theorem ZV (F : FnOk X.prog X.w X.K X.mg X.base CX k f fd ps sp) (hr : Room k X.A) (hg : Gl X x) (hm : X.mg x = some (.ref f)) (hk : PySem.W.keepIn X.K (.ref f) = true) (hb : Binds X.K fd ps ds) (hd : Vals dvs ds) (hx : Je CX X E)
 (ha : PA X (e :: es) t) (hdb : (x == ("__debug__" : Str)) = false := by decide) (he : starEach (e :: es) X.env = (false, eval e X.env) :: starEach es X.env := by rfl) (hpl : (backTo pos (starEach es X.env)).any (·.1) = false := by rfl) :
 PE X (.Call (.Name x p) (e :: es) [] pos) (U4 sp dvs E t) := by
 intro pins s σ H Q I h
 refine wpAny_Call_Name_kw (Zd1 I hg hm ?_ hdb)
 refine PySem.W.callWith_K (h₀ := X.base) I.ok.mod.kin hk (thn (ha pos pins s σ H _ I h) fun us s1 ⟨vs, H1, I1, r, q⟩ => ⟨I1.kIn, ?_⟩) he hpl
 exact Zfb F hr hb hd hx I1 r q
structure Mk (K : PySem.W.Frag) (C f : Addr) : Prop where
 makes : PySem.W.makesIn K C = true
 init : PySem.W.findIn K (.ref C) "__init__" = some (some (.ref f))
 fn : PySem.W.isFn K (.ref f) = true
 kp : PySem.W.keepIn K (.ref C) = true
end
section
variable {X : Cx} {CX : CXT} {k : Nat} {f C : Addr} {fd : FuncData} {ps ks : List Str} {sp : Sp} {E : XK} {x m : Str} {p pos apos kpos : Pos} {e o : Expr} {es : List Expr} {kws : List Keyword} {te ta : TE} {t tk : TA} {nm : Option Str}
structure KBinds (K : PySem.W.Frag) (fd : FuncData) (ps ks : List Str) (g : List Value -> List Value -> List Value) (gV : List V -> List V -> List V) : Prop where
 to : ∀ (s : Shared) (us ws : List Value), K.In s.heap -> (g us ws).length = ps.length -> BindsTo s fd ⟨us, ks.zip ws⟩ (ps.zip (g us ws))
 rel : ∀ {vs : List V} {us : List Value} {zs : List V} {ws : List Value}, Vals vs us -> Vals zs ws -> Vals (gV vs zs) (g us ws)
variable {g : List Value -> List Value -> List Value} {gV : List V -> List V -> List V}
end
structure FnScope (N P : List Str) (sc : Scope) : Prop where
 kind : sc.kind = .function
 co : sc.isCoroutine = false
 gen : sc.isGenerator = false
 nd : N.Nodup
 pre : N.take P.length = P
 par : ∀ x ∈ P, sc.names.lookup x = some .local \/ sc.names.lookup x = some .cell
 nofree : ∀ y ∈ sc.names, y.2 ≠ .free
theorem ZaD {kindOf : Str -> Option NameKind} {x : Str} : ∀ {binds : List (Str × Value)} {m : Str -> Option Value}, (∀ v, (x, v) ∉ binds) -> bindL kindOf binds m x = m x
 | [], _, _ => rfl
 | (n, v) :: r, m, h => by
  unfold bindL
  rw [ZaD fun w hw => h w (List.mem_cons_of_mem _ hw)]
  split
  · have : x ≠ n := by rintro rfl; exact h v List.mem_cons_self
    simp [this]
  · rfl
theorem ZaE {kindOf : Str -> Option NameKind} {x : Str} : ∀ {binds : List (Str × Value)} {m : Str -> Option Value}, (∀ v, (x, v) ∉ binds) -> bindC kindOf binds m x = m x
 | [], _, _ => rfl
 | (n, v) :: r, m, h => by
  unfold bindC
  rw [ZaE fun w hw => h w (List.mem_cons_of_mem _ hw)]
  split
  · rfl
  · have : x ≠ n := by rintro rfl; exact h v List.mem_cons_self
    simp [this]
theorem ZaF {kindOf : Str -> Option NameKind} {x : Str} {v : Value} : ∀ {P : List Str} {vs : List Value} {i : Nat} {m : Str -> Option Value}, P.Nodup -> P[i]? = some x -> vs[i]? = some v -> kindOf x = some .local ->
 bindL kindOf (P.zip vs) m x = some v
 | [], _, _, _, _, h, _, _ => by simp at h
 | _ :: _, [], _, _, _, _, h, _ => by simp at h
 | p :: P, w :: vs, 0, m, nd, h1, h2, hk => by
  simp at h1 h2; subst h1; subst h2
  show bindL kindOf ((p, w) :: P.zip vs) m p = _
  unfold bindL
  rw [ZaD fun v hv => (List.nodup_cons.mp nd).1 (List.of_mem_zip hv).1, if_pos hk]
  simp
 | p :: P, w :: vs, i + 1, m, nd, h1, h2, hk => by
  show bindL kindOf ((p, w) :: P.zip vs) m x = _
  unfold bindL
  exact ZaF (i := i) (List.nodup_cons.mp nd).2 (by simpa using h1) (by simpa using h2) hk
theorem ZaG {kindOf : Str -> Option NameKind} {x : Str} {v : Value} : ∀ {P : List Str} {vs : List Value} {i : Nat} {m : Str -> Option Value}, P.Nodup -> P[i]? = some x -> vs[i]? = some v -> kindOf x ≠ some .local ->
 bindC kindOf (P.zip vs) m x = some v
 | [], _, _, _, _, h, _, _ => by simp at h
 | _ :: _, [], _, _, _, _, h, _ => by simp at h
 | p :: P, w :: vs, 0, m, nd, h1, h2, hk => by
  simp at h1 h2; subst h1; subst h2
  show bindC kindOf ((p, w) :: P.zip vs) m p = _
  unfold bindC
  rw [ZaE fun v hv => (List.nodup_cons.mp nd).1 (List.of_mem_zip hv).1, if_neg hk]
  simp
 | p :: P, w :: vs, i + 1, m, nd, h1, h2, hk => by
  show bindC kindOf ((p, w) :: P.zip vs) m x = _
  unfold bindC
  exact ZaG (i := i) (List.nodup_cons.mp nd).2 (by simpa using h1) (by simpa using h2) hk
def start (N : List Str) (vs : List V) : St := vs.map some ++ List.replicate (N.length - vs.length) none
def Xa (CX : CXT) (P : Program) (w : World) (K : PySem.W.Frag) (mg : Str -> Option Value) (base : Heap) (N : List Str) (qual : Str) (scope : Scope) (f : Addr) (cd : Value) (A : Around) (outer : List Env) (s : Shared) (H : Hp) (E : XK) : Cx where
 prog := P
 w := w
 K := K
 mg := mg
 base := base
 A := A.deeper (envOfC qual scope s.heap.objs.size f cd)
 N := N
 s₀ := s
 H₀ := H
 env := envOfC qual scope s.heap.objs.size f cd
 outer := outer
 stack := envOfC qual scope s.heap.objs.size f cd :: outer
 ex := []
 calm := true
 fn := fun _ => true
 pn := []
 xe := fun e s' => wpAny (model P w) (A.deeper (envOfC qual scope s.heap.objs.size f cd)) (leaving (envOfC qual scope s.heap.objs.size f cd) e) (fun _ s'' => CX outer H s E e s'') (fun e' s'' => CX outer H s E e' s'') s'
theorem Zbg {sc : Scope} {n : Nat} {x : Str} (h : sc.names.lookup x = some .cell) : ∃ c, (cellsFrom n sc.names []).lookup x = some c := by
 have q := PySem.W.cellsFrom_some sc.names n [] (.inl h)
 exact Option.isSome_iff_exists.mp q
theorem Zcv {CX : CXT} {P : Program} {w : World} {K : PySem.W.Frag} {mg : Str -> Option Value} {base : Heap} {N ps : List Str} {qual : Str} {scope : Scope} {f : Addr} {cd : Value} {A : Around} {outer : List Env} {s s1 : Shared} {H : Hp} {E : XK} {us : List Value} {vs : List V}
 (S : FnScope N ps scope) (hd : A.handled = none) (e0 : Env0 P w K mg base A outer s H) (hl : vs.length = ps.length) (r : Vals vs us)
 (x : InCallC s s.heap.objs.size (bindL (envOfC qual scope s.heap.objs.size f cd).kindOf (ps.zip us) fun _ => none) (cellsFrom (s.heap.objs.size + 1) scope.names []) (bindC (envOfC qual scope s.heap.objs.size f cd).kindOf (ps.zip us) fun _ => none) s1) :
 Inv (Xa CX P w K mg base N qual scope f cd A outer s H E) [] (start N vs) H s1 := by
 have hpl : ps.length <= N.length := by have := congrArg List.length S.pre; rw [List.length_take] at this; omega
 obtain ⟨h1, tk, rfl, hk⟩ := x.done
 have noA : ∀ b : Addr, b ∉ (Xa CX P w K mg base N qual scope f cd A outer s H E).ex := fun b z => absurd (show b ∈ ([] : List Addr) from z) (by simp)
 refine ⟨⟨e0.mod, S.kind, rfl, rfl, Nat.le_refl _, fun y z c h1 h2 => ?_, fun y hy => ?_, fun y c _ h => ?_, fun _ => hd, Around.frames_deeper e0.frames, .inr ⟨rfl, rfl⟩, fun b z => absurd z (noA b), e0.bs, e0.bsz, fun b _ _ => noA b, fun b z => absurd z (noA b), e0.funs, e0.frf⟩,
  rfl, e0.bare, Un.kept hk, ⟨_, x.toInCall.ns, fun i y v h1 h2 h3 => ?_⟩, fun y c h => ⟨_, x.cell y c h⟩, e0.hok.fresh (Nat.le_refl _), fun y c h => ?_, fun p hp => absurd (show p ∈ ([] : List (Addr × Obj)) from hp) (by simp), e0.hok.kept hk, ?_⟩
 · exact name_of_addr x.apart (PySem.mem_of_lookup h1) (PySem.mem_of_lookup h2)
 · have hy : scope.names.lookup y = some .cell \/ scope.names.lookup y = some .free := hy
   rcases hy with hy | hy
   · exact Zbg hy
   · exact absurd rfl (S.nofree _ (PySem.mem_of_lookup hy))
 · exact Nat.le_of_lt (x.above y c (PySem.mem_of_lookup h))
 · have hi : i < vs.length := by
    unfold start at h2
    by_cases hi : i < vs.length
    · exact hi
    · rw [List.getElem?_append_right (by simpa using hi)] at h2
      rw [List.getElem?_replicate] at h2
      split at h2 <;> cases h2
   have ha : vs[i]? = some v := by
    unfold start at h2
    rw [List.getElem?_append_left (by simpa using hi), List.getElem?_map] at h2
    cases e : vs[i]? with
    | none => rw [e] at h2; cases h2
    | some a => rw [e] at h2; cases h2; rfl
   obtain ⟨u, hu, rv⟩ := r.get ha
   have hp : ps[i]? = some y := by
    rw [<- S.pre, List.getElem?_take_of_lt (by omega)]; exact h1
   have ndP : ps.Nodup := by rw [<- S.pre]; exact S.nd.sublist (List.take_sublist _ _)
   refine ⟨u, rv, ?_⟩
   rcases S.par y (List.mem_of_getElem? hp) with k | k
   · exact .inl ⟨k, ZaF ndP hp hu k⟩
   · obtain ⟨c, e⟩ := Zbg (n := s.heap.objs.size + 1) k
     refine .inr ⟨.inl k, c, e, ?_⟩
     have q := x.cell y c e
     rw [ZaG ndP hp hu (by show scope.names.lookup y ≠ _; rw [k]; decide)] at q
     exact q
 · exact e0.hok.fresh (Nat.le_of_lt (x.above y c (PySem.mem_of_lookup h)))
 · unfold start
   show _ = N.length
   rw [List.length_append, List.length_map, List.length_replicate]
   omega
theorem ZeL {CX : CXT} {P : Program} {w : World} {K : PySem.W.Frag} {mg : Str -> Option Value} {base : Heap} {k : Nat} {f : Addr} {name qual : Str} {params : Arguments} {body : List Stmt} {scope : Scope} {dV kV doc pm cdv ct oc : Value} {an od : Option Addr}
 {osl : Array (Option Value)} {N ps : List Str} {sp : Sp} (lk : K.lookup f = some ⟨oc, od, .func (PySem.W.fnOf name qual params body scope dV kV doc pm an cdv ct), osl⟩) (hcd : PySem.W.codeIn K cdv qual = true) (S : FnScope N ps scope)
 (len : ∀ vs H Q E, sp vs H Q E -> vs.length = ps.length)
 (hbody : ∀ (A : Around) (outer : List Env) (s : Shared) (H : Hp) (vs : List V) (Q : VK) (E : XK), Room k (A.deeper (envOfC qual scope s.heap.objs.size f cdv)) -> sp vs H Q E ->
   ∃ t, PSs (Xa CX P w K mg base N qual scope f cdv A outer s H E) body t /\ t { nx := fun _ H' => Q .non H', rt := Q } (start N vs) H) :
 FnOk P w K mg base CX (k + 1) f (PySem.W.fnOf name qual params body scope dV kV doc pm an cdv ct) ps sp := by
 refine ⟨len, fun A outer s H args us vs Q E hr e0 hb r hsp => ?_⟩
 have hl := len _ _ _ _ hsp
 have KX : K.In s.heap := e0.mod.kin.keeps fun b o e => (e0.bs b o e).1
 have lim : s.heap.NoLimit := e0.mod.nolimit.keeps fun b o e => (e0.bs b o e).1
 have hkind : ∀ y ∈ ps.zip us, scope.names.lookup y.1 = some .local \/ (scope.names.lookup y.1 = some .cell /\ ((cellsFrom (s.heap.objs.size + 1) scope.names []).lookup y.1).isSome = true) := fun ⟨n, v⟩ hy => by
  rcases S.par n (List.of_mem_zip hy).1 with q | q
  · exact .inl q
  · exact .inr ⟨q, PySem.W.cellsFrom_some _ _ _ (.inl q)⟩
 refine codeAny_call_function hr.depth (KX _ _ lk) rfl S.co S.gen rfl (PySem.W.codeRec_of KX hcd) (hb _ _ _ _ ?_)
 refine wpAny_newFunctionEnv_cells S.kind hkind fun env he s1 x => ?_
 subst he
 refine ⟨lim.keeps x.toInCall.keep, codeAny_func ?_⟩
 obtain ⟨t, ht, hq⟩ := hbody A outer s H vs Q E (hr.deeper _) hsp
 have I : Inv (Xa CX P w K mg base N qual scope f cdv A outer s H E) [] (start N vs) H s1 := Zcv S hr.hd e0 hl r x
 refine wpAny_mono (ht [] s1 (start N vs) H _ I hq) (fun fl s' hs => ?_) fun e s' hs => hs
 have fin : ∀ {σ' : St} {H' : Hp} {v : V} {u : Value}, Inv (Xa CX P w K mg base N qual scope f cdv A outer s H E) [] σ' H' s' -> RelV v u -> Q v H' -> CE outer P w H s Q u s' :=
  fun {σ' H' v u} J rv q => ⟨v, H', J.os, J.bare, J.base, J.hok, rv, q⟩
 cases fl with
 | ret u =>
  obtain ⟨v, σ', H', J, rv, q⟩ := hs
  exact fin J rv q
 | next =>
  obtain ⟨σ', H', J, q⟩ := hs
  exact fin (v := V.non) (u := Value.none) J rfl q
 | brk =>
  obtain ⟨_, _, _, q⟩ := hs
  exact False.elim q
 | cont =>
  obtain ⟨_, _, _, q⟩ := hs
  exact False.elim q
end L2
namespace L2
open PySem PySem.Spec PyProof.Rows
section
variable {X : Cx} {x : Str} {p pos : Pos} {e : Expr} {es : List Expr} {t : TA} {id T : String} {r : List V -> Hp -> VK -> Prop}
def tCB (r : List V -> Hp -> VK -> Prop) (t : TA) : TE := fun σ H Q => t σ H fun vs H1 => r vs H1 Q
theorem ZY (hc : Ye X (.builtin id) r) (hg : Gl X x) (hm : X.mg x = none) (hv : bootBuiltins x = some (.builtin id)) (ha : PA X (e :: es) t) (hn : x ≠ "__name__" := by decide) (hdb : (x == ("__debug__" : Str)) = false := by decide)
 (he : starEach (e :: es) X.env = (false, eval e X.env) :: starEach es X.env := by rfl) (hpl : (backTo pos (starEach es X.env)).any (·.1) = false := by rfl) : PE X (.Call (.Name x p) (e :: es) [] pos) (tCB r t) := by
 intro pins s σ H Q I h
 refine wpAny_Call_Name_kw (YX I hg hm hv ?_ hn hdb)
 exact PyProof.Rows.callWith_builtin1 (thn (ha pos pins s σ H _ I h) fun us s1 ⟨vs, H1, I1, r1, q1⟩ => hc pins s1 σ H1 vs us Q I1 r1 q1) he hpl
theorem V8 (hc : Ye X (.type T) r) (hg : Gl X x) (hm : X.mg x = none) (hv : bootBuiltins x = some (.type T)) (ha : PA X (e :: es) t) (hn : x ≠ "__name__" := by decide) (hdb : (x == ("__debug__" : Str)) = false := by decide)
 (he : starEach (e :: es) X.env = (false, eval e X.env) :: starEach es X.env := by rfl) (hpl : (backTo pos (starEach es X.env)).any (·.1) = false := by rfl) : PE X (.Call (.Name x p) (e :: es) [] pos) (tCB r t) := by
 intro pins s σ H Q I h
 refine wpAny_Call_Name_kw (YX I hg hm hv ?_ hn hdb)
 exact PyProof.Rows.callWith_type1 (thn (ha pos pins s σ H _ I h) fun us s1 ⟨vs, H1, I1, r1, q1⟩ => hc pins s1 σ H1 vs us Q I1 r1 q1) he hpl
end
end L2
namespace HT
open PySem PyProof.Rows
section
open PySem.SeqAt
open PySem.AutoSeq1 (wpAny_loadPart')
open PySem.MeetsSeq PySem.MeetsSeq2 PySem.MeetsSeq3
end
section
variable {prog : Program} {w : World} {A : Around} {E : Value -> Shared -> Prop} {s : Shared}
def sIx (n d : Nat) : Option Int -> Nat
 | none => d
 | some v => if v < 0 then (v + (n : Int)).toNat else min v.toNat n
theorem Zfc (n d : Nat) (hd : d <= n) (o : Option Int) : sIx n d o <= n := by
 cases o with
 | none => exact hd
 | some v =>
  show (if v < 0 then (v + (n : Int)).toNat else min v.toNat n) <= n
  by_cases hv : v < 0
  · rw [if_pos hv]; omega
  · rw [if_neg hv]; exact Nat.min_le_right _ _
theorem ZbX (v : Int) (n d : Nat) : (if v < 0 then max (v + (n : Int)) 0 else min v (n : Int)) = ((sIx n d (some v) : Nat) : Int) := by
 show (if v < 0 then max (v + (n : Int)) 0 else min v (n : Int)) = (((if v < 0 then (v + (n : Int)).toNat else min v.toNat n) : Nat) : Int)
 by_cases hv : v < 0
 · simp only [if_pos hv]; omega
 · simp only [if_neg hv]; omega
theorem ZbB (lo hi : Option Int) (n : Nat) : Builtin.Slice.sliceAdjust lo hi 1 (n : Int) = (((sIx n 0 lo : Nat) : Int), ((sIx n n hi : Nat) : Int)) := by
 have h1 : ¬ ((1 : Int) < 0) := by omega
 unfold Builtin.Slice.sliceAdjust
 simp only [h1, if_false]
 refine Prod.ext ?_ ?_
 · cases lo with
   | none => rfl
   | some v => exact ZbX v n 0
 · cases hi with
   | none => rfl
   | some v => exact ZbX v n n
theorem ZbC (i j : Nat) : Builtin.Slice.slicePlaces (i : Int) (j : Int) 1 = j - i := by
 unfold Builtin.Slice.slicePlaces
 have h1 : (1 : Int) > 0 := by omega
 simp only [h1, if_true, Int.ediv_one]
 split <;> omega
theorem Zaq {v : Value} {o : Option Int} {Q : Option Int -> Shared -> Prop} (p : IsPart v o) (h : Q o s) : wpAny (model prog w) A (Builtin.Slice.slicePartIndex v) Q E s := by
 cases p with
 | none => exact slicePart_none h
 | int i t => exact slicePart_int h
theorem Zai {sl : Addr} {vl vu : Value} {lo hi : Option Int} {n : Nat} {Q : Int × Int × Nat -> Shared -> Prop} (hs : s.heap.IsSliceOf sl vl vu .none) (pl : IsPart vl lo) (pu : IsPart vu hi)
 (h : Q (((sIx n 0 lo : Nat) : Int), 1, sIx n n hi - sIx n 0 lo) s) : wpAny (model prog w) A (Builtin.Slice.sliceApplied (.ref sl) (pure (n : Int))) Q E s := by
 obtain ⟨os, hos, hcs, hds⟩ := id hs
 unfold Builtin.Slice.sliceApplied Builtin.Slice.sliceFields
 refine wpAny_bind (wpAny_bind (wpAny_field hos hds (x := vl) rfl (wpAny_bind (wpAny_field hos hds (x := vu) rfl (wpAny_bind (wpAny_field hos hds (x := .none) rfl (wpAny_pure ?_)))))))
 refine wpAny_bind (slicePart_none ?_)
 show wpAny _ _ (if ((1 : Int) == 0) = true then _ else _) _ _ s
 rw [if_neg (by decide)]
 refine wpAny_bind (Zaq pl (wpAny_bind (Zaq pu (wpAny_bind (wpAny_pure ?_)))))
 show wpAny _ _ (match Builtin.Slice.sliceAdjust lo hi 1 (n : Int) with | (lo, hi) => pure (lo, (1 : Int), Builtin.Slice.slicePlaces lo hi 1)) _ _ s
 rw [ZbB lo hi n]
 show wpAny _ _ (pure (((sIx n 0 lo : Nat) : Int), (1 : Int), Builtin.Slice.slicePlaces ((sIx n 0 lo : Nat) : Int) ((sIx n n hi : Nat) : Int) 1)) _ _ s
 rw [ZbC]
 exact wpAny_pure h
theorem ZcX (xs : Array Value) (i k : Nat) : ((List.range k).filterMap fun (m : Nat) => xs[((i : Int) + (m : Int) * 1).toNat]?).toArray = ((xs.toList.drop i).take k).toArray := by
 have e : (fun (m : Nat) => xs[((i : Int) + (m : Int) * 1).toNat]?) = fun m => xs[i + m]? := by
  funext m
  have : ((i : Int) + (m : Int) * 1).toNat = i + m := by omega
  rw [this]
 rw [e]
 have := pick_run xs i k
 rw [List.filterMap_map] at this
 have e2 : ((fun x => xs[x]?) ∘ fun x => i + x) = fun m => xs[i + m]? := rfl
 rw [e2] at this
 rw [this]
theorem getItem_tuple_cut {t sl : Addr} {items : Array Value} {vl vu : Value} {lo hi : Option Int} {Q : Value -> Shared -> Prop} (ht : IsTup s.heap t items) (hs : s.heap.IsSliceOf sl vl vu .none) (pl : IsPart vl lo) (pu : IsPart vu hi)
 (hw : ¬ (sIx items.size 0 lo = 0 /\ sIx items.size items.size hi = items.size))
 (h : Q (.ref s.heap.objs.size) { s with heap := s.heap.push { cls := .type "tuple", data := .seq ((items.toList.drop (sIx items.size 0 lo)).take (sIx items.size items.size hi - sIx items.size 0 lo)).toArray } })
 (hsz : items.size <= sizeLine) : wpAny (model prog w) A (getItem (.ref t) (.ref sl)) Q E s := by
 have htake : sizeOk (.seq ((items.toList.drop (sIx items.size 0 lo)).take (sIx items.size items.size hi - sIx items.size 0 lo)).toArray) := by
  show ((items.toList.drop (sIx items.size 0 lo)).take (sIx items.size items.size hi - sIx items.size 0 lo)).toArray.size <= sizeLine
  rw [List.size_toArray, List.length_take, List.length_drop, Array.length_toList]
  omega
 have hj : sIx items.size items.size hi <= items.size := Zfc _ _ (Nat.le_refl _) hi
 obtain ⟨os, hos, hcs, hds⟩ := id hs
 have hTs : s.TypeIs (.ref sl) "slice" := ⟨os, hos, hcs⟩
 unfold getItem
 try with_reducible refine wpAny_holding ?_
 first | refine wpAny_bind (wpAny_pure ?_) | skip
 refine wpAny_bind (wpAny_sequenceKey ht.typeIs (by decide) ?_)
 refine wpAny_bind (wpAny_callSpecial?_slot (name := Str.ofString "__getitem__") ht.typeIs PyProof.Rows.slot_tuple_getitem
  (wpAny_call_entry PyProof.Rows.slot_tuple_getitem ht.typeIs entry_tuple_getitem ?_ (args_tuple_getitem _ _)))
 show wpAny _ _ (Builtin.Tuple.tupleItemsOf (.ref t) >>= _) _ _ s
 refine wpAny_bind (tupleItemsOf_ ht ?_)
 refine wpAny_bind (wpAny_typeOf hTs ?_)
 rw [if_pos (by decide)]
 refine wpAny_bind (Zai hs pl pu ?_)
 have hno : ¬ ((((sIx items.size 0 lo : Nat) : Int) == 0 && (1 : Int) == 1 && (sIx items.size items.size hi - sIx items.size 0 lo) == items.size) = true) := by
  intro q
  rw [Bool.and_eq_true, Bool.and_eq_true] at q
  have q1 : ((sIx items.size 0 lo : Nat) : Int) = 0 := eq_of_beq q.1.1
  have q2 : sIx items.size items.size hi - sIx items.size 0 lo = items.size := eq_of_beq q.2
  exact hw ⟨by omega, by omega⟩
 show wpAny _ _ (if (((sIx items.size 0 lo : Nat) : Int) == 0 && (1 : Int) == 1 && (sIx items.size items.size hi - sIx items.size 0 lo) == items.size) = true then _ else _) _ _ s
 rw [if_neg hno, ZcX]
 first
  | exact wpAny_bind (m := Builtin.Tuple.tupleExact _) (wpAny_newObj_type (wpAny_pure ⟨_, rfl, wpAny_pure h⟩) htake)
  | exact wpAny_bind (m := Builtin.Tuple.tupleExact _) (wpAny_newObj_type (wpAny_bind (wpAny_pure (wpAny_pure ⟨_, rfl, wpAny_pure h⟩))) htake)
  | exact wpAny_bind (wpAny_bind (m := Builtin.Tuple.tupleExact _) (wpAny_newObj_type (wpAny_pure (wpAny_pure ⟨_, rfl, wpAny_pure h⟩)) htake))
  | exact wpAny_bind (wpAny_bind (m := Builtin.Tuple.tupleExact _) (wpAny_newObj_type (wpAny_pure ⟨_, rfl, wpAny_pure h⟩) htake))
end
end HT
namespace L2
open PySem PySem.Spec PyProof.Rows
abbrev TO := St -> Hp -> (Option Int -> Hp -> Prop) -> Prop
def PO (X : Cx) (e : Option Expr) (t : TO) : Prop :=
 ∀ (pins : List (Addr × Obj)) (s : Shared) (σ : St) (H : Hp) (Q : Option Int -> Hp -> Prop), Inv X pins σ H s -> t σ H Q ->
  wpAny (model X.prog X.w) X.A (evalPart e X.env) (fun u s' => ∃ o H', Inv X pins σ H' s' /\ IsPart u o /\ Q o H') X.xe s
def tNoPart : TO := fun _ H Q => Q none H
def ZeM (t : TE) : TO := fun σ H Q => t σ H fun x H1 => ∃ i, x = .int i /\ Q (some i) H1
section
variable {X : Cx} {e : Expr} {te : TE} {lo hi : Option Expr} {tl th : TO} {pos p2 : Pos}
theorem U5 : PO X none tNoPart := by
 intro pins s σ H Q I h
 rw [evalPart_none]
 exact wpAny_pure ⟨none, H, I, .none, h⟩
theorem U6 (h : PE X e te) : PO X (some e) (ZeM te) := by
 intro pins s σ H Q I hw
 rw [evalPart_some]
 refine thn (h pins s σ H _ I hw) fun u s1 ⟨x, H1, I1, r1, q1⟩ => ?_
 obtain ⟨i, rfl, q⟩ := q1
 obtain ⟨t, rfl⟩ := r1
 exact ⟨some i, H1, I1, .int i t, q⟩
def SlR (X : Cx) (r : V -> Option Int -> Option Int -> Hp -> VK -> Prop) : Prop :=
 ∀ (pins : List (Addr × Obj)) (s : Shared) (σ : St) (H : Hp) (x : V) (v vl vu : Value) (lo hi : Option Int) (sl : Addr) (Q : VK), Inv X pins σ H s -> RelV x v -> s.heap.IsSliceOf sl vl vu .none -> IsPart vl lo -> IsPart vu hi -> r x lo hi H Q ->
  ∃ T id, typeLookup (.type T) "__getitem__" = pure (some (.builtin id)) /\ s.TypeIs v T /\ wpAny (model X.prog X.w) X.A (getItem v (.ref sl)) (EP X pins σ Q) X.xe s
theorem SlR.or {r r' : V -> Option Int -> Option Int -> Hp -> VK -> Prop} (h : SlR X r) (h' : SlR X r') : SlR X (fun x lo hi H Q => r x lo hi H Q \/ r' x lo hi H Q) := by
 intro pins s σ H x v vl vu lo hi sl Q I rx hs pl pu q
 rcases q with q | q
 · exact h pins s σ H x v vl vu lo hi sl Q I rx hs pl pu q
 · exact h' pins s σ H x v vl vu lo hi sl Q I rx hs pl pu q
def tSl (r : V -> Option Int -> Option Int -> Hp -> VK -> Prop) (te : TE) (tl th : TO) : TE := fun σ H Q => te σ H fun x H1 => tl σ H1 fun l H2 => th σ H2 fun u H3 => r x l u H3 Q
theorem U7 {r : V -> Option Int -> Option Int -> Hp -> VK -> Prop} (hr : SlR X r) (he : PE X e te) (hl : PO X lo tl) (hu : PO X hi th) : PE X (.Subscript e (.Slice lo hi none p2) pos) (tSl r te tl th) := by
 intro pins s σ H Q I h
 refine Subscript_ (thn (he pins s σ H _ I h) fun v s1 ⟨x, H1, I1, r1, q1⟩ => ?_)
 refine wpAny_Slice (thn (hl pins s1 σ H1 _ I1 q1) fun vl s2 ⟨l, H2, I2, pl, q2⟩ => thn (hu pins s2 σ H2 _ I2 q2) fun vu s3 ⟨u, H3, I3, pu, q3⟩ => ?_)
 rw [evalPart_none]
 refine wpAny_pure ?_
 have I4 : Inv X pins σ H3 { s3 with heap := s3.heap.push { cls := .type "slice", data := .fields #[vl, vu, .none] } } := I3.kept (t' := s3.toks) fun b ob q => Heap.get?_push_of_some _ q
 obtain ⟨T, id, hT, ht, hg⟩ := hr pins { s3 with heap := s3.heap.push { cls := .type "slice", data := .fields #[vl, vu, .none] } } σ H3 x v vl vu l u s3.heap.objs.size Q I4 r1 (Heap.IsSliceOf.new ..) pl pu q3
 show wpAny (model X.prog X.w) X.A (subscriptTail e (.Slice lo hi none p2) v (.ref s3.heap.objs.size)) (EP X pins σ Q) X.xe { s3 with heap := s3.heap.push { cls := .type "slice", data := .fields #[vl, vu, .none] } }
 exact tail_any (ops := [.ref s3.heap.objs.size, v]) ht hT hg (by with_unfolding_all rfl)
def XM (xs : List V) (lo hi : Option Int) : List V := (xs.drop (HT.sIx xs.length 0 lo)).take (HT.sIx xs.length xs.length hi - HT.sIx xs.length 0 lo)
theorem Zal (xs : List V) (lo hi : Option Int) : (XM xs lo hi).length <= xs.length := by
 unfold XM
 rw [List.length_take, List.length_drop]
 omega
def ZgV (K : PySem.W.Frag) : V -> Option Int -> Option Int -> Hp -> VK -> Prop := fun x lo hi H Q => ∃ a xs, x = .ref a /\ SqT K H a xs /\
 ¬ (HT.sIx xs.length 0 lo = 0 /\ HT.sIx xs.length xs.length hi = xs.length) /\ ∀ p, H p = none -> Q (.ref p) (upd H p (.tup (XM xs lo hi)))
theorem Zfd : SlR X (ZgV X.K) := by
 intro pins s σ H x v vl vu lo hi sl Q I rx hs pl pu h
 obtain ⟨a, xs, rfl, hx, hw, q⟩ := h
 cases rx
 obtain ⟨its, r, ht, hz⟩ := I.tuple hx
 have hlen : its.toArray.size = xs.length := by rw [List.size_toArray]; exact r.length.symm
 refine ⟨"tuple", _, PyProof.Rows.slot_tuple_getitem.lookup, ht.typeIs, ?_⟩
 refine HT.getItem_tuple_cut ht hs pl pu (by rw [hlen]; exact hw) ?_ (by rw [hlen]; exact hz)
 rw [hlen]
 refine ⟨.ref s.heap.objs.size, _, I.laid (t' := s.toks) (o := .tup (XM xs lo hi)) (fun b ob q => Heap.get?_push_of_some _ q) (Nat.le_refl _) ?_, rfl, q _ (I.hok.fresh (Nat.le_refl _))⟩
 exact ⟨Nat.le_trans (Zal xs lo hi) hz, _, (r.drop (HT.sIx xs.length 0 lo)).take (HT.sIx xs.length xs.length hi - HT.sIx xs.length 0 lo), TupN.new _ _⟩
end
end L2
namespace L2
open PySem PySem.Spec PyProof.Rows
def ixN (n : Nat) (i : Int) : Option Nat := if 0 <= i then (if i < n then some i.toNat else none) else if -(n : Int) <= i then some (i + n).toNat else none
def atI {α : Type} (xs : List α) (i : Int) : Option α := (ixN xs.length i).bind fun j => xs[j]?
theorem ZbY {n : Nat} {i : Int} {j : Nat} (h : ixN n i = some j) : seqIndex? i n = some j /\ j < n /\ -(n : Int) <= i /\ i < n := by
 unfold ixN at h
 by_cases h0 : 0 <= i
 · rw [if_pos h0] at h
   by_cases h1 : i < n
   · rw [if_pos h1] at h
     have e : i.toNat = j := Option.some.inj h
     exact ⟨by rw [seqIndex_of h0 h1, e], by omega, by omega, h1⟩
   · rw [if_neg h1] at h; cases h
 · rw [if_neg h0] at h
   by_cases h1 : -(n : Int) <= i
   · rw [if_pos h1] at h
     have e : (i + n).toNat = j := Option.some.inj h
     exact ⟨by rw [seqIndex_neg (by omega) h1, e], by omega, h1, by omega⟩
   · rw [if_neg h1] at h; cases h
theorem Jf {α : Type} {xs : List α} {i : Int} {v : α} (h : atI xs i = some v) : ∃ j, seqIndex? i xs.length = some j /\ xs[j]? = some v /\ j < xs.length /\ -(xs.length : Int) <= i /\ i < xs.length := by
 unfold atI at h
 cases e : ixN xs.length i with
 | none => rw [e] at h; cases h
 | some j =>
  rw [e] at h
  obtain ⟨h1, h2, h3, h4⟩ := ZbY e
  exact ⟨j, h1, h, h2, h3, h4⟩
theorem ZbZ {α : Type} {xs : List α} {j : Nat} {v : α} (h : xs[j]? = some v) : atI xs (j : Int) = some v := by
 have hj : j < xs.length := (List.getElem?_eq_some_iff.mp h).1
 have e : ixN xs.length (j : Int) = some j := by
  unfold ixN
  rw [if_pos (by omega), if_pos (by omega)]; simp
 unfold atI; rw [e]; exact h
def Zd3 (b : Expr) : Prop := ∀ o i, subscripted b false o i = operate [o, i] (getItem o i)
def IxR (X : Cx) (r : R2) : Prop :=
 ∀ (value slice : Expr) (pins : List (Addr × Obj)) (s : Shared) (σ : St) (H : Hp) (x y : V) (v u : Value) (Q : VK), Inv X pins σ H s -> RelV x v -> RelV y u -> r x y H Q ->
  subscripted slice false v u = operate [v, u] (getItem v u) -> wpAny (model X.prog X.w) X.A (subscriptTail value slice v u) (EP X pins σ Q) X.xe s
def MtR (X : Cx) (id : String) (r : V -> List V -> Hp -> VK -> Prop) : Prop :=
 ∀ (pins : List (Addr × Obj)) (s : Shared) (σ : St) (H : Hp) (x : V) (xs : List V) (v : Value) (us : List Value) (Q : VK), Inv X pins σ H s -> RelV x v -> Vals xs us -> r x xs H Q ->
  wpAny (model X.prog X.w) X.A (call (.builtin id) (v :: us)) (EP X pins σ Q) X.xe s
section
variable {X : Cx} {a b : Expr} {ta tb : TE} {pos : Pos}
theorem IxR.or {r r' : R2} (h : IxR X r) (h' : IxR X r') : IxR X (fun x y H Q => r x y H Q \/ r' x y H Q) := by
 intro value slice pins s σ H x y v u Q I rx ry q hs
 rcases q with q | q
 · exact h value slice pins s σ H x y v u Q I rx ry q hs
 · exact h' value slice pins s σ H x y v u Q I rx ry q hs
theorem ZG {r : R2} (hr : IxR X r) (ha : PE X a ta) (hb : PE X b tb) (hs : Zd3 b) : PE X (.Subscript a b pos) (tOp r ta tb) := by
 intro pins s σ H Q I h
 exact Subscript_ (Jb ha hb I h fun v u s2 x y H2 I2 rx ry q => hr a b pins s2 σ H2 x y v u Q I2 rx ry q (hs _ _))
def ZgW (K : PySem.W.Frag) : R2 := fun x y H Q => ∃ p xs i v, x = .ref p /\ y = .int i /\ SqL K H p xs /\ atI xs i = some v /\ Q v H
def ZgX (K : PySem.W.Frag) : R2 := fun x y H Q => ∃ p xs i v, x = .ref p /\ y = .int i /\ SqT K H p xs /\ atI xs i = some v /\ Q v H
def rIxS : R2 := fun x y H Q => ∃ z i c, x = .str z /\ y = .int i /\ z.length <= sizeLine /\ atI z.cps.toList i = some c /\ Q (.str ⟨#[c]⟩) H
theorem ix_list : IxR X (ZgW X.K) := by
 intro value slice pins s σ H x y v u Q I rx ry h hs
 obtain ⟨p, xs, i, z, rfl, rfl, hq, he, q⟩ := h
 cases rx
 obtain ⟨t, rfl⟩ := ry
 obtain ⟨its, r, pl, hz⟩ := I.list hq
 obtain ⟨j, h1, h2, h3, h4, h5⟩ := Jf he
 obtain ⟨w, ew, rw'⟩ := r.get h2
 have hl := r.length
 have hn := Vw
 have fin : EP X pins σ Q w s := ⟨z, H, I, rw', q⟩
 by_cases h0 : 0 <= i
 · have hj : i.toNat = j := by
    rw [seqIndex_of h0 h5] at h1
    exact Option.some.inj h1
   exact item_listR pl.isList h0 (by omega) (by rw [hj]; simpa using ew) fin hs
 · have hj : (i + (its.toArray.size : Int)).toNat = j := by
    rw [seqIndex_neg (by omega) h4] at h1
    rw [List.size_toArray, <- hl]
    exact Option.some.inj h1
   exact subscriptTail_builtinR (x := w) pl.isList.typeIs slot_list_getitem.lookup
    (wpAny_getItem_list_neg (Q := fun r s' => r = w /\ EP X pins σ Q r s') pl.isList (by omega) (by rw [List.size_toArray] <;> omega) (by omega) (by rw [hj]; simpa using ew) ⟨rfl, fin⟩) hs
theorem ix_tup : IxR X (ZgX X.K) := by
 intro value slice pins s σ H x y v u Q I rx ry h hs
 obtain ⟨p, xs, i, z, rfl, rfl, hq, he, q⟩ := h
 cases rx
 obtain ⟨t, rfl⟩ := ry
 obtain ⟨its, r, pl, hz⟩ := I.tuple hq
 obtain ⟨j, h1, h2, h3, h4, h5⟩ := Jf he
 obtain ⟨w, ew, rw'⟩ := r.get h2
 have hl := r.length
 have hn := Vw
 have fin : EP X pins σ Q w s := ⟨z, H, I, rw', q⟩
 exact subscriptTail_builtinR (x := w) pl.typeIs slot_tuple_getitem.lookup
  (getItem_tuple (j := j) (Q := fun r s' => r = w /\ EP X pins σ Q r s') pl (by omega) (by omega) (by rw [List.size_toArray, <- hl]; exact h1) (by simpa using ew) ⟨rfl, fin⟩) hs
theorem Zfe : IxR X rIxS := by
 intro value slice pins s σ H x y v u Q I rx ry h hs
 obtain ⟨z, i, c, rfl, rfl, hz, he, q⟩ := h
 obtain ⟨t, rfl⟩ := rx
 obtain ⟨t', rfl⟩ := ry
 obtain ⟨j, h1, h2, h3, h4, h5⟩ := Jf he
 have hl : z.cps.toList.length = z.length := by simp [Str.length]
 rw [hl] at h1 h4 h5
 have hn := Vw
 exact tail_any (typeIs_str s z t) slot_str_getitem.lookup (getItem_str (c := c) (by
  have e1 : decide (i < -(2 ^ 63 : Int)) = false := decide_eq_false (by omega)
  have e2 : decide (i ≥ 2 ^ 63) = false := decide_eq_false (by omega)
  rw [e1, e2, Bool.or_false]) (by rw [h1]; simpa using h2) ⟨.str ⟨#[c]⟩, H, I.tok _, ⟨_, rfl⟩, q⟩) hs
theorem ZbD (its : List Value) (n j : Nat) (u : Value) : Obj.mapSeq (·.setIfInBounds j u) { cls := .type "list", data := .seq its.toArray n } = { cls := .type "list", data := .seq (its.set j u).toArray n } := by
 simp [Obj.mapSeq]
theorem Inv.lst {pins : List (Addr × Obj)} {σ : St} {H : Hp} {s : Shared} {p : Addr} {xs : List V} (I : Inv X pins σ H s) (h : H p = some (.lst xs)) :
 ∃ (its : List Value) (n : Nat), Vals xs its /\ s.heap.get? p = some { cls := .type "list", data := .seq its.toArray n } /\ xs.length <= sizeLine := by
 obtain ⟨z, its, n, r, e⟩ := I.hok p _ h
 exact ⟨its, n, r, e, z⟩
theorem Inv.lstUpd {pins : List (Addr × Obj)} {σ : St} {H : Hp} {s : Shared} {p : Addr} {xs ys : List V} {its its' : List Value} {n n' : Nat} {f : Obj -> Obj} (I : Inv X pins σ H s) (h : H p = some (.lst xs))
 (ho : s.heap.get? p = some { cls := .type "list", data := .seq its.toArray n }) (hf : f { cls := .type "list", data := .seq its.toArray n } = { cls := .type "list", data := .seq its'.toArray n' }) (r : Vals ys its') (hz : ys.length <= sizeLine) (t : Nat) :
 Inv X pins σ (upd H p (.lst ys)) { s with heap := s.heap.update p f, toks := t } := by
 have e : (s.heap.update p f).get? p = some { cls := .type "list", data := .seq its'.toArray n' } := by
  rw [Heap.get?_update_self f ho (by rw [hf] <;> rfl), hf]
 refine I.write (x := p) (e := p) (by rw [h]; trivial) (.inl rfl) (fun b u hb q => (Heap.get?_update_other _ _ (Ne.symm hb)).trans q) ⟨_, e⟩ ?_
 exact ⟨hz, its', n', r, e⟩
def rSetL : V -> V -> V -> Hp -> (Hp -> Prop) -> Prop := fun o i v H Q => ∃ p xs k j, o = .ref p /\ i = .int k /\ H p = some (.lst xs) /\ ixN xs.length k = some j /\ Q (upd H p (.lst (xs.set j v)))
theorem Jg : ZgP X rSetL := by
 intro pins s σ H o i v ov iv u Q I ro ri rv h
 obtain ⟨p, xs, k, j, rfl, rfl, hp, hj, q⟩ := h
 cases ro
 obtain ⟨t, rfl⟩ := ri
 obtain ⟨its, n, r, ho, hz⟩ := I.lst hp
 obtain ⟨h1, h2, h3, h4⟩ := ZbY hj
 have hl := r.length
 have hn := Vw
 have I' : Inv X pins σ (upd H p (.lst (xs.set j v))) { s with heap := s.heap.update p (Obj.mapSeq (·.setIfInBounds j u)) } :=
  I.lstUpd hp ho (ZbD its n j u) (r.set rv j) (by rw [List.length_set]; exact hz) s.toks
 by_cases h0 : 0 <= k
 · have hk : k.toNat = j := by
    rw [seqIndex_of h0 h4] at h1
    exact Option.some.inj h1
   exact PySem.W.ki_setAt ho h0 (by omega) (by rw [List.size_toArray, <- hl]; exact h4) (by rw [hk]; exact ⟨_, I', q⟩)
 · have hk : (k + (its.toArray.size : Int)).toNat = j := by
    rw [seqIndex_neg (by omega) h3] at h1
    rw [List.size_toArray, <- hl]
    exact Option.some.inj h1
   exact PySem.W.ki_setBack ho (by omega) (by rw [List.size_toArray, <- hl]; exact h3) (by omega) (by rw [hk]; exact ⟨_, I', q⟩)
theorem ZaX (lo hi : Option Int) (n : Nat) : (sliceBounds lo hi none n).1 = ((HT.sIx n 0 lo : Nat) : Int) /\ (sliceBounds lo hi none n).2.1 = ((HT.sIx n n hi : Nat) : Int) /\ (sliceBounds lo hi none n).2.2 = 1 := by
 refine ⟨?_, ?_, rfl⟩
 · cases lo with
   | none => simp [sliceBounds, HT.sIx]
   | some i =>
    simp only [sliceBounds, HT.sIx, Option.getD_none, show (1 : Int) > 0 by decide, if_true]
    by_cases h : i < 0
    · simp only [h, if_true] <;> omega
    · simp only [h, if_false] <;> omega
 · cases hi with
   | none => simp [sliceBounds, HT.sIx]
   | some i =>
    simp only [sliceBounds, HT.sIx, Option.getD_none, show (1 : Int) > 0 by decide, if_true]
    by_cases h : i < 0
    · simp only [h, if_true] <;> omega
    · simp only [h, if_false] <;> omega
theorem Zax (its : List Value) (lo hi : Option Int) : slicePick its.toArray lo hi none = ((its.drop (HT.sIx its.length 0 lo)).take (HT.sIx its.length its.length hi - HT.sIx its.length 0 lo)).toArray := by
 obtain ⟨h1, h2, h3⟩ := ZaX lo hi its.toArray.size
 unfold slicePick
 rw [h1, h2, h3]
 simp only [sliceRange_one, pick_run, List.size_toArray] <;> rfl
def ZgY (K : PySem.W.Frag) : V -> Option Int -> Option Int -> Hp -> VK -> Prop := fun x lo hi H Q => ∃ a xs, x = .ref a /\ SqL K H a xs /\ ∀ p, H p = none -> Q (.ref p) (upd H p (.lst (XM xs lo hi)))
theorem sl_list : SlR X (ZgY X.K) := by
 intro pins s σ H x v vl vu lo hi sl Q I rx hs pl pu h
 obtain ⟨a, xs, rfl, hx, q⟩ := h
 cases rx
 obtain ⟨its, r, ht, hz⟩ := I.list hx
 have hlen := r.length
 refine ⟨"list", _, slot_list_getitem.lookup, ht.isList.typeIs, ?_⟩
 refine wpAny_getItem_list_slice ht.isList hs pl pu .none (by simp) ?_ (by rw [List.size_toArray] <;> omega)
 rw [Zax, <- hlen]
 refine ⟨.ref s.heap.objs.size, _, I.laid (t' := s.toks) (o := .lst (XM xs lo hi)) (fun b ob q => Heap.get?_push_of_some _ q) (Nat.le_refl _) ?_, rfl, q _ (I.hok.fresh (Nat.le_refl _))⟩
 exact ⟨Nat.le_trans (Zal xs lo hi) hz, _, 0, (r.drop (HT.sIx xs.length 0 lo)).take (HT.sIx xs.length xs.length hi - HT.sIx xs.length 0 lo), Heap.get?_push_size _ rfl⟩
theorem ZaY : Ye X (.builtin "len") (fun xs H Q => ∃ p ys, xs = [.ref p] /\ (SqL X.K H p ys \/ SqT X.K H p ys) /\ Q (.int ys.length) H) := by
 intro pins s σ H xs us Q I r h
 obtain ⟨p, ys, rfl, hq, q⟩ := h
 obtain ⟨u, rfl, rx⟩ := YL r
 cases rx
 have hn := Vw
 rcases hq with hq | hq
 · obtain ⟨its, r', pl, hz⟩ := I.list hq
   have hlen := r'.length
   exact Calls.call_len_list pl.isList (by simp only [List.size_toArray] <;> omega) ⟨.int ys.length, H, I.tok _, ⟨s.toks + 1, by rw [List.size_toArray, hlen]⟩, q⟩
 · obtain ⟨its, r', pl, hz⟩ := I.tuple hq
   have hlen := r'.length
   exact len_tuple pl (by simp only [List.size_toArray] <;> omega) ⟨.int ys.length, H, I.tok _, ⟨s.toks + 1, by rw [List.size_toArray, hlen]⟩, q⟩
theorem ZaZ : Ye X (.builtin "len") (fun xs H Q => ∃ z, xs = [.str z] /\ z.length <= sizeLine /\ Q (.int z.length) H) := by
 intro pins s σ H xs us Q I r h
 obtain ⟨z, rfl, hz, q⟩ := h
 obtain ⟨u, rfl, t, rfl⟩ := YL r
 have hn := Vw
 exact len_str (by omega) ⟨.int z.length, H, I.tok _, ⟨_, rfl⟩, q⟩
theorem Za0 : Ye X (.type "list") (fun xs H Q => ∃ p ys, xs = [.ref p] /\ (SqL X.K H p ys \/ SqT X.K H p ys) /\ ∀ l, H l = none -> Q (.ref l) (upd H l (.lst ys))) := by
 intro pins s σ H xs us Q I r h
 obtain ⟨p, ys, rfl, hq, q⟩ := h
 obtain ⟨u, rfl, rx⟩ := YL r
 cases rx
 have fin : ∀ (its : List Value), Vals ys its -> ys.length <= sizeLine -> ∀ (h' : Heap) (c' : Nat), (∀ b o', s.heap.get? b = some o' -> h'.get? b = some o') ->
  h'.get? s.heap.objs.size = some { cls := .type "list", dict := none, data := .seq its.toArray c', slots := #[] } -> EP X pins σ Q (.ref s.heap.objs.size) { s with heap := h' } := fun its r' hz h' c' kp e =>
  ⟨.ref s.heap.objs.size, _, I.laid (t' := s.toks) kp (Nat.le_refl _) (show ObjOk X.prog X.w _ h' _ (.lst ys) from ⟨hz, its, c', r', e⟩), rfl, q _ (I.hok.fresh (Nat.le_refl _))⟩
 rcases hq with hq | hq
 · obtain ⟨its, r', pl, hz⟩ := I.list hq
   have hlen := r'.length
   obtain ⟨o, ho, hc, n, hd⟩ := pl.isList
   exact call_list_seq p (.inl rfl) ho hc hd (fun h' c' kp e => fin its r' hz h' c' kp e) (by simp only [List.size_toArray] <;> omega)
 · obtain ⟨its, r', pl, hz⟩ := I.tuple hq
   have hlen := r'.length
   obtain ⟨o, ho, hc, n, hd⟩ := pl
   exact call_list_seq p (.inr rfl) ho hc hd (fun h' c' kp e => fin its r' hz h' c' kp e) (by simp only [List.size_toArray] <;> omega)
def tyV (K : PySem.W.Frag) (T : String) (x : V) (H : Hp) : Prop := match x with
 | .str _ => T = "str"
 | .int _ => T = "int"
 | .ref p => (T = "list" /\ ∃ xs, SqL K H p xs) \/ (T = "tuple" /\ ∃ o, K.lookup p = some o /\ o.cls = .type "tuple" /\ o.dict = none) \/
  (T = "dict" /\ ((∃ kvs, H p = some (.dK kvs)) \/ ∃ kvs, H p = some (.dT kvs))) \/ (T = "set" /\ ∃ S n, H p = some (.set S n)) \/ (T = "tuple" /\ ∃ xs, H p = some (.tup xs))
 | _ => False
theorem Zff {pins : List (Addr × Obj)} {σ : St} {H : Hp} {s : Shared} {T : String} {x : V} {v : Value} (I : Inv X pins σ H s) (r : RelV x v) (ty : tyV X.K T x H) :
 s.TypeIs v T /\ ∀ a, v = .ref a -> ∃ ob, s.heap.get? a = some ob /\ ob.dict = none := by
 cases x with
 | str z =>
  obtain ⟨t, rfl⟩ := r
  cases (show T = "str" from ty)
  exact ⟨typeIs_str s z t, fun _ e => nomatch e⟩
 | int i =>
  obtain ⟨t, rfl⟩ := r
  cases (show T = "int" from ty)
  exact ⟨typeIs_int s i t, fun _ e => nomatch e⟩
 | ref p =>
  cases r
  rcases ty with ⟨rfl, xs, hq⟩ | ⟨rfl, o, hk, hc, hd⟩ | ⟨rfl, hk⟩ | ⟨rfl, S, n, hk⟩ | ⟨rfl, xs, hk⟩
  · obtain ⟨its, _, pl, _⟩ := I.list hq
    refine ⟨pl.isList.typeIs, fun a e => ?_⟩
    cases e
    obtain ⟨o, n, e, c, hd, _⟩ := pl
    exact ⟨o, e, hd⟩
  · refine ⟨⟨o, I.kIn p o hk, hc⟩, fun a e => ?_⟩
    cases e
    exact ⟨o, I.kIn _ o hk, hd⟩
  · have z : ∃ o, s.heap.get? p = some o /\ o.ExactDict := by
     rcases hk with ⟨kvs, hk⟩ | ⟨kvs, hk⟩
     · obtain ⟨_, _, _, _, o, _, _, e, ex, _⟩ := I.hok p _ hk
       exact ⟨o, e, ex⟩
     · obtain ⟨_, _, _, _, o, _, _, e, ex, _⟩ := I.hok p _ hk
       exact ⟨o, e, ex⟩
    obtain ⟨o, e, ex⟩ := z
    refine ⟨⟨o, e, ex.1⟩, fun a e2 => ?_⟩
    cases e2
    exact ⟨o, e, ex.2.1⟩
  · obtain ⟨o, _, _, _, e, ex, _⟩ := I.hok p _ hk
    refine ⟨⟨o, e, ex.1⟩, fun a e2 => ?_⟩
    cases e2
    exact ⟨o, e, ex.2.1⟩
  · obtain ⟨_, its, _, o, e, c, _, dn⟩ := (show ObjOk X.prog X.w H s.heap p (.tup xs) from I.hok p _ hk)
    refine ⟨⟨o, e, c⟩, fun a e2 => ?_⟩
    cases e2
    exact ⟨o, e, dn⟩
 | _ => exact False.elim ty
def tBM (K : PySem.W.Frag) (T : String) (r : V -> List V -> Hp -> VK -> Prop) (to : TE) (t : TA) : TE := fun σ H Q => to σ H fun x H1 => tyV K T x H1 /\ t σ H1 fun xs H2 => r x xs H2 Q
variable {o e : Expr} {es : List Expr} {to : TE} {t : TA} {name : Str} {apos cpos : Pos} {T id : String} {r : V -> List V -> Hp -> VK -> Prop}
theorem ZfF (pa : PlainAttrs T) (slot : Slot T name id) (hty : typeOf (.builtin id) = pure (.type "method_descriptor")) (hm : MtR X id r) (ho : PE X o to) (ha : PA X (e :: es) t)
 (hbase : attributeBase o name X.env (eval o X.env) = eval o X.env := by rfl)
 (hfew : ((backTo cpos (starEach (e :: es) X.env)).all (fun x => !x.1) && (backToKw cpos (keywordEach [] X.env)).all (fun x => x.1.isSome)
   && decide ((e :: es).length + ([] : List Keyword).length + (if ([] : List Keyword).isEmpty then 0 else 1) < 30)) = true := by rfl)
 (hline : (apos.endLine == cpos.line) = true := by rfl) (hs : starEach (e :: es) X.env = (false, eval e X.env) :: starEach es X.env := by rfl) (hplain : (backTo cpos (starEach es X.env)).any (·.1) = false := by rfl) :
 PE X (.Call (.Attribute o name apos) (e :: es) [] cpos) (tBM X.K T r to t) := by
 intro pins s σ H Q I h
 refine wpAny_Call_method_late hbase hfew hline rfl (thn (ho pins s σ H _ I h) fun v s1 ⟨x, H1, I1, r1, ty, q1⟩ => ?_)
 obtain ⟨h1, h2⟩ := Zff I1 r1 ty
 refine ⟨T, id, pa, slot, hty, h1, h2, ?_⟩
 have hA := ha cpos pins s1 σ H1 _ I1 q1
 rw [hs] at hA ⊢
 refine Calls.callWith_builtin (by show (false || (backTo cpos (starEach es X.env)).any (·.1)) = false; rw [hplain] <;> rfl) (Calls.evalArgs_plain ?_)
 exact thn hA fun us s2 ⟨vs, H2, I2, r2, q2⟩ => hm pins s2 σ H2 x vs v us Q I2 r1 r2 q2
end
end L2
namespace L2
open PySem PySem.Spec PyProof.Rows
def MtM (X : Cx) (id : String) (r : V -> List V -> Hp -> VK -> Prop) : Prop :=
 ∀ (pins : List (Addr × Obj)) (s : Shared) (σ : St) (H : Hp) (x : V) (xs : List V) (v : Value) (us : List Value) (Q : VK), Inv X pins σ H s -> RelV x v -> Vals xs us -> r x xs H Q ->
  wpAny (model X.prog X.w) X.A (call (.builtin id) (v :: us)) (EP X pins σ Q) X.xe s
theorem Vals.one : ∀ {x : V} {us : List Value}, Vals [x] us -> ∃ u, us = [u] /\ RelV x u
 | _, _, .cons r .nil => ⟨_, rfl, r⟩
theorem Vals.rep {xs : List V} {us : List Value} (h : Vals xs us) : ∀ k : Nat, Vals (List.replicate k xs).flatten (List.replicate k us).flatten
 | 0 => .nil
 | k + 1 => by
  rw [List.replicate_succ, List.replicate_succ, List.flatten_cons, List.flatten_cons]
  exact Vals.append h (Vals.rep h k)
theorem ZaH (its : List Value) : ∀ (k : Nat) (acc : List Value),
 List.foldl (fun x1 x2 => x1 ++ x2) acc.toArray (List.replicate k its.toArray) = (acc ++ (List.replicate k its).flatten).toArray
 | 0, acc => by simp
 | k + 1, acc => by
  have e : acc.toArray ++ its.toArray = (acc ++ its).toArray := by simp
  have e2 : (acc ++ its) ++ (List.replicate k its).flatten = acc ++ (List.replicate (k + 1) its).flatten := by
   rw [List.replicate_succ, List.flatten_cons, List.append_assoc]
  rw [<- e2, <- ZaH its k (acc ++ its), <- e, List.replicate_succ, List.foldl_cons]
section
variable {X : Cx} {pins : List (Addr × Obj)} {σ : St} {H : Hp} {s : Shared} {l b : Addr} {xs ys zs : List V}
theorem Inv.lset {its its' : List Value} {n : Nat} {f : Array Value -> Array Value} {t' : Nat} (I : Inv X pins σ H s) (hH : H l = some (.lst xs))
 (e : s.heap.get? l = some { cls := .type "list", data := .seq its.toArray n }) (hf : f its.toArray = its'.toArray) (hv : Vals ys its') (hz : ys.length <= sizeLine) :
 Inv X pins σ (upd H l (.lst ys)) { s with heap := s.heap.update l (Obj.mapSeq f), toks := t' } := by
 have q := PySem.IsL.update e f
 rw [hf] at q
 refine I.write (x := l) (e := l) (by rw [hH]; exact trivial) (.inl rfl) (fun b' u hb hu => (Heap.get?_update_other s.heap (Obj.mapSeq f) (Ne.symm hb)).trans hu) ⟨_, q⟩ ?_
 exact ⟨hz, its', _, hv, q⟩
theorem Inv.lnew {its : List Value} {t' : Nat} (I : Inv X pins σ H s) (hv : Vals ys its) (hz : ys.length <= sizeLine) :
 Inv X pins σ (upd H s.heap.objs.size (.lst ys)) { s with heap := s.heap.push { cls := .type "list", data := .seq its.toArray }, toks := t' } :=
 I.laid (fun _ _ q => Heap.get?_push_of_some _ q) (Nat.le_refl _) ⟨hz, its, 0, hv, Heap.get?_push_size _ rfl⟩
theorem Inv.fresh (I : Inv X pins σ H s) : H s.heap.objs.size = none := I.hok.fresh (Nat.le_refl _)
theorem Inv.lstM (I : Inv X pins σ H s) (hH : H l = some (.lst xs)) : xs.length <= sizeLine /\ ∃ (its : List Value) (n : Nat), Vals xs its /\ xs.length = its.length /\ s.heap.get? l = some { cls := .type "list", data := .seq its.toArray n } := by
 obtain ⟨z, its, n, r, e⟩ := I.hok l _ hH
 exact ⟨z, its, n, r, r.length, e⟩
theorem ZcY {n : Nat} (h : n <= sizeLine) : Builtin.List.listTooLong n = false := by
 unfold Builtin.List.listTooLong
 exact decide_eq_false (by omega)
end
section
variable {X : Cx}
def rAppend : V -> List V -> Hp -> VK -> Prop := fun x vs H Q => ∃ l xs y, x = .ref l /\ vs = [y] /\ H l = some (.lst xs) /\ xs.length < sizeLine /\ Q .non (upd H l (.lst (xs ++ [y])))
theorem Vd : MtM X "list.append" rAppend := by
 intro pins s σ H x vs v us Q I rx rv h
 obtain ⟨l, xs, y, rfl, rfl, hH, hz, q⟩ := h
 cases rx
 obtain ⟨u, rfl, ru⟩ := rv.one
 obtain ⟨z, its, n, r, hl, e⟩ := I.lstM hH
 refine call_meets F.slot_list_append ⟨_, e, rfl⟩ F.entry_list_append (F.args_list_append_2 _ _) (PySem.list_append l its.toArray n u (by rw [List.size_toArray]; omega)) ⟨e, ?_⟩
 refine ⟨.non, _, I.lset (its' := its ++ [u]) hH e (by simp) (r.append (.cons ru .nil)) ?_, rfl, q⟩
 rw [List.length_append, List.length_singleton]
 omega
def Zg8 : R2 := fun x y H Q => ∃ l b xs zs, x = .ref l /\ y = .ref b /\ H l = some (.lst xs) /\ H b = some (.lst zs) /\ xs.length + zs.length <= sizeLine /\ ∀ p, H p = none -> Q (.ref p) (upd H p (.lst (xs ++ zs)))
theorem Zd4 {α : Type} (xs : List α) (k : Nat) : (List.replicate k xs).flatten.length = k * xs.length := by
 induction k with
 | zero => simp
 | succ k ih => rw [List.replicate_succ, List.flatten_cons, List.length_append, ih, Nat.succ_mul, Nat.add_comm]
end
section
variable {prog : Program} {w : World} {A : Around} {E : Value -> Shared -> Prop} {s : Shared}
set_option maxRecDepth 100000 in
end
section
variable {X : Cx}
end
end L2
namespace Att
open PySem PySem.W PySem.Calls PyProof.Rows
theorem Zam {P : Params} {h : Heap} : ∀ (ns : List Int) (vs : List Value), WellAll P h vs (ns.map WData.int) -> IntsAre vs ns := by
 intro ns
 induction ns with
 | nil =>
  intro vs w
  rw [List.map_nil] at w
  cases w
  exact .nil
 | cons n ns ih =>
  intro vs w
  rw [List.map_cons] at w
  cases w with
  | cons a b =>
   cases a
   exact .cons _ _ (ih _ b)
theorem Zcw {l : OpenLaw} {n : Nat} (hn : l.most = some n) {P : Params} {h : Heap} {args : List WData} {vals : List Value}
 (hpre : l.row.toRowW.claim.pre args = true) (hwl : WellAll P h vals args) :
 ∃ a vs ns, vals = [Value.ref a] /\ args = [WData.list (ns.map WData.int)] /\ h.get? a = some { cls := .type "list", data := .seq vs.toArray } /\ IntsAre vs ns /\ ns.length <= n := by
 have hsh : WShape.hasAll [] args [.list .int] = true := (pre_splitW hpre).1
 have hc : l.pre.holds [] { args := args } = true := (pre_splitW hpre).2
 obtain ⟨d, r, rfl, h1, h2⟩ := hasAllW_cons hsh
 obtain rfl := hasAllW_nil h2
 obtain ⟨xs, rfl, h3⟩ := hasW_list h1
 obtain ⟨ns, rfl⟩ := items_int h3
 have hlen : ns.length <= n := by
  unfold OpenLaw.pre at hc
  have h4 : (WTm.not (.lt (.lit (.int (n : Int))) (.len (.arg 0)))).holds [] { args := [.list (ns.map .int)] } = true := by
   have h4 := (holds_andW hc).1
   rw [hn] at h4
   exact h4
  have h5 := condW_of h4 (w_not (w_lt w_lit (w_len_list (w_arg rfl))))
  rw [List.length_map] at h5
  refine Nat.le_of_not_lt fun q => ?_
  have q' : (n : Int) < ((ns.length : Nat) : Int) := by omega
  first
   | (rw [decide_eq_true q'] at h5; exact absurd h5 (by decide))
   | (simp at h5; omega)
 cases hwl with
 | cons w1 w2 =>
  cases w2
  cases w1 with
  | list ho hall => exact ⟨_, _, ns, rfl, rfl, ho, Zam ns _ hall, hlen⟩
theorem Zcx (l : OpenLaw) (args : List WData) : l.row.toRowW.claim.post args (.bool true) args = true :=
 postW_of (r := l.row.toRowW) (X := (true == true))
  (show WShape.has [] (.bool true) .bool = true by first | rfl | decide | simp [WShape.has, WShape.arms, WShape.armsAll])
  (show (WTm.eq .res (.lit (.bool true))).value [] { args := args, res := some (.bool true), after := args } = some (.bool (true == true)) from w_eq_bool (w_res rfl) w_lit) rfl
theorem attach_call {l : OpenLaw} {n : Nat} {q : Program} {loose : List Str} {XP : (Str -> Option Value) -> Heap -> Prop} {YP : World -> Heap -> Prop} {d : DefRec}
 (hn : l.most = some n) (hdf : d.params.defaults = [])
 (call : ∀ (w : World) (s₀ s₁ : Shared) (mg mb : Str -> Option Value) (fa : Addr) (o : Obj) (pm cd doc : Value) (a : Addr) (vs : List Value) (ns : List Int),
   Ground q loose [] XP w s₀ mg mb s₁.heap -> YP w s₁.heap ->
   s₁.heap.get? fa = some o -> o.data = .func (docDef d.name d.params d.body d.scope pm cd doc) -> s₁.heap.CodeRec cd d.name -> mg d.name = some (.ref fa) ->
   s₁.heap.get? a = some { cls := .type "list", data := .seq vs.toArray } -> IntsAre vs ns -> ns.length <= n -> s₁.gens = #[] ->
   codeAny (model l.prog w) callerA (.call (.ref fa) ⟨[.ref a], []⟩) (fun r s' => r = .ok (.ret (.bool true)) /\ OldK s₁.heap s'.heap /\ s'.os = s₁.os /\ AllBare s'.gens) s₁) :
 WalkO q loose XP YP l.row.toRowW d [] (fun f vs => PySem.call f vs) := by
 intro w s₀ s₁ mg mb G Y fa o pm cd doc dV kV ho hd hcd hD hmg hg args vals as hpre hlay hrd hwl hlo
 obtain rfl : dV = .none := Dflts.none hD hdf
 obtain rfl : kV = .none := Dflts.noKw hD
 obtain ⟨a, vs, ns, rfl, rfl, hobj, hints, hlen⟩ := Zcw hn hpre hwl
 refine enter_call (codeAny_mono (call w s₀ s₁ mg mb fa o pm cd doc a vs ns G Y ho (fd_plain hd) hcd hmg hobj hints hlen hg) fun r s' hq => ?_)
 obtain ⟨rfl, h2, h3, h4⟩ := hq
 exact ⟨.inl ⟨.bool true, .bool true, [], rfl, fun _ => rfl, .bool true, Zcx l _, fun _ => ⟨List.Pairwise.nil, fun _ hm => (nomatch hm)⟩⟩, h2, h3, h4⟩
section
variable {prog : Program} {w : World} {A : Around} {E : Value -> Shared -> Prop} {s : Shared} {K : Frag}
end
end Att
namespace L2
open PySem PySem.Spec PyProof.Rows
theorem ZaI : ∀ {vs : List Value} {ns : List Int}, IntsAre vs ns -> Vals (ns.map V.int) vs
 | _, _, .nil => .nil
 | _, _, .cons n t h => .cons ⟨t, rfl⟩ (ZaI h)
def Jh (H : Hp) : Prop := ∀ b, H b = none \/ ∃ o xs, H b = some (.frz o (.lst xs))
theorem ZcZ {P : Program} {w : World} {K : PySem.W.Frag} {mg mb : Str -> Option Value} {CX : CXT} {k : Nat} {fa a : Addr} {fd : FuncData} {x : Str} {sp : Sp} {s₁ : Shared} {vs : List Value} {ns : List Int}
 (KX : K.In s₁.heap) (hns : s₁.heap.Ns mainGlobals mg) (hb : s₁.heap.Ns builtinsNs mb) (hbb : ∀ x : Str, x ≠ "__name__" -> mb x = bootBuiltins x) (hlim : s₁.heap.NoLimit) (hg : s₁.gens = #[])
 (ha : s₁.heap.get? a = some { cls := .type "list", data := .seq vs.toArray }) (hi : IntsAre vs ns) (hl : ns.length <= sizeLine) (hr : Room k callerA)
 (F : ∀ base : Heap, K.In base -> base.Ns mainGlobals mg -> FnOk P w K mg base CX k fa fd [x] sp) (hbind : ∀ (s : Shared) (u : Value), BindsTo s fd ⟨[u], []⟩ [(x, u)])
 (hsp : ∀ H : Hp, Jh H -> SqL K H a (ns.map V.int) -> sp [.ref a] H (fun v _ => v = .bl true) fun _ _ _ => False)
 (hCX : ∀ H e s', CX [] H s₁ (fun _ _ _ => False) e s' -> False) :
 codeAny (model P w) callerA (.call (.ref fa) ⟨[.ref a], []⟩) (fun r s' => r = .ok (.ret (.bool true)) /\ OldK s₁.heap s'.heap /\ s'.os = s₁.os /\ AllBare s'.gens) s₁ := by
 have rv := ZaI hi
 have lenV := hi.length
 have core : ∀ H : Hp, Jh H -> SqL K H a (ns.map V.int) -> HOk P w H s₁.heap -> (∀ b, H b ≠ none -> b = a) -> (H a ≠ none -> K.lookup a = none) ->
  codeAny (model P w) callerA (.call (.ref fa) ⟨[.ref a], []⟩) (fun r s' => r = .ok (.ret (.bool true)) /\ OldK s₁.heap s'.heap /\ s'.os = s₁.os /\ AllBare s'.gens) s₁ := by
  intro H hO hS hok hA hK
  have base_of : ∀ {b : Addr} {o : Obj}, s₁.heap.get? b = some o -> H b = none -> (Xp s₁.heap H).get? b = some o := fun e n => ZcV e n
  have noA : ∀ {b : Addr} {o : Obj} {es : Array DictEntry} {ep : Nat}, s₁.heap.get? b = some o -> o.data = .dict es ep -> H b = none := fun {b o es ep} e d => by
   cases q : H b with
   | none => rfl
   | some u =>
    have e' : b = a := hA b (by rw [q]; simp)
    subst e'
    rw [ha] at e; cases e
    have d' : Data.seq vs.toArray _ = Data.dict es ep := d
    cases d'
  have nsK : ∀ {b : Addr} {m : Str -> Option Value}, s₁.heap.Ns b m -> (Xp s₁.heap H).Ns b m := fun {b m} ⟨o, es, ep, e, d, r⟩ => ⟨o, es, ep, base_of e (noA e d), d, r⟩
  have hKb : K.In (Xp s₁.heap H) := fun b o e => base_of (KX b o e) (by
   cases q : H b with
   | none => rfl
   | some u =>
    have e' : b = a := hA b (by rw [q]; simp)
    subst e'
    rw [hK (by rw [q]; simp)] at e; cases e)
  have hM : Mod K mg (Xp s₁.heap H) := ⟨hKb, nsK hns, ⟨mb, nsK hb, hbb⟩, let ⟨mc, h1, h2⟩ := hlim; ⟨mc, nsK h1, h2⟩⟩
  have e0 : Env0 P w K mg (Xp s₁.heap H) callerA [] s₁ H := ⟨rfl, hM, fun b o e => Zd0 e, Nat.le_of_eq (Zcq _ _), trivial, fun b hb => absurd (show b ∈ ([] : List Addr) from hb) (by simp), hok, .of_eq hg⟩
  refine codeAny_mono ((F _ hKb (nsK hns)).run callerA [] s₁ H ⟨[.ref a], []⟩ [.ref a] [.ref a] _ _ hr e0 (hbind s₁ (.ref a)) (.cons rfl .nil) (hsp H hO hS)) fun r s' h => ?_
  cases r with
  | error e => exact (hCX H e s' h).elim
  | ok fl =>
   cases fl with
   | next => exact False.elim h
   | brk => exact False.elim h
   | cont => exact False.elim h
   | ret u =>
    obtain ⟨v, H', os, bare, un, hok', r', q⟩ := h
    have q' : v = .bl true := q
    subst q'
    obtain rfl : u = Value.bool true := r'
    refine ⟨rfl, OldK.of_keep fun b o e => ?_, os, bare⟩
    cases q : H b with
    | none => exact un.keep b o e q (by intro z; exact absurd (show b ∈ ([] : List Addr) from z) (by simp)) (by simp)
    | some u =>
     rcases hO b with z | ⟨ob, xs, z⟩
     · rw [q] at z; cases z
     · have z2 := un.frzs b ob _ z
       obtain ⟨e1, _⟩ := hok b _ z
       obtain ⟨e2, _⟩ := hok' b _ z2
       rw [e] at e1; cases e1
       exact e2
 cases hk : K.lookup a with
 | some o =>
  have e := KX a o hk
  rw [ha] at e
  cases e
  refine core (fun _ => none) (fun _ => .inl rfl) (.inr ⟨_, vs.toArray, _, hk, rfl, rfl, rfl, by rw [List.size_toArray, lenV]; exact hl, by simpa using rv⟩) (fun b u z => by have z' : (none : Option HO) = some u := z; cases z') (fun b z => absurd rfl z) fun z => absurd rfl z
 | none =>
  refine core (fun b => if b = a then some (.frz { cls := .type "list", data := .seq vs.toArray } (.lst (ns.map V.int))) else none) (fun b => ?_) (.inl (.inr ⟨{ cls := .type "list", data := .seq vs.toArray }, if_pos rfl⟩)) (fun b u z => ?_) (fun b z => ?_) fun _ => hk
  · by_cases hb : b = a
    · exact .inr ⟨_, _, if_pos hb⟩
    · exact .inl (if_neg hb)
  · by_cases hb : b = a
    · have z' := (if_pos hb).symm.trans z
      cases z'
      subst hb
      exact ⟨ha, by rw [List.length_map]; exact hl, vs, _, rv, ha⟩
    · have z' := (if_neg hb).symm.trans z
      cases z'
  · by_cases hb : b = a
    · exact hb
    · exact absurd (if_neg hb) z
end L2
namespace L2
open PySem PySem.Spec PyProof.Rows
theorem walk_of {l : PySem.W.OpenLaw} {n k : Nat} {q : Program} {loose : List Str} {XP : (Str -> Option Value) -> Heap -> Prop} {YP : World -> Heap -> Prop} {d : DefRec} {K : Params -> PySem.W.Frag} {CX : World -> CXT} {sp : World -> Sp} {x : Str}
 (hn : l.most = some n) (hn2 : n <= sizeLine) (hdf : d.params.defaults = []) (hr : Room k callerA)
 (hY : ∀ (w : World) (h : Heap), YP w h -> (K w.params).In h)
 (F : ∀ (w : World) (mg : Str -> Option Value) (fa : Addr) (h : Heap), (K w.params).In h -> h.Ns mainGlobals mg -> mg d.name = some (.ref fa) ->
   ∃ fd : FuncData, (∀ (s : Shared) (u : Value), BindsTo s fd ⟨[u], []⟩ [(x, u)]) /\
    ∀ base : Heap, (K w.params).In base -> base.Ns mainGlobals mg -> FnOk l.prog w (K w.params) mg base (CX w) k fa fd [x] (sp w))
 (hsp : ∀ (w : World) (H : Hp) (a : Addr) (ns : List Int), ns.length <= n -> Jh H -> SqL (K w.params) H a (ns.map V.int) -> sp w [.ref a] H (fun v _ => v = .bl true) fun _ _ _ => False)
 (hCX : ∀ (w : World) (H : Hp) (s : Shared) (e : Value) (s' : Shared), CX w [] H s (fun _ _ _ => False) e s' -> False) :
 PySem.W.WalkO q loose XP YP l.row.toRowW d [] (fun f vs => PySem.call f vs) := by
 refine Att.attach_call hn hdf fun w s₀ s₁ mg mb fa o pm cd doc a vs ns G Y ho hd hcd hmg hobj hints hlen hg => ?_
 have KX := hY w _ Y
 obtain ⟨fd, hb, hF⟩ := F w mg fa _ KX G.T.g hmg
 exact ZcZ KX G.T.g G.T.b G.T.builtins G.T.nolimit hg hobj hints (Nat.le_trans hlen hn2) hr hF hb (fun H hO hS => hsp w H a ns hlen hO hS) fun H e s' => hCX w H s₁ e s'
end L2
namespace L2
open PySem PySem.Spec PyProof.Rows
def ZS (s : Stmt) : Arguments := match s with
 | .FunctionDef _ a _ _ _ _ _ _ _ _ => a
 | _ => { posonlyargs := [], args := [], vararg := none, kwonlyargs := [], kw_defaults := [], kwarg := none, defaults := [] }
def ZK (s : Stmt) : List Stmt := match s with
 | .FunctionDef _ _ b _ _ _ _ _ _ _ => b
 | _ => []
def Zo (s : Stmt) : Scope := match s with
 | .FunctionDef _ _ _ _ _ _ sc _ _ _ => sc
 | _ => { kind := .function, names := [], isGenerator := false, isCoroutine := false }
abbrev CX0 : CXT := fun _ _ _ _ _ _ => False
abbrev E0 : XK := fun _ _ _ => False
theorem ZW {X : Cx} : Je CX0 X E0 := fun _ _ _ _ _ _ _ h => h.elim
structure Fun (K : PySem.W.Frag) (x qual : Str) (st : Stmt) (f : Addr) (fd : FuncData) : Prop where
 ex : ∃ (oc : Value) (od : Option Addr) (kV doc pm : Value) (an : Option Addr) (cdv ct : Value) (osl : Array (Option Value)),
  fd = PySem.W.fnOf x qual (ZS st) (ZK st) (Zo st) .none kV doc pm an cdv ct /\ K.lookup f = some ⟨oc, od, .func fd, osl⟩ /\ PySem.W.codeIn K cdv qual = true
 kp : PySem.W.keepIn K (.ref f) = true
section
variable {P : Program} {w : World} {K : PySem.W.Frag} {mg : Str -> Option Value} {base : Heap}
theorem Fun.ok {x qual : Str} {st : Stmt} {f : Addr} {fd : FuncData} {N ps : List Str} {k : Nat} {sp : Sp} (F : Fun K x qual st f fd) (S : FnScope N ps (Zo st)) (len : ∀ vs H Q E, sp vs H Q E -> vs.length = ps.length)
 (hbody : ∀ (cdv : Value) (A : Around) (outer : List Env) (s : Shared) (H : Hp) (vs : List V) (Q : VK) (E : XK), Room k (A.deeper (envOfC qual (Zo st) s.heap.objs.size f cdv)) -> sp vs H Q E ->
   ∃ t, PSs (Xa CX0 P w K mg base N qual (Zo st) f cdv A outer s H E).nox (ZK st) t /\ t { nx := fun _ H' => Q .non H', rt := Q } (start N vs) H) : FnOk P w K mg base CX0 (k + 1) f fd ps sp := by
 obtain ⟨oc, od, kV, doc, pm, an, cdv, ct, osl, rfl, lk, hcd⟩ := F.ex
 refine ZeL lk hcd S len fun A outer s H vs Q E hr hsp => ?_
 obtain ⟨t, h, q⟩ := hbody cdv A outer s H vs Q E hr hsp
 exact ⟨t, h.nox, q⟩
theorem Fun.binds {x qual : Str} {st : Stmt} {f : Addr} {fd : FuncData} {ps : List Str} (F : Fun K x qual st f fd)
 (h : ∀ (kV doc pm : Value) (an : Option Addr) (cdv ct : Value) (us : List Value), us.length = ps.length -> bindArgs (PySem.W.fnOf x qual (ZS st) (ZK st) (Zo st) .none kV doc pm an cdv ct) ⟨us, []⟩ = pure (ps.zip us)) : Binds K fd ps [] := by
 obtain ⟨oc, od, kV, doc, pm, an, cdv, ct, osl, rfl, lk, hcd⟩ := F.ex
 exact .all (h kV doc pm an cdv ct)
theorem Zy {x qual : Str} {st : Stmt} {f : Addr} {oc : Value} {od an : Option Addr} {osl : Array (Option Value)} {kV doc pm cdv ct : Value} (l : K.lookup f = some ⟨oc, od, .func (PySem.W.fnOf x qual (ZS st) (ZK st) (Zo st) .none kV doc pm an cdv ct), osl⟩)
 (c : PySem.W.codeIn K cdv qual = true) (k : PySem.W.keepIn K (.ref f) = true) : Fun K x qual st f (PySem.W.fnOf x qual (ZS st) (ZK st) (Zo st) .none kV doc pm an cdv ct) := ⟨⟨oc, od, kV, doc, pm, an, cdv, ct, osl, rfl, l, c⟩, k⟩
end
section
variable {X : Cx}
theorem pv (i : Nat) {x : Str} {pos : Pos} (hN : X.N[i]? = some x := by rfl) (hv : Vis X.env.scope x := by first | exact Or.inl rfl | exact Or.inr (Or.inl rfl) | exact Or.inr (Or.inr rfl)) (hd : (x == ("__debug__" : Str)) = false := by decide)
 (hcd : (x == ("__classdict__" : Str)) = false := by decide) : PE X (.Name x pos) (Vr i) := Ze4 hN hv hd hcd
end
theorem Vx {A B : Prop} (h : B) : if false = true then A else B := by
 rw [if_neg Bool.false_ne_true]
 exact h
theorem Vy {A B : Prop} (h : A) : if true = true then A else B := by
 rw [if_pos rfl]
 exact h
def Same (H H' : Hp) : Prop := ∀ b o, H b = some o -> H' b = some o
theorem Same.refl (H : Hp) : Same H H := fun _ _ h => h
theorem Same.trans {H H1 H2 : Hp} (a : Same H H1) (b : Same H1 H2) : Same H H2 := fun c o h => b c o (a c o h)
theorem Same.free {H H' : Hp} (e : Same H H') {l : Addr} (h : H' l = Option.none) : H l = Option.none := by
 cases q : H l with
 | none => rfl
 | some o =>
  rw [e l o q] at h
  cases h
theorem Same.seq {K : PySem.W.Frag} {H H' : Hp} {a : Addr} {xs : List V} (e : Same H H') (h : SqL K H a xs) : SqL K H' a xs := by
 rcases h with (h | ⟨o, h⟩) | h
 · exact .inl (.inl (e _ _ h))
 · exact .inl (.inr ⟨o, e _ _ h⟩)
 · exact .inr h
end L2
namespace L2
open PySem Builtin Builtin.Str
abbrev tx (cs : List Nat) : Str := ⟨cs.toArray⟩
theorem tx_inj {a b : List Nat} : tx a = tx b ↔ a = b := by
 constructor
 · intro h
   have h2 : a.toArray = b.toArray := congrArg Str.cps h
   simpa using h2
 · rintro rfl; rfl
theorem U8 (cs : List Nat) : (tx cs).cps.toList = cs := by simp [tx]
theorem YM (cs : List Nat) : (tx cs).length = cs.length := by simp [tx, Str.length]
theorem Zfg (a b : List Nat) : tx a ++ tx b = tx (a ++ b) := by
 show Str.mk (a.toArray ++ b.toArray) = Str.mk (a ++ b).toArray
 simp
def ZN (n d : Nat) : Option Int -> Nat
 | none => d
 | some v => if v < 0 then (v + (n : Int)).toNat else min v.toNat n
def cutL {α : Type} (xs : List α) (lo hi : Option Int) : List α := (xs.drop (ZN xs.length 0 lo)).take (ZN xs.length xs.length hi - ZN xs.length 0 lo)
theorem ZdA (lo hi : Option Int) (n : Nat) : strSliceIndices lo hi 1 n = (List.range (ZN n n hi - ZN n 0 lo)).map fun k => ZN n 0 lo + k := by
 have clip : ∀ v : Int, max 0 (min (if v < 0 then v + (n : Int) else v) (n : Int)) = (((if v < 0 then (v + (n : Int)).toNat else min v.toNat n) : Nat) : Int) := by
  intro v
  by_cases h : v < 0
  · rw [if_pos h, if_pos h]; omega
  · rw [if_neg h, if_neg h]; omega
 have key : ∀ (a b : Nat), sliceRange (a : Int) (b : Int) 1 = (List.range (b - a)).map fun k => a + k := by
  intro a b
  unfold sliceRange
  simp only [show (1 : Int) > 0 by decide, if_true]
  have e : (if (a : Int) < (b : Int) then ((b : Int) - (a : Int) + 1 - 1) / 1 else 0).toNat = b - a := by
   split
   · rw [Int.ediv_one]; omega
   · omega
  rw [e]
  refine List.map_congr_left fun k _ => ?_
  omega
 unfold strSliceIndices
 simp only [show (1 : Int) > 0 by decide, if_true]
 cases lo with
 | none =>
  cases hi with
  | none => exact key 0 n
  | some v =>
   have := key 0 (ZN n n (some v))
   refine Eq.trans ?_ this
   show sliceRange 0 (max 0 (min (if v < 0 then v + (n : Int) else v) (n : Int))) 1 = _
   rw [clip v]
   rfl
 | some u =>
  cases hi with
  | none =>
   have := key (ZN n 0 (some u)) n
   refine Eq.trans ?_ this
   show sliceRange (max 0 (min (if u < 0 then u + (n : Int) else u) (n : Int))) n 1 = _
   rw [clip u]
   rfl
  | some v =>
   have := key (ZN n 0 (some u)) (ZN n n (some v))
   refine Eq.trans ?_ this
   show sliceRange (max 0 (min (if u < 0 then u + (n : Int) else u) (n : Int))) (max 0 (min (if v < 0 then v + (n : Int) else v) (n : Int))) 1 = _
   rw [clip u, clip v]
   rfl
theorem Zbh {α : Type} (xs : List α) (l : Nat) : ∀ k, l + k <= xs.length -> ((List.range k).map fun j => l + j).filterMap (fun j => xs[j]?) = (xs.drop l).take k
 | 0, _ => by simp
 | k + 1, h => by
  rw [List.range_succ, List.map_append, List.filterMap_append, Zbh xs l k (by omega)]
  have hx : xs[l + k]? = some (xs[l + k]'(by omega)) := List.getElem?_eq_getElem (by omega)
  rw [List.take_add_one, List.getElem?_drop, hx]
  simp [hx]
theorem Zcy (n : Nat) (o : Option Int) : ZN n n o <= n := by
 cases o with
 | none => exact Nat.le_refl _
 | some v =>
  show (if v < 0 then (v + (n : Int)).toNat else min v.toNat n) <= n
  split <;> omega
theorem Zc0 (cs : List Nat) (lo hi : Option Int) : Txt.slice (tx cs) lo hi = tx (cutL cs lo hi) := by
 have hn : (tx cs).length = cs.length := YM cs
 have hb := Zcy cs.length hi
 have hp : ((strSliceIndices lo hi 1 cs.length).filterMap fun j => cs[j]?) = cutL cs lo hi := by
  rw [ZdA]
  unfold cutL
  by_cases h : ZN cs.length 0 lo <= ZN cs.length cs.length hi
  · exact Zbh cs _ _ (by omega)
  · have e : ZN cs.length cs.length hi - ZN cs.length 0 lo = 0 := by omega
    rw [e]
    simp
 unfold Txt.slice
 rw [hn]
 by_cases hc : ((1 : Int) == 1 && (strSliceIndices lo hi 1 cs.length).length == cs.length) = true
 · rw [if_pos hc]
   have hl : (strSliceIndices lo hi 1 cs.length).length = cs.length := by simpa using hc
   rw [ZdA, List.length_map, List.length_range] at hl
   have e0 : ZN cs.length 0 lo = 0 \/ cs.length = 0 := by omega
   rw [tx_inj]
   unfold cutL
   rw [hl]
   rcases e0 with e0 | e0
   · rw [e0]; simp
   · have : cs = [] := List.eq_nil_of_length_eq_zero e0
     subst this
     simp
 · rw [if_neg hc]
   have : ((strSliceIndices lo hi 1 cs.length).filterMap fun j => (tx cs).cps[j]?) = cutL cs lo hi := by
    rw [<- hp]
    simp [tx]
   rw [this]
end L2
namespace L2
open PySem Builtin Builtin.Str
def U9 (c : Nat) : Bool := decide (48 <= c) && decide (c <= 57)
def Ji (cs : List Nat) : Nat := cs.foldl (fun acc c => acc * 10 + (c - 48)) 0
end L2
namespace L2
open PySem PySem.Spec PyProof.Rows
section
variable {prog : Program} {w : World} {A : Around} {R : Result -> Shared -> Prop} {s : Shared}
theorem Za1 {elt target iter : Expr} {ifs : List Expr} {scope : Scope} {pos : Pos} {it acc : Value} {env : Env} (I : Nat -> Shared -> Prop)
 (turn : ∀ n s, I n s -> wpAny (model prog w) A (pyNext it) (fun r s₁ => match r with
   | none => R (.ok .next) s₁
   | some v => wpAny (model prog w) A (letOwnedTupleGo target it v) (fun _ s₀ => wpAny (model prog w) A (assign target env v) (fun _ s₂ =>
    wpAny (model prog w) A (forIn ifs true fun c r => if r = true then do let ok <- isTrue c env (eval c env); pure (ForInStep.yield ok) else pure (ForInStep.yield r)) (fun ok s₃ =>
     if ok = true then wpAny (model prog w) A (eval elt env) (fun x s₄ =>
      wpAny (model prog w) A (call (.builtin "list.append") [acc, x]) (fun _ s₅ => ∃ m, m < n /\ I m s₅) (notedBy (model prog w) A env fun e s' => R (.error e) s') s₄) (notedBy (model prog w) A env fun e s' => R (.error e) s') s₃
     else ∃ m, m < n /\ I m s₃) (notedBy (model prog w) A env fun e s' => R (.error e) s') s₂) (notedBy (model prog w) A env fun e s' => R (.error e) s') s₀) (notedBy (model prog w) A env fun e s' => R (.error e) s') s₁) (notedBy (model prog w) A env fun e s' => R (.error e) s') s)
 (n : Nat) (h : I n s) :
 codeAny (model prog w) A (.compLoop (.ListComp elt [⟨target, iter, ifs, 0⟩] scope pos) 0 it acc env) R s := by
 refine codeAny_loop rfl I (fun n s hI => ?_) n h
 show wpAny _ A ((compTurn (.ListComp elt [⟨target, iter, ifs, 0⟩] scope pos) 0 it acc env).onRaise (fun x => do noteFrame x env; theTreesLotGoes x)) _ _ s
 refine wpAny_noted ?_
 rw [compTurn_list]
 refine wpAny_bind (wpAny_standAt (wpAny_bind (wpAny_mono (turn n s hI) (fun r s₁ h₁ => ?_) fun _ _ h' => h')))
 cases r with
 | none => exact wpAny_pure h₁
 | some v =>
  refine wpAny_bind (wpAny_mono h₁ (fun _ s₀ h₀ => ?_) fun _ _ h' => h')
  refine wpAny_bind (wpAny_mono h₀ (fun _ s₂ h₂ => wpAny_bind (wpAny_mono h₂ (fun ok s₃ h₃ => ?_) fun _ _ h' => h')) fun _ _ h' => h')
  cases ok with
  | false => exact wpAny_pure ⟨rfl, h₃⟩
  | true =>
   exact wpAny_bind (wpAny_bind (wpAny_mono h₃ (fun x s₄ h₄ => wpAny_bind (wpAny_mono h₄ (fun _ s₅ h₅ => wpAny_pure (wpAny_pure ⟨rfl, h₅⟩)) fun _ _ h' => h')) fun _ _ h' => h'))
end
def Yp (cells : List (Str × Addr)) : List (Str × NameKind) -> List (Str × Addr) -> List (Str × Addr)
 | [], acc => acc
 | (n, k) :: r, acc => Yp cells r (if (k == .free) = true then (n, (cells.lookup n).getD 0) :: acc else acc)
theorem Jj {env : Env} : ∀ (names : List (Str × NameKind)) (acc : List (Str × Addr)), (∀ x ∈ names, x.2 = .free -> ∃ c, env.cells.lookup x.1 = some c) ->
 (forIn names acc fun (x : Str × NameKind) (r : List (Str × Addr)) => match x with
   | (name, kind) => if (kind == .free) = true then (do let c <- cellOf env name; pure (ForInStep.yield ((name, c) :: r))) else pure (ForInStep.yield r)) = (pure (Yp env.cells names acc) : Sem _)
 | [], acc, _ => rfl
 | (n, k) :: r, acc, h => by
  rw [List.forIn_cons]
  show ((if (k == .free) = true then (do let c <- cellOf env n; pure (ForInStep.yield ((n, c) :: acc))) else pure (ForInStep.yield acc)) >>= _) = _
  by_cases hk : (k == .free) = true
  · obtain ⟨c, hc⟩ := h (n, k) List.mem_cons_self (by simpa using hk)
    have e : cellOf env n = pure c := by
     unfold cellOf
     rw [hc]
    rw [if_pos hk, e]
    show (forIn r ((n, c) :: acc) _ : Sem _) = _
    rw [Jj r _ fun x hx => h x (List.mem_cons_of_mem _ hx)]
    conv => rhs; unfold Yp
    rw [if_pos hk, hc]
    rfl
  · rw [if_neg hk]
    show (forIn r acc _ : Sem _) = _
    rw [Jj r _ fun x hx => h x (List.mem_cons_of_mem _ hx)]
    conv => rhs; unfold Yp
    rw [if_neg hk]
theorem Zae {scope : Scope} {env : Env} (h : ∀ x ∈ scope.names, x.2 = .free -> ∃ c, env.cells.lookup x.1 = some c) : closureFor scope env = pure (Yp env.cells scope.names []) := by
 have e := Jj (env := env) scope.names [] h
 unfold closureFor
 show ((forIn scope.names ([] : List (Str × Addr)) _ : Sem _) >>= fun cs => pure cs) = _
 have e2 : (forIn scope.names ([] : List (Str × Addr)) fun (x : Str × NameKind) (r : List (Str × Addr)) => match x with
  | (name, kind) => if (kind == .free) = true then (do let c <- cellOf env name; pure (ForInStep.yield ((name, c) :: r))) else pure (ForInStep.yield r)) = (pure (Yp env.cells scope.names []) : Sem _) := e
 rw [e2]
 rfl
theorem Xt {cells : List (Str × Addr)} {x : Str} {c : Addr} : ∀ (names : List (Str × NameKind)) (acc : List (Str × Addr)), (∀ y ∈ names, y.2 = .free -> ∃ c, cells.lookup y.1 = some c) ->
 (∀ c, acc.lookup x = some c -> cells.lookup x = some c) -> (Yp cells names acc).lookup x = some c -> cells.lookup x = some c
 | [], acc, _, ha, h => ha c h
 | (n, k) :: r, acc, hf, ha, h => by
  unfold Yp at h
  refine Xt r _ (fun y hy => hf y (List.mem_cons_of_mem _ hy)) (fun c' h' => ?_) h
  by_cases hk : (k == .free) = true
  · rw [if_pos hk] at h'
    obtain ⟨c0, hc0⟩ := hf (n, k) List.mem_cons_self (by simpa using hk)
    rw [List.lookup_cons] at h'
    cases hx : x == n with
    | true =>
     rw [hx] at h'
     have e : x = n := eq_of_beq hx
     subst e
     have h'' : (cells.lookup x).getD 0 = c' := Option.some.inj h'
     have hc0' : cells.lookup x = some c0 := hc0
     rw [hc0'] at h'' ⊢
     exact congrArg some h''
    | false =>
     rw [hx] at h'
     exact ha c' h'
  · rw [if_neg hk] at h'
    exact ha c' h'
theorem Jk {cells : List (Str × Addr)} {x : Str} : ∀ (names : List (Str × NameKind)) (acc : List (Str × Addr)), ((x, NameKind.free) ∈ names \/ ∃ c, acc.lookup x = some c) -> ∃ c, (Yp cells names acc).lookup x = some c
 | [], acc, h => by
  rcases h with h | h
  · cases h
  · exact h
 | (n, k) :: r, acc, h => by
  unfold Yp
  refine Jk r _ ?_
  rcases h with h | ⟨c, h⟩
  · rcases List.mem_cons.mp h with e | e
    · cases e
      refine .inr ⟨(cells.lookup x).getD 0, ?_⟩
      rw [if_pos (by rfl), List.lookup_cons]
      simp
    · exact .inl e
  · refine .inr ?_
    by_cases hk : (k == .free) = true
    · rw [if_pos hk, List.lookup_cons]
      cases hx : x == n with
      | true => exact ⟨_, rfl⟩
      | false => exact ⟨c, h⟩
    · rw [if_neg hk]
      exact ⟨c, h⟩
structure CompSc (X : Cx) (scope : Scope) (tn cn : List Str) (js : List Nat) : Prop where
 kind : scope.kind = .function
 nocell : ∀ y ∈ scope.names, y.2 ≠ .cell
 names : ∀ y ∈ scope.names, y.2 = .local -> scope.names.lookup y.1 = some .local
 free : ∀ y ∈ scope.names, y.2 = .free -> X.env.kindOf y.1 = some .cell \/ X.env.kindOf y.1 = some .free
 cap : ∀ (k : Nat) (x : Str), cn[k]? = some x -> ∃ j, js[k]? = some j /\ X.N[j]? = some x /\ (X.env.kindOf x = some .cell \/ X.env.kindOf x = some .free) /\ scope.names.lookup x = some .free
 len : cn.length = js.length
def Zb0 (onames : List (Str × NameKind)) (oN : List Str) (names : List (Str × NameKind)) (cn : List Str) (js : List Nat) : Bool :=
 names.all (fun y => !(y.2 == .cell)) && names.all (fun y => !(y.2 == .local) || (names.lookup y.1 == some .local)) &&
 names.all (fun y => !(y.2 == .free) || (onames.lookup y.1 == some .cell || onames.lookup y.1 == some .free)) &&
 ((cn.zip js).all fun p => oN[p.2]? == some p.1 && (onames.lookup p.1 == some .cell || onames.lookup p.1 == some .free) && names.lookup p.1 == some .free) && (cn.length == js.length)
theorem CompSc.mk' {X : Cx} {scope : Scope} {tn cn : List Str} {js : List Nat} {osc : Scope} {oN : List Str} (hk : scope.kind = .function) (ho : X.env.scope = osc) (hN : X.N = oN) (h : Zb0 osc.names oN scope.names cn js = true) : CompSc X scope tn cn js := by
 unfold Zb0 at h
 simp only [Bool.and_eq_true] at h
 obtain ⟨⟨⟨⟨h1, h2⟩, h3⟩, h4⟩, h5⟩ := h
 rw [List.all_eq_true] at h1 h2 h3 h4
 have hlen : cn.length = js.length := by simpa using h5
 refine ⟨hk, fun y hy => ?_, fun y hy e => ?_, fun y hy e => ?_, fun k x e => ?_, hlen⟩
 · have := h1 y hy
   simpa using this
 · have := h2 y hy
   simpa [e] using this
 · have := h3 y hy
   unfold Env.kindOf
   rw [ho]
   simpa [e] using this
 · have hkl : k < cn.length := (List.getElem?_eq_some_iff.mp e).1
   have hkj : k < js.length := by omega
   refine ⟨js[k], by simp [hkj], ?_⟩
   have hz : (x, js[k]) ∈ cn.zip js := by
    have e2 : (cn.zip js)[k]? = some (x, js[k]) := by
     rw [List.getElem?_zip_eq_some]
     exact ⟨e, by simp [hkj]⟩
    exact List.mem_of_getElem? e2
   have := h4 _ hz
   unfold Env.kindOf
   rw [ho, hN]
   simp only [Bool.and_eq_true, Bool.or_eq_true, beq_iff_eq] at this
   exact ⟨this.1.1, this.1.2, this.2⟩
def V9 (σ : St) (js : List Nat) : St := js.map fun j => (σ[j]?).getD none
def blk (n : Nat) (σ : St) (js : List Nat) : St := List.replicate n none ++ V9 σ js
def Vz (X : Cx) (scope : Scope) (N' : List Str) (C : Addr) (s₂ : Shared) (H₂ : Hp) (fp : List Addr) (xe : Value -> Shared -> Prop) : Cx :=
 { X with N := N', s₀ := s₂, H₀ := H₂, env := compEnvC scope (Yp X.env.cells scope.names []) C X.env, outer := X.stack, ex := fp, fn := fun _ => false, pn := [], xe := xe }
section
variable {X : Cx} {pins : List (Addr × Obj)} {σ : St} {H₂ : Hp} {s₂ : Shared} {scope : Scope} {tn cn : List Str} {js : List Nat}
theorem CompSc.clos (S : CompSc X scope tn cn js) (ok : X.Ok) : ∀ y ∈ scope.names, y.2 = .free -> ∃ c, X.env.cells.lookup y.1 = some c := fun y hy e => ok.has y.1 (S.free y hy e)
theorem Jl {env : Env} : ∀ {names : List (Str × NameKind)} {x : Str} {k : NameKind}, (names.map fun (n, k) => if (k == NameKind.free && env.scope.kind == .function && env.kindOf n == some .cell) then (n, NameKind.cell) else (n, k)).lookup x = some k ->
 (k = .cell \/ k = .free) -> (∀ y ∈ names, y.2 ≠ .cell) -> (x, NameKind.free) ∈ names
 | [], _, _, h, _, _ => by simp at h
 | (n, k0) :: r, x, k, h, hk, hc => by
  have ih := @Jl env r x k
  have h : List.lookup x ((if (k0 == NameKind.free && env.scope.kind == .function && env.kindOf n == some .cell) = true then (n, NameKind.cell) else (n, k0)) :: _) = _ := h
  by_cases hb : (k0 == NameKind.free && env.scope.kind == .function && env.kindOf n == some .cell) = true
  · rw [if_pos hb, List.lookup_cons] at h
    have e0 : k0 = .free := by
     simp only [Bool.and_eq_true] at hb
     simpa using hb.1.1
    cases hx : x == n with
    | true =>
     have e : x = n := eq_of_beq hx
     subst e; subst e0
     exact List.mem_cons_self
    | false =>
     rw [hx] at h
     exact List.mem_cons_of_mem _ (ih h hk fun y hy => hc y (List.mem_cons_of_mem _ hy))
  · rw [if_neg hb, List.lookup_cons] at h
    cases hx : x == n with
    | true =>
     rw [hx] at h
     have e : x = n := eq_of_beq hx
     have e0 : k0 = k := Option.some.inj h
     subst e; subst e0
     rcases hk with hk | hk
     · exact absurd hk (hc (x, k0) List.mem_cons_self)
     · subst hk
       exact List.mem_cons_self
    | false =>
     rw [hx] at h
     exact List.mem_cons_of_mem _ (ih h hk fun y hy => hc y (List.mem_cons_of_mem _ hy))
theorem Zah {env : Env} : ∀ {names : List (Str × NameKind)} {x : Str}, names.lookup x = some .free ->
 (names.map fun (n, k) => if (k == NameKind.free && env.scope.kind == .function && env.kindOf n == some .cell) then (n, NameKind.cell) else (n, k)).lookup x = some .cell \/
 (names.map fun (n, k) => if (k == NameKind.free && env.scope.kind == .function && env.kindOf n == some .cell) then (n, NameKind.cell) else (n, k)).lookup x = some .free
 | [], _, h => by simp at h
 | (n, k0) :: r, x, h => by
  have ih := @Zah env r x
  show List.lookup x ((if (k0 == NameKind.free && env.scope.kind == .function && env.kindOf n == some .cell) = true then (n, NameKind.cell) else (n, k0)) :: _) = _ \/
   List.lookup x ((if (k0 == NameKind.free && env.scope.kind == .function && env.kindOf n == some .cell) = true then (n, NameKind.cell) else (n, k0)) :: _) = _
  cases hx : x == n with
  | true =>
   simp only [List.lookup_cons, hx] at h
   cases h
   by_cases hb : (NameKind.free == NameKind.free && env.scope.kind == .function && env.kindOf n == some .cell) = true
   · rw [if_pos hb]; simp [List.lookup_cons, hx]
   · rw [if_neg hb]; simp [List.lookup_cons, hx]
  | false =>
   simp only [List.lookup_cons, hx] at h
   by_cases hb : (k0 == NameKind.free && env.scope.kind == .function && env.kindOf n == some .cell) = true
   · rw [if_pos hb]; simp only [List.lookup_cons, hx]; exact ih h
   · rw [if_neg hb]; simp only [List.lookup_cons, hx]; exact ih h
theorem Zd5 {C : Addr} {fp : List Addr} {xe : Value -> Shared -> Prop} (S : CompSc X scope tn cn js) (I : Inv X pins σ H₂ s₂) (hC : s₂.heap.objs.size <= C) (hf : ∀ b ∈ fp, Yt X pins H₂ b) (ho : ∀ b ∈ fp, ∃ o, s₂.heap.get? b = some o /\ ∀ v, o.data ≠ .cell v) :
 (Vz X scope (tn ++ cn) C s₂ H₂ fp xe).Ok where
 mod := I.ok.mod
 kind := S.kind
 glob := I.ok.glob
 blt := I.ok.blt
 above := hC
 inj := fun x y c h1 h2 => I.ok.inj x y c (Xt _ [] (S.clos I.ok) (fun _ z => by cases z) h1) (Xt _ [] (S.clos I.ok) (fun _ z => by cases z) h2)
 has := fun x hx => by
  refine Jk _ _ (.inl ?_)
  rcases hx with hx | hx
  · exact Jl (env := X.env) (k := .cell) hx (Or.inl (Eq.refl NameKind.cell)) S.nocell
  · exact Jl (env := X.env) (k := .free) hx (Or.inr (Eq.refl NameKind.free)) S.nocell
 cab := fun x c h _ => by cases h
 hd := I.ok.hd
 frames := I.ok.frames
 stk := .inl rfl
 exf := fun b hb => by
  obtain ⟨o, e, _⟩ := ho b hb
  obtain ⟨_, _, _, _, f4, _⟩ := hf b hb
  exact ⟨Nat.ne_of_lt (Nat.lt_of_lt_of_le (Heap.lt_size e) hC), fun x c h => f4 x c (Xt _ [] (S.clos I.ok) (fun _ z => by cases z) h)⟩
 bs := I.bs
 bsz := Nat.le_trans I.ok.bsz I.sz
 noex := fun b o e hb => by
  obtain ⟨_, _, _, f3, _, _⟩ := hf b hb
  rcases f3 with z | z
  · exact I.ok.noex b o e z
  · exact absurd (Nat.lt_of_lt_of_le (Heap.lt_size (I.ok.bs b o e).1) z) (Nat.lt_irrefl _)
 exfs := fun b hb z => by
  obtain ⟨_, f1, f2, _, _, _⟩ := hf b hb
  exact (List.mem_cons.mp (I.stkSub b z)).elim f1 f2
 funs := I.stack
 frf := I.stkFree
theorem ZaJ {C : Addr} {fp : List Addr} {s : Shared} {H : Hp} {m : Str -> Option Value} (S : CompSc X scope tn cn js) (I : Inv X pins σ H₂ s₂) (hf : ∀ b ∈ fp, Yt X pins H₂ b)
 (u : Un (frs X.stack) fp H₂ H s₂.heap s.heap) :
 ∀ (i : Nat) (x : Str) (v : V), (tn ++ cn)[i]? = some x -> (blk tn.length σ js)[i]? = some (some v) -> ∃ z, RelV v z /\ ZgL (compEnvC scope (Yp X.env.cells scope.names []) C X.env) s.heap m x z := by
 intro i x v e1 e2
 unfold blk at e2
 by_cases hi : i < tn.length
 · rw [List.getElem?_append_left (by simpa using hi), List.getElem?_replicate, if_pos hi] at e2
   cases e2
 · have hi' : tn.length <= i := by omega
   rw [List.getElem?_append_right hi'] at e1
   rw [List.getElem?_append_right (by simpa using hi'), List.length_replicate] at e2
   obtain ⟨j, hj, hN, hk, hm⟩ := S.cap _ _ e1
   unfold V9 at e2
   rw [List.getElem?_map, hj] at e2
   have e3 : (σ[j]?).getD none = some v := Option.some.inj e2
   have e4 : σ[j]? = some (some v) := by
    cases q : σ[j]? with
    | none => rw [q] at e3; cases e3
    | some z => rw [q] at e3; exact congrArg some e3
   obtain ⟨m0, _, hl⟩ := I.loc
   have hv : Vis X.env.scope x := by
    rcases hk with hk | hk
    · exact .inr (.inl hk)
    · exact .inr (.inr hk)
   obtain ⟨z, rz, l⟩ := hl j x v hN e4 hv
   refine ⟨z, rz, ?_⟩
   obtain ⟨c, hc, ob, ho, hd⟩ : ∃ c, X.env.cells.lookup x = some c /\ s₂.heap.IsCell c (some z) := by
    rcases l with ⟨k, _⟩ | ⟨_, c, hc, q⟩
    · rcases hk with hk | hk
      · rw [hk] at k; cases k
      · rw [hk] at k; cases k
    · exact ⟨c, hc, q⟩
   obtain ⟨c', hc'⟩ := Jk (cells := X.env.cells) (x := x) scope.names [] (.inl (PySem.mem_of_lookup hm))
   have ec : c' = c := by
    have := Xt _ [] (S.clos I.ok) (fun _ z => by cases z) hc'
    rw [hc] at this
    exact (Option.some.inj this).symm
   subst ec
   have nf : c' ∉ fp := fun hb => (hf c' hb).2.2.2.2.1 x c' hc rfl
   obtain ⟨sl, q⟩ := u.any ho (I.freeC x c' hc) nf
   exact .inr ⟨Zah hm, c', hc', ⟨_, q, hd⟩⟩
theorem Zb1 (S : CompSc X scope tn cn js) : (blk tn.length σ js).length = (tn ++ cn).length := by
 unfold blk V9
 rw [List.length_append, List.length_append, List.length_replicate, List.length_map, S.len]
theorem ZbE {C : Addr} {fp : List Addr} {xe : Value -> Shared -> Prop} {s : Shared} {H : Hp} {σ' : St} {pins' : List (Addr × Obj)} (S : CompSc X scope tn cn js) (I : Inv X pins σ H₂ s₂) (hf : ∀ b ∈ fp, Yt X pins H₂ b)
 (I' : Inv (Vz X scope (tn ++ cn) C s₂ H₂ fp xe) pins' σ' H s) : Inv (Vz X scope (tn ++ cn) C s₂ H₂ fp xe) pins' (blk tn.length σ js) H s := by
 obtain ⟨m, hn, _⟩ := id I'.loc
 exact ⟨I'.ok, I'.os, I'.bare, I'.base, ⟨m, hn, fun i x v e1 e2 _ => ZaJ S I hf I'.base i x v e1 e2⟩, I'.cell, I'.free, I'.freeC, I'.pin, I'.hok, Zb1 S⟩
theorem ZbF {C D : Addr} {fp : List Addr} {xe : Value -> Shared -> Prop} {h : Heap} {tk : Nat} {ob : Obj} {m : Str -> Option Value} (S : CompSc X scope tn cn js) (I : Inv X pins σ H₂ s₂) (hC : s₂.heap.objs.size <= C) (hD : s₂.heap.objs.size <= D) (hDC : D ≠ C)
 (hf : ∀ b ∈ fp, Yt X pins H₂ b) (ho : ∀ b ∈ fp, ∃ o, s₂.heap.get? b = some o /\ ∀ v, o.data ≠ .cell v) (k : ∀ b o, s₂.heap.get? b = some o -> h.get? b = some o) (hn : h.Ns C m) (hob : h.get? D = some ob) (hcell : ∀ v, ob.data ≠ .cell v) :
 Inv (Vz X scope (tn ++ cn) C s₂ H₂ fp xe) [(D, ob)] (blk tn.length σ js) H₂ { s₂ with heap := h, toks := tk } := by
 have ok := Zd5 (xe := xe) S I hC hf ho
 have u : Un (frs X.stack) fp H₂ H₂ s₂.heap h := Un.kept k
 refine ⟨ok, rfl, I.bare, u, ⟨m, hn, fun i x v e1 e2 _ => ZaJ (s := { s₂ with heap := h, toks := tk }) S I hf u i x v e1 e2⟩, fun x c e => ?_, I.hok.fresh hC, fun x c e => ?_, fun p hp => ?_, I.hok.kept k, Zb1 S⟩
 · obtain ⟨v, o, q, d⟩ := I.cell x c (Xt _ [] (S.clos I.ok) (fun _ z => by cases z) e)
   exact ⟨v, o, k c o q, d⟩
 · exact I.freeC x c (Xt _ [] (S.clos I.ok) (fun _ z => by cases z) e)
 · have e : p = (D, ob) := by
    have : p ∈ ([] : List (Addr × Obj)) ++ [(D, ob)] := hp
    simpa using this
   subst e
   refine ⟨hob, I.hok.fresh hD, hDC, fun z => ?_, hcell⟩
   have z : D ∈ frs X.stack := z
   rcases List.mem_cons.mp (I.stkSub D z) with e | e
   · exact absurd (Nat.lt_of_lt_of_le I.lt (by rw [<- e]; exact hD)) (Nat.lt_irrefl _)
   · exact I.nofs hD e
theorem Zbi {C D : Addr} {fp : List Addr} {xe : Value -> Shared -> Prop} {s : Shared} {H : Hp} {σ' : St} {ys : List V} {its : List Value} {n : Nat} {h' : Heap} (S : CompSc X scope tn cn js) (I : Inv X pins σ H₂ s₂) (hC : s₂.heap.objs.size <= C) (hD : s₂.heap.objs.size <= D) (hDC : D ≠ C)
 (hf : ∀ b ∈ fp, Yt X pins H₂ b) (I' : Inv (Vz X scope (tn ++ cn) C s₂ H₂ fp xe) [(D, { cls := .type "list", data := .seq its.toArray n })] σ' H s) (hv : Vals ys its) (hz : ys.length <= sizeLine) (hs : Heap.SameBut C s.heap h') :
 Inv X pins σ (upd H D (.lst ys)) { s with heap := h' } := by
 have pd := I'.pin (D, { cls := .type "list", data := .seq its.toArray n }) (List.mem_append_right _ List.mem_cons_self)
 have pd1 : s.heap.get? D = some { cls := .type "list", data := .seq its.toArray n } := pd.1
 have pd2 : H D = none := pd.2.1
 have hD' : h'.get? D = some { cls := .type "list", data := .seq its.toArray n } := (hs.2 D hDC).trans pd1
 have hCf : H C = none := I'.free
 have old : ∀ b o, s₂.heap.get? b = some o -> b ≠ C /\ b ≠ D := fun b o e => ⟨Nat.ne_of_lt (Nat.lt_of_lt_of_le (Heap.lt_size e) hC), Nat.ne_of_lt (Nat.lt_of_lt_of_le (Heap.lt_size e) hD)⟩
 have u := I'.base
 have u : Un (frs X.stack) fp H₂ H s₂.heap s.heap := u
 refine I.call' (s' := { s with heap := h' }) (ch := fp) (H' := upd H D (.lst ys)) I'.os ⟨fun b o e n hb hx => ?_, fun b o e n hb hx => ?_, fun b o e n hx => ?_, fun b o e hx => ?_, fun b xs e => ?_, fun b o xs e => ?_, fun b ps e => ?_⟩ (fun b o e => ?_) I'.bare (fun b hb => ?_)
 · exact (hs.2 b (old b o e).1).trans (u.keep b o e n hb hx)
 · obtain ⟨sl, q⟩ := u.slot b o e n hb hx
   exact ⟨sl, (hs.2 b (old b o e).1).trans q⟩
 · rw [Zx (old b o e).2]
   exact u.free b o e n hx
 · obtain ⟨o', q⟩ := u.there b o e hx
   exact ⟨o', (hs.2 b (old b o e).1).trans q⟩
 · have q := u.tups b xs e
   rw [Zx (Z1 q pd2)]
   exact q
 · have q := u.frzs b o xs e
   rw [Zx (Z1 q pd2)]
   exact q
 · obtain ⟨more, q⟩ := u.tbls b ps e
   exact ⟨more, by rw [Zx (Z1 q pd2)]; exact q⟩
 · by_cases hb : b = D
   · subst hb
     rw [Z7] at e
     cases e
     exact ⟨hz, its, n, hv, hD'⟩
   · rw [Zx hb] at e
     refine (I'.hok b o e).stay (fun c v hc q => (hs.2 c ?_).trans q) (fun c q => by rw [Zx (Z1 q pd2)]; exact q) fun c xs q => by rw [Zx (Z1 q pd2)]; exact q
     rintro rfl
     rcases hc with rfl | hc
     · rw [hCf] at e; cases e
     · rw [hCf] at hc; cases hc
 · obtain ⟨f0, f1, f2, f3, f4, f5⟩ := hf b hb
   exact ⟨f3, f1, f4, f5⟩
end
def PTs (X : Cx) (ifs : List Expr) (t : TT) : Prop :=
 ∀ (pins : List (Addr × Obj)) (s : Shared) (σ : St) (H : Hp) (Q : Bool -> Hp -> Prop), Inv X pins σ H s -> t σ H Q ->
  wpAny (model X.prog X.w) X.A (forIn ifs true fun c r => if r = true then do let ok <- isTrue c X.env (eval c X.env); pure (ForInStep.yield ok) else pure (ForInStep.yield r)) (TP X pins σ Q) X.xe s
def tYes : TT := fun _ H Q => Q true H
theorem YZ {X : Cx} : PTs X [] tYes := fun _ _ _ H _ I h => wpAny_tests_nil ⟨H, I, h⟩
theorem Zd6 {X : Cx} {c : Expr} {t : TT} (h : PT X c t) : PTs X [c] t := fun pins s σ H Q I q => wpAny_tests_one (h pins s σ H Q I q)
def Jm (wi : TI) (g : TG) (tt : TT) (te : TE) (n : Nat) (js : List Nat) : TE := fun σ H Q => wi σ H fun J H1 =>
 ∃ W : Nat -> Nat -> List V -> Hp -> Prop, (∃ m, W 0 m [] H1) /\ ∀ i m ys H, W i m ys H ->
  (J.stop i H /\ ∀ p, H p = none -> Q (.ref p) (upd H p (.lst ys))) \/
  (J.go i H /\ ∀ x H', J.yld i H x H' -> g x (blk n σ js) H' fun σ2 H2 => tt σ2 H2 fun b H3 =>
    if b = true then te σ2 H3 fun y H4 => ys.length < sizeLine /\ ∃ m', m' < m /\ W (i + 1) m' (ys ++ [y]) H4 else ∃ m', m' < m /\ W (i + 1) m' ys H3)
section
variable {X : Cx} {tg iter elt : Expr} {ifs : List Expr} {scope : Scope} {pos : Pos} {wi : TI} {g : TG} {tt : TT} {te : TE} {tn cn : List Str} {js : List Nat}
abbrev YN (X : Cx) (scope : Scope) (N' : List Str) (C : Addr) (s₂ : Shared) (H₂ : Hp) (fp : List Addr) : Cx := Vz X scope N' C s₂ H₂ fp fun _ _ => False
theorem VB {α : Type} {M : Model} {A : Around} {m : Sem α} {Q : α -> Shared -> Prop} {E : Value -> Shared -> Prop} {s : Shared} (h : wpAny M A m Q (fun _ _ => False) s) : wpAny M A m Q E s := wpAny_mono h (fun _ _ q => q) fun _ _ z => z.elim
theorem Zar {pins : List (Addr × Obj)} {σ : St} {H₂ : Hp} {s₂ : Shared} {it : Addr} {fp : List Addr} {tnx : Nat -> Heap -> Prop} {J : It} {E : Value -> Shared -> Prop} {RR : Value -> Addr -> Result -> Shared -> Prop} {W : Nat -> Nat -> List V -> Hp -> Prop} {m0 : Nat}
 (hc : X.calm = true) (S : CompSc X scope tn cn js)
 (hg : ∀ C s₂ H₂ fp, PG (YN X scope (tn ++ cn) C s₂ H₂ fp) tg g) (ht : ∀ C s₂ H₂ fp, PTs (YN X scope (tn ++ cn) C s₂ H₂ fp) ifs tt) (he : ∀ C s₂ H₂ fp, PE (YN X scope (tn ++ cn) C s₂ H₂ fp) elt te)
 (I2 : Inv X pins σ H₂ s₂) (T : Turn X.prog X.w X.K tg J fp it tnx) (st2 : tnx 0 s₂.heap) (f2 : ∀ b ∈ fp, Yt X pins H₂ b) (w0 : W 0 m0 [] H₂)
 (turn : ∀ i m ys H, W i m ys H -> (J.stop i H /\ ∀ C D s its n σ', s₂.heap.objs.size <= C -> s₂.heap.objs.size <= D -> D ≠ C -> Vals ys its -> ys.length <= sizeLine ->
   Inv (YN X scope (tn ++ cn) C s₂ H₂ fp) [(D, { cls := .type "list", data := .seq its.toArray n })] σ' H s -> RR (.ref D) C (.ok .next) s) \/
   (J.go i H /\ ∀ x H', J.yld i H x H' -> g x (blk tn.length σ js) H' fun σ2 H2 => tt σ2 H2 fun b H3 =>
     if b = true then te σ2 H3 fun y H4 => ys.length < sizeLine /\ ∃ m', m' < m /\ W (i + 1) m' (ys ++ [y]) H4 else ∃ m', m' < m /\ W (i + 1) m' ys H3)) :
 wpAny (model X.prog X.w) X.A (newList []) (fun acc s₃ => wpAny (model X.prog X.w) X.A (newFunctionEnv scope X.env.globals (Yp X.env.cells scope.names []) [] X.env.qual none .none (some X.env)) (fun cenv s₄ =>
  codeAny (model X.prog X.w) X.A (.compStart (.ListComp elt [⟨tg, iter, ifs, 0⟩] scope pos) 0 (.ref it) acc { cenv with scope := relabel scope X.env }) (RR acc cenv.locals) s₄) E s₃) E s₂ := by
 refine wpAny_newObj_type (wpAny_newFunctionEnv S.nocell (by intro y hy; simp at hy) (fun h₁ hns₁ hsb₁ => ?_) S.kind)
 dsimp only at hns₁ hsb₁ ⊢
 generalize hH2 : s₂.heap.push { cls := .type "list", dict := none, data := .seq ([] : List Value).toArray } = HH at hns₁ hsb₁ ⊢
 have hCs : HH.objs.size = s₂.heap.objs.size + 1 := by rw [<- hH2, Heap.size_push]
 have hDC : s₂.heap.objs.size ≠ HH.objs.size := by rw [hCs]; exact Nat.ne_of_lt (Nat.lt_succ_self _)
 have hC : s₂.heap.objs.size <= HH.objs.size := by rw [hCs]; exact Nat.le_succ _
 have hD : s₂.heap.objs.size <= s₂.heap.objs.size := Nat.le_refl _
 have old : ∀ b o, s₂.heap.get? b = some o -> h₁.get? b = some o := fun b o e => hsb₁.extBut b o (by rw [hCs]; exact Nat.ne_of_lt (Nat.lt_succ_of_lt (Heap.lt_size e))) (Heap.get?_push_of_some _ (hH2 ▸ Heap.get?_push_of_some _ e))
 have hacc : h₁.get? s₂.heap.objs.size = some { cls := .type "list", dict := none, data := .seq ([] : List Value).toArray } := hsb₁.extBut _ _ hDC (Heap.get?_push_of_some _ (hH2 ▸ Heap.get?_push_size _ rfl))
 have hob := T.obj _ _ st2
 have I3 : Inv (YN X scope (tn ++ cn) HH.objs.size s₂ H₂ fp) [(s₂.heap.objs.size, { cls := .type "list", dict := none, data := .seq ([] : List Value).toArray })] (blk tn.length σ js) H₂ { s₂ with heap := h₁, toks := s₂.toks + ([] : List (Str × Value)).length } :=
  ZbF S I2 hC hD hDC f2 hob old hns₁ hacc (fun v z => by cases z)
 have st3 : tnx 0 h₁ := T.keep _ _ _ st2 fun b hb o e => old b o e
 generalize hX' : YN X scope (tn ++ cn) HH.objs.size s₂ H₂ fp = X' at I3
 generalize hs3 : ({ s₂ with heap := h₁, toks := s₂.toks + ([] : List (Str × Value)).length } : Shared) = s3 at I3 ⊢
 have st3' : tnx 0 s3.heap := by rw [<- hs3]; exact st3
 have stat : ∀ {pins' : List (Addr × Obj)} {H' : Hp}, (∀ b ∈ fp, H' b = none) -> (∀ p ∈ pins', p.1 = s₂.heap.objs.size) -> ∀ b ∈ fp, Yt X' pins' H' b := fun {pins' H'} hn hp b hb => by
  subst hX'
  obtain ⟨o, e, _⟩ := hob b hb
  obtain ⟨f0, f1, f2', f3, f4, f5⟩ := f2 b hb
  refine ⟨hn b hb, Nat.ne_of_lt (Nat.lt_of_lt_of_le (Heap.lt_size e) hC), fun z => (List.mem_cons.mp (I2.stkSub b z)).elim f1 f2', .inl hb, fun x c h => f4 x c (Xt _ [] (S.clos I2.ok) (fun _ z => by cases z) h), fun p hpp => ?_⟩
  have : p ∈ pins' := by
   have q : p ∈ ([] : List (Addr × Obj)) ++ pins' := hpp
   simpa using q
  rw [hp p this]
  exact Nat.ne_of_gt (Heap.lt_size e)
 have loop : codeAny (model X.prog X.w) X.A (.compLoop (.ListComp elt [⟨tg, iter, ifs, 0⟩] scope pos) 0 (.ref it) (.ref s₂.heap.objs.size) X'.env) (RR (.ref s₂.heap.objs.size) HH.objs.size) s3 := by
  refine Za1 (fun k s' => ∃ i ys its n H', Inv X' [(s₂.heap.objs.size, { cls := .type "list", data := .seq its n })] (blk tn.length σ js) H' s' /\ Vals ys its.toList /\ ys.length <= sizeLine /\ tnx i s'.heap /\ (∀ b ∈ fp, H' b = none) /\ W i k ys H') ?_ m0
   ⟨0, [], #[], 0, H₂, I3, .nil, Nat.zero_le _, st3', fun b hb => (f2 b hb).1, w0⟩
  rintro k s4 ⟨i, ys, its, n, H4, I4, hv4, hz4, st4, fr4, w4⟩
  have eP : X'.prog = X.prog := by rw [<- hX']; rfl
  have eW : X'.w = X.w := by rw [<- hX']; rfl
  have eK : X'.K = X.K := by rw [<- hX']; rfl
  have eA : X'.A = X.A := by rw [<- hX']; rfl
  have eC : X'.calm = true := by rw [<- hX']; exact hc
  have eE : X'.xe = fun _ _ => False := by rw [<- hX']; rfl
  rcases turn i k ys H4 w4 with ⟨stop, qn⟩ | ⟨go, step⟩
  · have z := T.done X' eP eW eK eC i _ s4 (blk tn.length σ js) H4 (fun _ _ => False) I4 (stat fr4 (fun p hp => by simp at hp; rw [hp])) st4 stop
    rw [eA] at z
    refine VB (thn z fun r s5 ⟨hr, I5⟩ => ?_)
    subst hr
    subst hX'
    exact qn _ _ s5 its.toList n _ hC hD hDC hv4 hz4 (by simpa using I5)
  · have z := T.item X' eP eW eK eC i _ s4 (blk tn.length σ js) H4 (fun _ _ => False) I4 (stat fr4 (fun p hp => by simp at hp; rw [hp])) st4 go
    rw [eA] at z
    refine VB (thn z fun r s5 ⟨u, hr, h5⟩ => ?_)
    subst hr
    refine VB (thn h5 fun _ s6 ⟨x, H6, I6, r6, y6, st6, fr6⟩ => ?_)
    have I6' := I6.pinned (stat fr6 (fun p hp => by simp at hp; rw [hp])) (T.obj _ _ st6)
    have hg' : PG X' tg g := by rw [<- hX']; exact hg _ _ _ _
    have ht' : PTs X' ifs tt := by rw [<- hX']; exact ht _ _ _ _
    have he' : PE X' elt te := by rw [<- hX']; exact he _ _ _ _
    have z7 := hg' _ s6 _ H6 x u _ I6' r6 (step x H6 y6)
    rw [eP, eW, eA, eE] at z7
    refine VB (thn z7 fun _ s7 ⟨σ7, H7, I7, q7⟩ => ?_)
    have z8 := ht' _ s7 σ7 H7 _ I7 q7
    rw [eP, eW, eA, eE] at z8
    refine VB (thn z8 fun ok s8 ⟨H8, I8, q8⟩ => ?_)
    have key : ∀ {σ9 : St} {H9 : Hp} {s9 : Shared} {its' : Array Value} {n' : Nat}, Inv X' ([(s₂.heap.objs.size, { cls := .type "list", data := .seq its' n' })] ++ Y7 fp s6.heap) σ9 H9 s9 ->
     Inv X' [(s₂.heap.objs.size, { cls := .type "list", data := .seq its' n' })] (blk tn.length σ js) H9 s9 /\ tnx (i + 1) s9.heap /\ ∀ b ∈ fp, H9 b = none := fun {σ9 H9 s9 its' n'} I9 => by
     refine ⟨?_, T.keep _ _ _ st6 fun b hb o e => (I9.pin (b, o) (List.mem_append_right _ (List.mem_append_right _ (U3 hb e)))).1, fun b hb => ?_⟩
     · have I9' := I9.unpinned
       subst hX'
       exact ZbE S I2 f2 I9'
     · obtain ⟨o, e, d⟩ := T.obj _ _ st6 b hb
       exact (I9.pin (b, o) (List.mem_append_right _ (List.mem_append_right _ (U3 hb e)))).2.1
    cases ok with
    | false =>
     rw [if_neg Bool.false_ne_true] at q8 ⊢
     obtain ⟨m', hm, w8⟩ := q8
     obtain ⟨I9, st9, fr9⟩ := key I8
     exact ⟨m', hm, i + 1, ys, its, n, H8, I9, hv4, hz4, st9, fr9, w8⟩
    | true =>
     rw [if_pos rfl] at q8 ⊢
     have z9 := he' _ s8 σ7 H8 _ I8 q8
     rw [eP, eW, eA, eE] at z9
     refine VB (thn z9 fun v s9 ⟨y, H9, I9, r9, hl9, m', hm, w9⟩ => ?_)
     have pd := I9.pin (s₂.heap.objs.size, { cls := .type "list", data := .seq its n }) (List.mem_append_right _ (List.mem_append_left _ List.mem_cons_self))
     have hpl : s9.heap.PlainList s₂.heap.objs.size its := ⟨n, pd.1⟩
     have hlen : its.size = ys.length := by rw [hv4.length]; simp
     refine wpAny_list_append_plain (hsz := by omega) hpl fun h10 hl10 hs10 => ?_
     obtain ⟨n10, e10⟩ := hl10
     have I10 : Inv X' (Y7 fp s6.heap) σ7 H9 s9 := I9.pins_of fun p hp => I9.pin p (List.mem_append_right _ (List.mem_append_right _ hp))
     have nD : ∀ b ∈ fp, b ≠ s₂.heap.objs.size := fun b hb => by
      obtain ⟨o, e, _⟩ := hob b hb
      exact Nat.ne_of_lt (Heap.lt_size e)
     have I11 : Inv X' (Y7 fp s6.heap) σ7 H9 { s9 with heap := h10 } := by
      refine I10.turned (t' := s9.toks) (it := s₂.heap.objs.size) (fun b o hb e => (hs10.2 b hb).trans e) pd.2.1 pd.2.2.1 ?_ ?_ ?_
      · subst hX'; exact .inr (Nat.le_refl _)
      · subst hX'
        intro x c h
        obtain ⟨v', o', q, _⟩ := I2.cell x c (Xt _ [] (S.clos I2.ok) (fun _ z => by cases z) h)
        exact Nat.ne_of_lt (Heap.lt_size q)
      · intro p hp
        have hp' : p ∈ Y7 fp s6.heap := by
         subst hX'
         have q : p ∈ ([] : List (Addr × Obj)) ++ Y7 fp s6.heap := hp
         simpa using q
        exact nD _ (ZaC hp').1
     have I12 : Inv X' ([(s₂.heap.objs.size, { cls := .type "list", data := .seq (its.push v) n10 })] ++ Y7 fp s6.heap) σ7 H9 { s9 with heap := h10 } := I11.pins_of fun p hp => by
      rcases List.mem_append.mp hp with q | q
      · have e : p = (s₂.heap.objs.size, { cls := .type "list", data := .seq (its.push v) n10 }) := by simpa using q
        subst e
        exact ⟨e10, pd.2.1, pd.2.2.1, pd.2.2.2.1, fun v z => by cases z⟩
      · exact I11.pin p (List.mem_append_right _ q)
     obtain ⟨J1, J2, J3⟩ := key I12
     refine ⟨m', hm, i + 1, ys ++ [y], its.push v, n10, H9, J1, ?_, ?_, J2, J3, w9⟩
     · have : (its.push v).toList = its.toList ++ [v] := by simp
       rw [this]
       exact hv4.append (.cons r9 .nil)
     · rw [List.length_append, List.length_singleton]
       omega
 have eEnv : ({ newEnv scope HH.objs.size X.env.globals (Yp X.env.cells scope.names []) X.env.qual none .none (some X.env) builtinsNs with scope := relabel scope X.env } : Env) = X'.env := by rw [<- hX']; rfl
 have loop2 := loop
 rw [<- eEnv] at loop loop2
 exact codeAny_compStart_list loop (T.self X.A 0 s3 _ _ st3' loop2)
theorem XN (hc : X.calm = true) (S : CompSc X scope tn cn js) (hi : PI X tg iter wi)
 (hg : ∀ C s₂ H₂ fp, PG (YN X scope (tn ++ cn) C s₂ H₂ fp) tg g) (ht : ∀ C s₂ H₂ fp, PTs (YN X scope (tn ++ cn) C s₂ H₂ fp) ifs tt) (he : ∀ C s₂ H₂ fp, PE (YN X scope (tn ++ cn) C s₂ H₂ fp) elt te)
 (hs : ∀ x, foldedSetIterable iter X.env x = pure x := by intro _; rfl) :
 PE X (.ListComp elt [⟨tg, iter, ifs, 0⟩] scope pos) (Jm wi g tt te tn.length js) := by
 intro pins s σ H Q I h
 rw [eval_ListComp]
 refine wpAny_comprehension_free (use := none) (cl := Yp X.env.cells scope.names []) rfl hs (Zae (S.clos I.ok)) S.kind S.names (thn (hi pins s σ H _ I h) fun v s1 h1 => thn h1 fun itv s2 h2 => ?_)
 obtain ⟨it, fp, tnx, J, H2, e, I2, T, st2, f2, W, ⟨m0, w0⟩, turn⟩ := h2
 subst e
 refine Zar (RR := fun acc C => compPost (model X.prog X.w) X.A X.xe none (EP X pins σ Q) acc C) (W := W) (m0 := m0) hc S hg ht he I2 T st2 f2 w0 fun i m ys H w => ?_
 rcases turn i m ys H w with ⟨stop, qn⟩ | r
 · refine .inl ⟨stop, fun C D s its n σ' hC hD hDC hv hz I' => ?_⟩
   obtain ⟨m', hn, _⟩ := id I'.loc
   refine ⟨m', hn, fun h' hs' => ?_⟩
   have pd := I'.pin (D, { cls := .type "list", data := .seq its.toArray n }) (List.mem_append_right _ List.mem_cons_self)
   exact ⟨.ref D, _, Zbi S I2 hC hD hDC f2 I' hv hz hs', rfl, qn D pd.2.1⟩
 · exact .inr r
end
end L2
namespace L2
open PySem PySem.Spec PyProof.Rows
abbrev S (cs : List Nat) : V := .str (tx cs)
theorem ZfG {a b : List Nat} : S a = S b ↔ a = b := by
 constructor
 · intro h
   exact tx_inj.mp (V.str.inj h)
 · rintro rfl; rfl
section
variable {X : Cx} {pos : Pos}
def Its (cs : List Nat) : It := ⟨fun i _ => i < cs.length, fun i H v H' => H' = H /\ ∃ c, cs[i]? = some c /\ v = S [c], fun i _ => cs.length <= i⟩
theorem Qa (x : Str) : strIterType x = "str_ascii_iterator" \/ strIterType x = "str_iterator" := by
 unfold strIterType
 split
 · exact .inl rfl
 · exact .inr rfl
theorem Zc1 {P : Program} {w : World} {K : PySem.W.Frag} {tg : Expr} (it : Addr) (cs : List Nat) (t : Tok) : Turn P w K tg (Its cs) [it] it (fun i h => h.IsStrIter it (strIterType (tx cs)) (tx cs) t i) where
 mem := by simp
 obj := fun i h st b hb => by
  have e : b = it := by simpa using hb
  subst e
  obtain ⟨o, e, c, d⟩ := st
  exact ⟨o, e, fun v z => by rw [d] at z; cases z⟩
 keep := fun i h h' st k => by
  obtain ⟨o, e, r⟩ := st
  exact ⟨o, k it (by simp) o e, r⟩
 item := by
  intro X hP hw hK hc i pins s σ H E I hf st hg
  subst hP hw hK
  obtain ⟨f0, f1, f2, f3, f4, f5⟩ := hf it (by simp)
  have hg : i < cs.length := hg
  have hx : (tx cs).cps[i]? = some cs[i] := by simp [tx, hg]
  have fin : ∀ (h' : Heap), h'.IsStrIter it (strIterType (tx cs)) (tx cs) t (i + 1) -> Heap.SameBut it s.heap h' ->
   ∃ u, some (Value.str ⟨#[cs[i]]⟩ s.toks) = some u /\ wpAny (model X.prog X.w) X.A (letOwnedTupleGo tg (.ref it) u) (fun _ s2 => ∃ x H', Inv X pins σ H' s2 /\ RelV x u /\ (Its cs).yld i H x H' /\ s2.heap.IsStrIter it (strIterType (tx cs)) (tx cs) t (i + 1) /\ ∀ b ∈ [it], H' b = none) E { s with heap := h', toks := s.toks + 1 } := fun h' st' sb => by
   have I1 : Inv X pins σ H { s with heap := h', toks := s.toks + 1 } := I.turned (fun b o hb e => (sb.2 b hb).trans e) f0 f1 f3 f4 f5
   obtain ⟨o, e, hc', d⟩ := id st'
   refine ⟨_, rfl, U2 (s := { s with heap := h', toks := s.toks + 1 }) e hc' d ?_ ⟨S [cs[i]], H, I1, ⟨s.toks, rfl⟩, ⟨rfl, cs[i], by simp [hg], rfl⟩, st', fun b hb => (hf b hb).1⟩⟩
   rcases Qa (tx cs) with z | z <;> rw [z] <;> decide
  rcases Qa (tx cs) with z | z
  · rw [z] at st
    refine wpAny_pyNext_ascii_item st hx fun h' st' sb => fin h' (by rw [z]; exact st') sb
  · rw [z] at st
    refine wpAny_pyNext_wide_item st hx fun h' st' sb => fin h' (by rw [z]; exact st') sb
 done := by
  intro X hP hw hK hc i pins s σ H E I hf st hg
  subst hP hw hK
  obtain ⟨f0, f1, f2, f3, f4, f5⟩ := hf it (by simp)
  have hg : cs.length <= i := hg
  have hx : (tx cs).cps[i]? = none := by simp [tx]; omega
  rcases Qa (tx cs) with z | z
  · rw [z] at st
    exact wpAny_pyNext_ascii_end (I.ok.hd hc) st hx fun h' eb => ⟨rfl, I.turned (t' := s.toks) (fun b o hb e => eb b o hb e) f0 f1 f3 f4 f5⟩
  · rw [z] at st
    exact wpAny_pyNext_wide_end (I.ok.hd hc) st hx fun h' eb => ⟨rfl, I.turned (t' := s.toks) (fun b o hb e => eb b o hb e) f0 f1 f3 f4 f5⟩
 self := fun _ i _ _ _ st h => by
  rcases Qa (tx cs) with z | z
  · rw [z] at st
    exact wpAny_pyIter_striter_ascii st h
  · rw [z] at st
    exact wpAny_pyIter_striter_wide st h
variable {tg : Expr}
def Jn (K : PySem.W.Frag) (tl : TE) : TI := fun σ H R => tl σ H fun x H1 => (∃ a xs, x = .ref a /\ SqL K H1 a xs /\ R (Itl K a) H1) \/ (∃ a xs, x = .ref a /\ SqT K H1 a xs /\ R (Itt K a) H1) \/ ∃ cs, x = S cs /\ R (Its cs) H1
theorem Zfh {l : Expr} {tl : TE} (hl : PE X l tl) : PI X tg l (Jn X.K tl) := by
 intro pins s σ H R I h
 refine thn (hl pins s σ H _ I h) fun v s1 ⟨x, H1, I1, r1, q1⟩ => ?_
 rcases q1 with ⟨a, xs, e, hq, q⟩ | ⟨a, xs, e, hq, q⟩ | ⟨cs, e, q⟩
 · subst e
   cases r1
   obtain ⟨its, rv, p, hz⟩ := I1.list hq
   refine wpAny_pyIter_list p.isList ?_
   refine ⟨s1.heap.objs.size, [s1.heap.objs.size], _, _, H1, rfl, I1.kept (t' := s1.toks) fun b o e => Heap.get?_push_of_some _ e, Zcr a _, ⟨_, Heap.get?_push_size _ rfl, rfl, rfl⟩, fun b hb => ?_, q⟩
   have e : b = s1.heap.objs.size := by simpa using hb
   subst e
   exact I1.fpOk (Nat.le_refl _) (I1.hok.fresh (Nat.le_refl _))
 · have hpi := Ze8 (X := X) (tg := tg) (l := l) (tl := fun _ H Q => Q (.ref a) H)
   subst e
   cases r1
   obtain ⟨its, rv, p, hz⟩ := I1.tuple hq
   refine wpAny_pyIter_tuple (show s1.heap.IsTuple a its.toArray from p) ?_
   refine ⟨s1.heap.objs.size, [s1.heap.objs.size], _, _, H1, rfl, I1.kept (t' := s1.toks) fun b o e => Heap.get?_push_of_some _ e, Zap a _, ⟨_, Heap.get?_push_size _ rfl, rfl, rfl⟩, fun b hb => ?_, q⟩
   have e : b = s1.heap.objs.size := by simpa using hb
   subst e
   exact I1.fpOk (Nat.le_refl _) (I1.hok.fresh (Nat.le_refl _))
 · subst e
   obtain ⟨t, rfl⟩ := r1
   refine wpAny_pyIter_strU ?_
   refine ⟨s1.heap.objs.size, [s1.heap.objs.size], _, _, H1, rfl, I1.kept (t' := s1.toks) fun b o e => Heap.get?_push_of_some _ e, Zc1 _ cs t, ⟨_, Heap.get?_push_size _ rfl, rfl, rfl⟩, fun b hb => ?_, q⟩
   have e : b = s1.heap.objs.size := by simpa using hb
   subst e
   exact I1.fpOk (Nat.le_refl _) (I1.hok.fresh (Nat.le_refl _))
def rAddS : R2 := fun x y H Q => ∃ a b, x = S a /\ y = S b /\ a.length + b.length <= sizeLine /\ Q (S (a ++ b)) H
theorem op_addS : OpR X (binaryOp .Add) rAddS := by
 intro pins s σ H x y v u Q I rx ry h
 obtain ⟨a, b, rfl, rfl, hz, q⟩ := h
 refine ZbA pins s σ H _ _ v u Q I rx ry ⟨tx a, tx b, rfl, rfl, by rw [YM, YM]; exact hz, ?_⟩
 rw [Zfg]
 exact q
def ZfH : R2 := fun x y H Q => rI0 (fun i j => .int (i + j)) x y H Q \/ rAddS x y H Q \/ Zg8 x y H Q
def rIxSt : R2 := fun x y H Q => ∃ a i c, x = S a /\ y = .int i /\ a.length <= sizeLine /\ atI a i = some c /\ Q (S [c]) H
theorem Zg9 : IxR X rIxSt := by
 intro value slice pins s σ H x y v u Q I rx ry h hs
 obtain ⟨a, i, c, rfl, rfl, hz, he, q⟩ := h
 exact Zfe value slice pins s σ H _ _ v u Q I rx ry ⟨tx a, i, c, rfl, rfl, by rw [YM]; exact hz, by rw [U8]; exact he, q⟩ hs
def Jo (K : PySem.W.Frag) : R2 := fun x y H Q => ZgW K x y H Q \/ ZgX K x y H Q \/ rIxSt x y H Q
theorem Zha : IxR X (Jo X.K) := ix_list.or (ix_tup.or Zg9)
def rSlS : V -> Option Int -> Option Int -> Hp -> VK -> Prop := fun x lo hi H Q => ∃ a, x = S a /\ a.length <= sizeLine /\ Q (S (cutL a lo hi)) H
theorem sl_S : SlR X rSlS := by
 intro pins s σ H x v vl vu lo hi sl Q I rx hs pl pu h
 obtain ⟨a, rfl, hz, q⟩ := h
 obtain ⟨t, rfl⟩ := rx
 refine ⟨"str", _, F.slot_str_getitem.lookup, typeIs_str _ _ _, ?_⟩
 have fin : ∀ t' k, EP X pins σ Q (.str (Txt.slice (tx a) lo hi) t') { s with toks := k } := fun t' k => ⟨S (cutL a lo hi), H, I.tok _, ⟨t', by rw [Zc0]⟩, q⟩
 have hle : (Txt.slice (tx a) lo hi).length <= sizeLine := Nat.le_trans (Txt.slice_le _ _ _) (by rw [YM]; exact hz)
 cases pl with
 | none =>
  cases pu with
  | none => exact wpAny_getItem_str_slice (l := none) (u := none) (st := none) hs rfl (post_val_or_str ⟨hle, fin⟩)
  | int j uj => exact wpAny_getItem_str_slice (l := none) (u := some (j, uj)) (st := none) hs rfl (post_val_or_str ⟨hle, fin⟩)
 | int i ui =>
  cases pu with
  | none => exact wpAny_getItem_str_slice (l := some (i, ui)) (u := none) (st := none) hs rfl (post_val_or_str ⟨hle, fin⟩)
  | int j uj => exact wpAny_getItem_str_slice (l := some (i, ui)) (u := some (j, uj)) (st := none) hs rfl (post_val_or_str ⟨hle, fin⟩)
def Jp (K : PySem.W.Frag) : V -> Option Int -> Option Int -> Hp -> VK -> Prop := fun x lo hi H Q => rSlS x lo hi H Q \/ ZgY K x lo hi H Q \/ ZgV K x lo hi H Q
theorem Zhb : SlR X (Jp X.K) := sl_S.or (sl_list.or Zfd)
def Jq (K : PySem.W.Frag) : List V -> Hp -> VK -> Prop := fun xs H Q => (∃ a, xs = [S a] /\ a.length <= sizeLine /\ Q (.int a.length) H) \/ ∃ p ys, xs = [.ref p] /\ (SqL K H p ys \/ SqT K H p ys) /\ Q (.int ys.length) H
theorem Zcz : Ye X (.builtin "len") (Jq X.K) := by
 intro pins s σ H xs us Q I rs q
 rcases q with ⟨a, rfl, hz, q⟩ | q
 · exact ZaZ pins s σ H _ us Q I rs ⟨tx a, rfl, by rw [YM]; exact hz, by rw [YM]; exact q⟩
 · exact ZaY pins s σ H xs us Q I rs q
def rIntX : List V -> Hp -> VK -> Prop := fun xs H Q => (∃ a, xs = [S a] /\ a.length <= 640 /\ a ≠ [] /\ a.all U9 = true /\ Q (.int (Ji a : Nat)) H) \/ (∃ k, xs = [.bl k] /\ Q (.int (if k then 1 else 0)) H)
theorem ZcA : Ye X (.type "int") rIntX := by
 intro pins s σ H xs us Q I rs h
 rcases h with ⟨a, rfl, hl, hne, hd, q⟩ | h
 · obtain ⟨u, rfl, t, rfl⟩ := YL rs
   have hd' : PySem.NumText.AllDigits (tx a).cps.toList := by
    rw [U8]
    intro c hc
    have := List.all_eq_true.mp hd c hc
    unfold U9 at this
    rw [Bool.and_eq_true, decide_eq_true_eq, decide_eq_true_eq] at this
    exact this
   have e := PySem.intText_digits hd' (by rw [U8]; exact hne) (by rw [YM]; omega)
   rw [U8] at e
   exact PySem.W.KIN.call_text e (by rw [YM]; exact hl) ⟨.int (Ji a : Nat), H, I.tok _, ⟨_, rfl⟩, q⟩
 · exact Zcs pins s σ H xs us Q I rs (.inr h)
theorem Zc2 : Ye X (.builtin "isinstance") (fun xs H Q => ∃ x c cv t b, xs = [x, c] /\ (∀ v, RelV c v -> v = cv) /\ TyOf X.K H x t /\ PySem.W.kitOne X.K t cv = some b /\ Q (.bl b) H) := by
 intro pins s σ H xs us Q I rs h
 obtain ⟨x, c, cv, t, b, rfl, hc, ty, e, q⟩ := h
 obtain ⟨u, w', rfl, rx, rc⟩ := ZeK rs
 have ec := hc _ rc
 subst ec
 exact Zcu I rx ty e fun tk => ⟨.bl b, H, I.tok tk, rfl, q⟩
end
section
variable {X : Cx} {K : PySem.W.Frag} {pos : Pos} {tg : Expr}
theorem ZH (hK : X.K = K := by rfl) : IxR X (Jo K) := hK ▸ Zha
theorem Qb (hK : X.K = K := by rfl) : SlR X (Jp K) := hK ▸ Zhb
theorem Yy (hK : X.K = K := by rfl) : Ye X (.builtin "len") (Jq K) := hK ▸ Zcz
def Zhc (K : PySem.W.Frag) : List V -> Hp -> VK -> Prop := fun xs H Q => ∃ x c cv t b, xs = [x, c] /\ (∀ v, RelV c v -> v = cv) /\ TyOf K H x t /\ PySem.W.kitOne K t cv = some b /\ Q (.bl b) H
theorem Xb {l : Expr} {tl : TE} (hl : PE X l tl) (hK : X.K = K := by rfl) : PI X tg l (Jn K tl) := hK ▸ Zfh hl
def Zfi (K : PySem.W.Frag) : List V -> Hp -> VK -> Prop := fun xs H Q => ∃ p ys, xs = [.ref p] /\ (SqL K H p ys \/ SqT K H p ys) /\ ∀ l, H l = none -> Q (.ref l) (upd H l (.lst ys))
theorem Ve {o e : Expr} {es : List Expr} {to : TE} {t : TA} {name : Str} {apos cpos : Pos} {T id : String} {r : V -> List V -> Hp -> VK -> Prop} (pa : PlainAttrs T) (slot : Slot T name id) (hty : typeOf (.builtin id) = pure (.type "method_descriptor")) (hm : MtR X id r) (ho : PE X o to) (ha : PA X (e :: es) t)
 (hbase : attributeBase o name X.env (eval o X.env) = eval o X.env := by rfl)
 (hfew : ((backTo cpos (starEach (e :: es) X.env)).all (fun x => !x.1) && (backToKw cpos (keywordEach [] X.env)).all (fun x => x.1.isSome)
   && decide ((e :: es).length + ([] : List Keyword).length + (if ([] : List Keyword).isEmpty then 0 else 1) < 30)) = true := by rfl)
 (hline : (apos.endLine == cpos.line) = true := by rfl) (hs : starEach (e :: es) X.env = (false, eval e X.env) :: starEach es X.env := by rfl) (hplain : (backTo cpos (starEach es X.env)).any (·.1) = false := by rfl) (hK : X.K = K := by rfl) :
 PE X (.Call (.Attribute o name apos) (e :: es) [] cpos) (tBM K T r to t) := hK ▸ ZfF pa slot hty hm ho ha hbase hfew hline hs hplain
theorem Jr {es : List Expr} {k : Nat} {t : TGs} {n : Nat} (h : PGs X es t) (hc : X.calm = true := by rfl)
 (hn : (assignEach es X.env).length = n := by rfl) (hst : (assignEach es X.env).findIdx? (·.1) = none := by rfl) (hK : X.K = K := by rfl) : PG X (.Tuple es k pos) (Q8 K n t) := hK ▸ Ze7 hc h hn hst
end
end L2
namespace L2
open PySem PySem.Spec PyProof.Rows
theorem Zc3 {H : Hp} {q : Addr} {o : HO} (h : H q = none) : Same H (upd H q o) := fun b u e => by
 rw [Zx (Z1 e h)]
 exact e
structure Walk (J : It) (xs : List V) (H : Hp) : Prop where
 go : ∀ i, i < xs.length -> J.go i H
 yld : ∀ (i : Nat) v H', i < xs.length -> J.yld i H v H' -> H' = H /\ xs[i]? = some v
 stop : ∀ i, xs.length <= i -> J.stop i H
end L2
namespace L2
open PySem PySem.Spec PyProof.Rows
section
variable {X : Cx} {tg : Expr}
end
end L2
namespace L2
open PySem PySem.Spec PyProof.Rows
section
variable {X : Cx} {elts : List Expr} {x1 : Nat} {tpos : Pos}
end
end L2
namespace L2
open PySem PySem.Spec PyProof.Rows
section
variable {κ : Type} [DecidableEq κ]
def Y0 (kvs : List (κ × V)) (k : κ) : Option V := (kvs.find? fun kv => decide (kv.1 = k)).map (·.2)
def Qc (kvs : List (κ × V)) (k : κ) (v : V) : List (κ × V) :=
 if (kvs.any fun kv => decide (kv.1 = k)) = true then kvs.map (fun kv => if kv.1 = k then (kv.1, v) else kv) else kvs ++ [(k, v)]
theorem Zbj {p : κ × V} {r : List (κ × V)} {k : κ} (e : p.1 = k) : Y0 (p :: r) k = some p.2 := by simp [Y0, List.find?_cons, e]
theorem Zbk {p : κ × V} {r : List (κ × V)} {k : κ} (e : ¬ p.1 = k) : Y0 (p :: r) k = Y0 r k := by simp [Y0, List.find?_cons, e]
theorem RelO.getD {o : Option V} {u : Option Value} {d : V} {d' : Value} (r : RelO o u) (rd : RelV d d') : RelV (o.getD d) (u.getD d') := by
 cases o with
 | none => cases u with
  | none => exact rd
  | some _ => exact (show False from r).elim
 | some _ => cases u with
  | none => exact (show False from r).elim
  | some _ => exact r
theorem KV.val {kvs : List (κ × V)} {vs : List (κ × Value)} (r : KV kvs vs) (k : κ) : RelO (Y0 kvs k) (valueAt vs k) := by
 unfold KV at r
 induction r with
 | nil => exact True.intro
 | @cons p q ps qs h t ih =>
  obtain ⟨h1, h2⟩ := h
  by_cases e : p.1 = k
  · have e' : q.1 = k := h1.symm.trans e
    have b : valueAt (q :: qs) k = some q.2 := by simp [valueAt, List.find?_cons, e']
    rw [Zbj e, b]; exact h2
  · have e' : ¬ q.1 = k := fun z => e (h1.trans z)
    have b : valueAt (q :: qs) k = valueAt qs k := by simp [valueAt, List.find?_cons, e']
    rw [Zbk e, b]; exact ih
theorem KV.length {kvs : List (κ × V)} {vs : List (κ × Value)} (r : KV kvs vs) : kvs.length = vs.length := Paired.length r
end
abbrev KT (H : Hp) : List (List Key × V) -> List (List Key × Addr × Value) -> Prop := Paired fun p q => p.1 = q.1 /\ H q.2.1 = some (.tup (p.1.map kV)) /\ RelV p.2 q.2.2
theorem KT.val {H : Hp} {kvs : List (List Key × V)} {xs : List (List Key × Addr × Value)} (r : KT H kvs xs) (k : List Key) : RelO (Y0 kvs k) ((atKey xs k).map (·.2)) := by
 induction r with
 | nil => exact True.intro
 | @cons p q ps qs h t ih =>
  obtain ⟨h1, _, h2⟩ := h
  by_cases e : p.1 = k
  · have e' : q.1 = k := h1.symm.trans e
    have b : atKey (q :: qs) k = some q.2 := by simp [atKey, List.find?_cons, e']
    rw [Zbj e, b]; exact h2
  · have e' : ¬ q.1 = k := fun z => e (h1.trans z)
    have b : atKey (q :: qs) k = atKey qs k := by simp [atKey, List.find?_cons, e']
    rw [Zbk e, b]; exact ih
section
variable {P : Program} {w : World} {H : Hp} {h : Heap} {a : Addr}
end
def DGet (H : Hp) (a : Addr) (y : V) (r : Option V) : Prop :=
 (∃ kvs k, Rd H a (.dK kvs) /\ y = kV k /\ r = Y0 kvs k) \/ ∃ kvs k b, Rd H a (.dT kvs) /\ y = .ref b /\ H b = some (.tup (k.map kV)) /\ r = Y0 kvs k
def DPut (H : Hp) (a : Addr) (y v : V) (H' : Hp) : Prop :=
 (∃ kvs k, H a = some (.dK kvs) /\ y = kV k /\ kvs.length < sizeLine /\ H' = upd H a (.dK (Qc kvs k v))) \/
 ∃ kvs k b, H a = some (.dT kvs) /\ y = .ref b /\ H b = some (.tup (k.map kV)) /\ kvs.length < sizeLine /\ H' = upd H a (.dT (Qc kvs k v))
theorem DGet.k {H : Hp} {a : Addr} {kvs : List (Key × V)} {k : Key} (e : H a = some (.dK kvs)) : DGet H a (kV k) (Y0 kvs k) := .inl ⟨kvs, k, .inl e, rfl, rfl⟩
theorem DGet.t {H : Hp} {a b : Addr} {kvs : List (List Key × V)} {k : List Key} (e : H a = some (.dT kvs)) (eb : H b = some (.tup (k.map kV))) : DGet H a (.ref b) (Y0 kvs k) := .inr ⟨kvs, k, b, .inl e, rfl, eb, rfl⟩
theorem DPut.k {H : Hp} {a : Addr} {kvs : List (Key × V)} {k : Key} {v : V} (e : H a = some (.dK kvs)) (hl : kvs.length < sizeLine) : DPut H a (kV k) v (upd H a (.dK (Qc kvs k v))) := .inl ⟨kvs, k, e, rfl, hl, rfl⟩
theorem DPut.t {H : Hp} {a b : Addr} {kvs : List (List Key × V)} {k : List Key} {v : V} (e : H a = some (.dT kvs)) (eb : H b = some (.tup (k.map kV))) (hl : kvs.length < sizeLine) :
 DPut H a (.ref b) v (upd H a (.dT (Qc kvs k v))) := .inr ⟨kvs, k, b, e, rfl, eb, hl, rfl⟩
section
variable {X : Cx} {pins : List (Addr × Obj)} {σ : St} {H : Hp} {s : Shared} {a : Addr} {y v : V} {u r : Value} {o : Option V} {A : Around} {E : Value -> Shared -> Prop}
end
section
variable {X : Cx} {pins : List (Addr × Obj)} {σ : St} {H : Hp} {s : Shared} {a : Addr} {kvs : List (Key × V)} {k : Key} {u : Value} {A : Around} {E : Value -> Shared -> Prop}
end
section
variable {X : Cx} {o i e value : Expr} {pos pos' tpos : Pos} {td ty tv : TE}
end
section
variable {X : Cx} {pos : Pos}
end
structure M1 (X : Cx) (o : Expr) (m : Str) (apos : Pos) (e : Expr) (cpos : Pos) : Prop where
 base : attributeBase o m X.env (eval o X.env) = eval o X.env
 few : ((backTo cpos (starEach [e] X.env)).all (fun x => !x.1) && (backToKw cpos (keywordEach [] X.env)).all (fun x => x.1.isSome)
  && decide (([e] : List Expr).length + ([] : List Keyword).length + (if ([] : List Keyword).isEmpty then 0 else 1) < 30)) = true
 line : (apos.endLine == cpos.line) = true
 trees : backTo cpos (starEach [e] X.env) = [(false, eval e X.env)]
structure M2 (X : Cx) (o : Expr) (m : Str) (apos : Pos) (e f : Expr) (cpos : Pos) : Prop where
 base : attributeBase o m X.env (eval o X.env) = eval o X.env
 few : ((backTo cpos (starEach [e, f] X.env)).all (fun x => !x.1) && (backToKw cpos (keywordEach [] X.env)).all (fun x => x.1.isSome)
  && decide (([e, f] : List Expr).length + ([] : List Keyword).length + (if ([] : List Keyword).isEmpty then 0 else 1) < 30)) = true
 line : (apos.endLine == cpos.line) = true
 trees : backTo cpos (starEach [e, f] X.env) = [(false, eval e X.env), (false, eval f X.env)]
section
variable {X : Cx} {pins : List (Addr × Obj)} {σ : St} {H : Hp} {s : Shared} {a : Addr} {y d : V} {u r : Value} {o : Option V} {A : Around} {E : Value -> Shared -> Prop}
end
section
variable {X : Cx} {o e f : Expr} {apos cpos : Pos} {td ty tx : TE}
end
section
variable {X : Cx} {pins : List (Addr × Obj)} {σ : St} {H : Hp} {s : Shared} {a : Addr} {kvs : List (Key × V)} {A : Around} {E : Value -> Shared -> Prop}
end
section
variable {X : Cx} {pins : List (Addr × Obj)} {σ : St} {H : Hp} {s : Shared} {a : Addr} {y : V} {u : Value} {A : Around} {E : Value -> Shared -> Prop}
end
end L2
namespace DL
open PySem PySem.Spec L2
inductive D where
 | non
 | bl (b : Bool)
 | int (i : Int)
 | str (cs : List Nat)
 | lst (xs : List D)
 | tup (xs : List D)
 | obj (c : String) (ks : List String) (xs : List D)
 | dct (ks : List Key) (xs : List D)
 | dtt (ks : List (List Key)) (xs : List D)
def KL (K : PySem.W.Frag) (a : Addr) (vs : List V) : Prop := ∃ (o : Obj) (its : Array Value) (n : Nat), K.lookup a = some o /\ o.cls = .type "list" /\ o.dict = none /\ o.data = .seq its n /\ its.size <= sizeLine /\ Vals vs its.toList
structure Kn where
 c : String -> Addr
 K : PySem.W.Frag
def ZL : D -> Bool
 | .non => true
 | .bl _ => true
 | .int _ => true
 | .str _ => true
 | _ => false
mutual
def Rep (cA : Kn) (av : Addr -> Prop) (H : Hp) : D -> V -> Prop
 | .non, v => v = .non
 | .bl b, v => v = .bl b
 | .int i, v => v = .int i
 | .str cs, v => v = S cs
 | .lst xs, v => ∃ a vs, v = .ref a /\ (av a -> KL cA.K a vs) /\ SqL cA.K H a vs /\ RepL cA av H xs vs
 | .tup xs, v => ∃ a vs, v = .ref a /\ ¬ av a /\ H a = some (.tup vs) /\ RepL cA av H xs vs
 | .obj c ks xs, v => ∃ a dx vs, v = .ref a /\ ¬ av a /\ H a = some (.ins (cA.c c) dx ((ks.map Str.ofString).zip vs)) /\ ks.length = xs.length /\ RepL cA av H xs vs
 | .dct ks xs, v => ∃ a vs, v = .ref a /\ ¬ av a /\ H a = some (.dK (ks.zip vs)) /\ ks.length = xs.length /\ RepL cA av H xs vs
 | .dtt ks xs, v => ∃ a vs, v = .ref a /\ ¬ av a /\ H a = some (.dT (ks.zip vs)) /\ ks.length = xs.length /\ RepL cA av H xs vs
def RepL (cA : Kn) (av : Addr -> Prop) (H : Hp) : List D -> List V -> Prop
 | [], vs => vs = []
 | x :: xs, vs => ∃ v r, vs = v :: r /\ Rep cA av H x v /\ RepL cA av H xs r
end
section
variable {cA : Kn} {G : Cn} {av av' : Addr -> Prop} {H H' : Hp}
theorem Rd.ext {a : Addr} {u : HO} (h : Rd H a u) (k : ∀ o, H a = some o -> H' a = some o) : Rd H' a u := by
 rcases h with h | ⟨o, h⟩
 · exact .inl (k _ h)
 · exact .inr ⟨o, k _ h⟩
theorem Rd.there {a : Addr} {u : HO} (h : Rd H a u) : H a ≠ none := by
 rcases h with h | ⟨o, h⟩ <;> rw [h] <;> exact fun z => by cases z
theorem Qd {K : PySem.W.Frag} {a : Addr} {vs : List V} (n : av a -> KL K a vs) (r : SqL K H a vs) (k : ∀ b o, ¬ av b -> H b = some o -> H' b = some o) : SqL K H' a vs := by
 by_cases h : av a
 · exact .inr (n h)
 · rcases r with r | r
   · exact .inl (Rd.ext r fun o => k a o h)
   · exact .inr r
theorem ZfI {K : PySem.W.Frag} {a : Addr} {vs : List V} (n : av a -> KL K a vs) (r : SqL K H a vs) (k : ∀ b, av' b -> av b \/ H b = none) : av' a -> KL K a vs := fun z => by
 rcases k a z with z | z
 · exact n z
 · rcases r with r | r
   · exact absurd z (Rd.there r)
   · exact r
mutual
theorem Rep.ext : ∀ {d : D} {v : V}, (∀ b o, ¬ av b -> H b = some o -> H' b = some o) -> Rep cA av H d v -> Rep cA av H' d v
 | .non, _, _, h => h
 | .bl _, _, _, h => h
 | .int _, _, _, h => h
 | .str _, _, _, h => h
 | .lst xs, v, k, h => by
  unfold Rep at h ⊢
  obtain ⟨a, vs, e, n, r, l⟩ := h
  exact ⟨a, vs, e, n, Qd n r k, RepL.ext k l⟩
 | .tup xs, v, k, h => by
  unfold Rep at h ⊢
  obtain ⟨a, vs, e, n, r, l⟩ := h
  exact ⟨a, vs, e, n, k a _ n r, RepL.ext k l⟩
 | .obj c ks xs, v, k, h => by
  unfold Rep at h ⊢
  obtain ⟨a, dx, vs, e, n, r, z, l⟩ := h
  exact ⟨a, dx, vs, e, n, k a _ n r, z, RepL.ext k l⟩
 | .dct ks xs, v, k, h => by
  unfold Rep at h ⊢
  obtain ⟨a, vs, e, n, r, z, l⟩ := h
  exact ⟨a, vs, e, n, k a _ n r, z, RepL.ext k l⟩
 | .dtt ks xs, v, k, h => by
  unfold Rep at h ⊢
  obtain ⟨a, vs, e, n, r, z, l⟩ := h
  exact ⟨a, vs, e, n, k a _ n r, z, RepL.ext k l⟩
theorem RepL.ext : ∀ {xs : List D} {vs : List V}, (∀ b o, ¬ av b -> H b = some o -> H' b = some o) -> RepL cA av H xs vs -> RepL cA av H' xs vs
 | [], _, _, h => h
 | x :: xs, vs, k, h => by
  unfold RepL at h ⊢
  obtain ⟨v, r, e, h1, h2⟩ := h
  exact ⟨v, r, e, Rep.ext k h1, RepL.ext k h2⟩
end
mutual
theorem Rep.av : ∀ {d : D} {v : V}, (∀ b, av' b -> av b \/ H b = none) -> Rep cA av H d v -> Rep cA av' H d v
 | .non, _, _, h => h
 | .bl _, _, _, h => h
 | .int _, _, _, h => h
 | .str _, _, _, h => h
 | .lst xs, v, k, h => by
  unfold Rep at h ⊢
  obtain ⟨a, vs, e, n, r, l⟩ := h
  exact ⟨a, vs, e, ZfI n r k, r, RepL.av k l⟩
 | .tup xs, v, k, h => by
  unfold Rep at h ⊢
  obtain ⟨a, vs, e, n, r, l⟩ := h
  exact ⟨a, vs, e, fun z => (k a z).elim n (by rw [r]; exact fun z => by cases z), r, RepL.av k l⟩
 | .obj c ks xs, v, k, h => by
  unfold Rep at h ⊢
  obtain ⟨a, dx, vs, e, n, r, z, l⟩ := h
  exact ⟨a, dx, vs, e, fun y => (k a y).elim n (by rw [r]; exact fun z => by cases z), r, z, RepL.av k l⟩
 | .dct ks xs, v, k, h => by
  unfold Rep at h ⊢
  obtain ⟨a, vs, e, n, r, z, l⟩ := h
  exact ⟨a, vs, e, fun y => (k a y).elim n (by rw [r]; exact fun z => by cases z), r, z, RepL.av k l⟩
 | .dtt ks xs, v, k, h => by
  unfold Rep at h ⊢
  obtain ⟨a, vs, e, n, r, z, l⟩ := h
  exact ⟨a, vs, e, fun y => (k a y).elim n (by rw [r]; exact fun z => by cases z), r, z, RepL.av k l⟩
theorem RepL.av : ∀ {xs : List D} {vs : List V}, (∀ b, av' b -> av b \/ H b = none) -> RepL cA av H xs vs -> RepL cA av' H xs vs
 | [], _, _, h => h
 | x :: xs, vs, k, h => by
  unfold RepL at h ⊢
  obtain ⟨v, r, e, h1, h2⟩ := h
  exact ⟨v, r, e, Rep.av k h1, RepL.av k h2⟩
end
theorem Rep.same {d : D} {v : V} (k : Same H H') (h : Rep cA av H d v) : Rep cA av H' d v := h.ext fun b o _ => k b o
theorem RepL.same {xs : List D} {vs : List V} (k : Same H H') (h : RepL cA av H xs vs) : RepL cA av H' xs vs := h.ext fun b o _ => k b o
theorem RepL.nil : RepL cA av H [] [] := by unfold RepL; rfl
theorem RepL.cons {d : D} {v : V} {xs : List D} {vs : List V} (h : Rep cA av H d v) (t : RepL cA av H xs vs) : RepL cA av H (d :: xs) (v :: vs) := by
 unfold RepL
 exact ⟨v, vs, rfl, h, t⟩
theorem RepL.uncons {d : D} {xs : List D} {vs : List V} (h : RepL cA av H (d :: xs) vs) : ∃ v r, vs = v :: r /\ Rep cA av H d v /\ RepL cA av H xs r := by
 unfold RepL at h
 exact h
theorem RepL.nil_of {vs : List V} (h : RepL cA av H [] vs) : vs = [] := by
 unfold RepL at h
 exact h
theorem RepL.length : ∀ {xs : List D} {vs : List V}, RepL cA av H xs vs -> xs.length = vs.length
 | [], vs, h => by rw [h.nil_of]; rfl
 | x :: xs, vs, h => by
  obtain ⟨v, r, rfl, _, t⟩ := h.uncons
  rw [List.length_cons, List.length_cons, RepL.length t]
theorem RepL.get : ∀ {xs : List D} {vs : List V} {i : Nat} {x : D}, RepL cA av H xs vs -> xs[i]? = some x -> ∃ v, vs[i]? = some v /\ Rep cA av H x v
 | [], _, _, _, _, e => by simp at e
 | y :: xs, vs, 0, x, h, e => by
  obtain ⟨v, r, rfl, h1, _⟩ := h.uncons
  simp at e; subst e
  exact ⟨v, rfl, h1⟩
 | y :: xs, vs, i + 1, x, h, e => by
  obtain ⟨v, r, rfl, _, t⟩ := h.uncons
  obtain ⟨u, h1, h2⟩ := RepL.get (i := i) t (by simpa using e)
  exact ⟨u, by simpa using h1, h2⟩
theorem RepL.append : ∀ {xs ys : List D} {vs ws : List V}, RepL cA av H xs vs -> RepL cA av H ys ws -> RepL cA av H (xs ++ ys) (vs ++ ws)
 | [], _, vs, _, h, t => by rw [h.nil_of]; exact t
 | x :: xs, ys, vs, ws, h, t => by
  obtain ⟨v, r, rfl, h1, h2⟩ := h.uncons
  exact .cons h1 (RepL.append h2 t)
theorem RepL.drop : ∀ {xs : List D} {vs : List V} (n : Nat), RepL cA av H xs vs -> RepL cA av H (xs.drop n) (vs.drop n)
 | _, _, 0, h => h
 | [], vs, n + 1, h => by rw [h.nil_of]; exact .nil
 | x :: xs, vs, n + 1, h => by
  obtain ⟨v, r, rfl, _, h2⟩ := h.uncons
  exact RepL.drop n h2
theorem RepL.take : ∀ {xs : List D} {vs : List V} (n : Nat), RepL cA av H xs vs -> RepL cA av H (xs.take n) (vs.take n)
 | _, _, 0, h => by simp; exact .nil
 | [], vs, n + 1, h => by rw [h.nil_of]; exact .nil
 | x :: xs, vs, n + 1, h => by
  obtain ⟨v, r, rfl, h1, h2⟩ := h.uncons
  exact .cons h1 (RepL.take n h2)
theorem RepL.set {d : D} {v : V} (hd : Rep cA av H d v) : ∀ {xs : List D} {vs : List V} (i : Nat), RepL cA av H xs vs -> RepL cA av H (xs.set i d) (vs.set i v)
 | [], vs, _, h => by rw [h.nil_of]; exact .nil
 | x :: xs, vs, 0, h => by
  obtain ⟨v', r, rfl, h1, h2⟩ := h.uncons
  exact .cons hd h2
 | x :: xs, vs, i + 1, h => by
  obtain ⟨v', r, rfl, h1, h2⟩ := h.uncons
  exact .cons h1 (RepL.set hd i h2)
def val : D -> V
 | .bl b => .bl b
 | .int i => .int i
 | .str cs => S cs
 | _ => .non
theorem Rep.val {d : D} {v : V} (hs : ZL d = true) (h : Rep cA av H d v) : v = DL.val d := by
 cases d <;> first | exact h | cases hs
theorem Rep.of_val {d : D} (hs : ZL d = true) : Rep cA av H d (DL.val d) := by
 cases d <;> first | rfl | cases hs
theorem RepL.vals : ∀ {xs : List D} {vs : List V}, xs.all ZL = true -> RepL cA av H xs vs -> vs = xs.map DL.val
 | [], vs, _, h => h.nil_of
 | x :: xs, vs, hs, h => by
  rw [List.all_cons, Bool.and_eq_true] at hs
  obtain ⟨v, r, rfl, h1, h2⟩ := h.uncons
  rw [List.map_cons, h1.val hs.1, RepL.vals hs.2 h2]
theorem RepL.of_vals : ∀ {xs : List D}, xs.all ZL = true -> RepL cA av H xs (xs.map DL.val)
 | [], _ => .nil
 | x :: xs, hs => by
  rw [List.all_cons, Bool.and_eq_true] at hs
  exact .cons (.of_val hs.1) (RepL.of_vals hs.2)
def RepT (cA : Kn) (t i : Addr -> Prop) (H : Hp) : D -> V -> Prop
 | .lst xs, v => ∃ a vs, v = .ref a /\ (t a -> KL cA.K a vs) /\ SqL cA.K H a vs /\ RepL cA i H xs vs
 | .tup xs, v => ∃ a vs, v = .ref a /\ ¬ t a /\ H a = some (.tup vs) /\ RepL cA i H xs vs
 | .obj c ks xs, v => ∃ a dx vs, v = .ref a /\ ¬ t a /\ H a = some (.ins (cA.c c) dx ((ks.map Str.ofString).zip vs)) /\ ks.length = xs.length /\ RepL cA i H xs vs
 | .dct ks xs, v => ∃ a vs, v = .ref a /\ ¬ t a /\ H a = some (.dK (ks.zip vs)) /\ ks.length = xs.length /\ RepL cA i H xs vs
 | .dtt ks xs, v => ∃ a vs, v = .ref a /\ ¬ t a /\ H a = some (.dT (ks.zip vs)) /\ ks.length = xs.length /\ RepL cA i H xs vs
 | d, v => v = DL.val d
theorem Rep.t {d : D} {v : V} (h : Rep cA av H d v) : RepT cA av av H d v := by
 cases d <;> first | exact h | (unfold Rep at h; exact h)
theorem RepT.r {d : D} {v : V} (h : RepT cA av av H d v) : Rep cA av H d v := by
 cases d <;> first | exact h | (unfold Rep; exact h)
theorem RepT.weak {t t' i i' : Addr -> Prop} {d : D} {v : V} (ht : ∀ a, t' a -> t a) (hi : ∀ a, i' a -> i a) (h : RepT cA t i H d v) : RepT cA t' i' H d v := by
 cases d with
 | lst xs => obtain ⟨a, vs, e, n, r, l⟩ := h; exact ⟨a, vs, e, fun z => n (ht a z), r, l.av fun b z => .inl (hi b z)⟩
 | tup xs => obtain ⟨a, vs, e, n, r, l⟩ := h; exact ⟨a, vs, e, fun z => n (ht a z), r, l.av fun b z => .inl (hi b z)⟩
 | obj c ks xs => obtain ⟨a, dx, vs, e, n, r, z, l⟩ := h; exact ⟨a, dx, vs, e, fun z => n (ht a z), r, z, l.av fun b z => .inl (hi b z)⟩
 | dct ks xs => obtain ⟨a, vs, e, n, r, z, l⟩ := h; exact ⟨a, vs, e, fun z => n (ht a z), r, z, l.av fun b z => .inl (hi b z)⟩
 | dtt ks xs => obtain ⟨a, vs, e, n, r, z, l⟩ := h; exact ⟨a, vs, e, fun z => n (ht a z), r, z, l.av fun b z => .inl (hi b z)⟩
 | _ => exact h
theorem RepT.same {t i : Addr -> Prop} {d : D} {v : V} (k : Same H H') (h : RepT cA t i H d v) : RepT cA t i H' d v := by
 cases d with
 | lst xs => obtain ⟨a, vs, e, n, r, l⟩ := h; exact ⟨a, vs, e, n, k.seq r, l.same k⟩
 | tup xs => obtain ⟨a, vs, e, n, r, l⟩ := h; exact ⟨a, vs, e, n, k a _ r, l.same k⟩
 | obj c ks xs => obtain ⟨a, dx, vs, e, n, r, z, l⟩ := h; exact ⟨a, dx, vs, e, n, k a _ r, z, l.same k⟩
 | dct ks xs => obtain ⟨a, vs, e, n, r, z, l⟩ := h; exact ⟨a, vs, e, n, k a _ r, z, l.same k⟩
 | dtt ks xs => obtain ⟨a, vs, e, n, r, z, l⟩ := h; exact ⟨a, vs, e, n, k a _ r, z, l.same k⟩
 | _ => exact h
end
abbrev Env := List (Option D)
structure Cn where
 cA : Kn
 pin : Nat -> Option (Addr ⊕ V)
def AV (av : Addr -> Prop) (A : Nat -> Option Addr) (a : Addr) : Prop := av a \/ ∃ i, A i = some a
def Own (cA : Kn) (av : Addr -> Prop) (H : Hp) : D -> Addr -> Prop
 | .lst xs, a => ∃ vs, H a = some (.lst vs) /\ RepL cA av H xs vs
 | .obj c ks xs, a => ∃ dx vs, H a = some (.ins (cA.c c) dx ((ks.map Str.ofString).zip vs)) /\ ks.length = xs.length /\ RepL cA av H xs vs
 | .dct ks xs, a => ∃ vs, H a = some (.dK (ks.zip vs)) /\ ks.length = xs.length /\ RepL cA av H xs vs
 | .dtt ks xs, a => ∃ vs, H a = some (.dT (ks.zip vs)) /\ ks.length = xs.length /\ RepL cA av H xs vs
 | _, _ => False
structure ER (G : Cn) (ow : List Nat) (H0 : Hp) (av : Addr -> Prop) (A : Nat -> Option Addr) (σ : St) (H : Hp) (δ : Env) : Prop where
 same : Same H0 H
 avd : ∀ a, av a -> H0 a ≠ none
 fr : ∀ i a, A i = some a -> H0 a = none
 inj : ∀ i j a, A i = some a -> A j = some a -> i = j
 live : ∀ i a, A i = some a -> H a ≠ none
 dom : ∀ i, A i ≠ none -> i ∈ ow
 dom' : ∀ i ∈ ow, A i ≠ none
 len : σ.length = δ.length
 pin : ∀ i a, G.2 i = some (.inl a) -> A i = some a
 kept : ∀ i v, G.2 i = some (.inr v) -> σ[i]? = some (some v)
 var : ∀ (i : Nat) (d : D), δ[i]? = some (some d) -> ∃ v, σ[i]? = some (some v) /\ (A i = none -> Rep G.1 (AV av A) H d v) /\ (∀ a, A i = some a -> v = .ref a /\ Own G.1 (AV av A) H d a)
inductive Ql where
 | cl | tp | dt
def RepQ (cA : Kn) (av : Addr -> Prop) (A : Nat -> Option Addr) (H : Hp) : Ql -> D -> V -> Prop
 | .cl, d, v => RepT cA (AV av A) (AV av A) H d v
 | .tp, d, v => RepT cA av (AV av A) H d v
 | .dt, d, v => RepT cA av av H d v
def Ql.it : Ql -> Ql
 | .dt => .dt
 | _ => .cl
section
variable {cA : Kn} {G : Cn} {ow : List Nat} {H0 H H' : Hp} {av : Addr -> Prop} {A : Nat -> Option Addr} {σ : St} {δ : Env}
theorem AV.l {a : Addr} (h : av a) : AV av A a := .inl h
def Ql.iv (q : Ql) (av : Addr -> Prop) (A : Nat -> Option Addr) : Addr -> Prop := match q with
 | .dt => av
 | _ => AV av A
theorem RepQ.tp {q : Ql} {d : D} {v : V} (h : RepQ cA av A H q d v) : RepT cA av (q.iv av A) H d v := by
 cases q with
 | cl => exact h.weak (fun a => .inl) fun a z => z
 | tp => exact h
 | dt => exact h
theorem RepQ.any {q : Ql} {d : D} {v : V} (h : RepQ cA av A H q d v) : Rep cA av H d v := by
 cases q with
 | cl => exact (h.weak (fun a => .inl) fun a => .inl).r
 | tp => exact (h.weak (fun a z => z) fun a => .inl).r
 | dt => exact h.r
theorem RepQ.same {q : Ql} {d : D} {v : V} (k : Same H H') (h : RepQ cA av A H q d v) : RepQ cA av A H' q d v := by
 cases q <;> exact RepT.same k h
theorem ER.mono (E : ER G ow H0 av A σ H δ) (k : Same H H') : ER G ow H0 av A σ H' δ := by
 refine ⟨E.same.trans k, E.avd, E.fr, E.inj, fun i a e => ?_, E.dom, E.dom', E.len, E.pin, E.kept, fun i d e => ?_⟩
 · have := E.live i a e
   cases q : H a with
   | none => exact absurd q this
   | some o => rw [k a o q]; exact fun z => by cases z
 · obtain ⟨v, h1, h2, h3⟩ := E.var i d e
   refine ⟨v, h1, fun z => (h2 z).same k, fun a z => ⟨(h3 a z).1, ?_⟩⟩
   have := (h3 a z).2
   cases d with
   | lst xs => obtain ⟨vs, q1, q2⟩ := this; exact ⟨vs, k _ _ q1, q2.same k⟩
   | obj c ks xs => obtain ⟨dx, vs, q1, q0, q2⟩ := this; exact ⟨dx, vs, k _ _ q1, q0, q2.same k⟩
   | dct ks xs => obtain ⟨vs, q1, q0, q2⟩ := this; exact ⟨vs, k _ _ q1, q0, q2.same k⟩
   | dtt ks xs => obtain ⟨vs, q1, q0, q2⟩ := this; exact ⟨vs, k _ _ q1, q0, q2.same k⟩
   | _ => exact this
theorem ER.avl (E : ER G ow H0 av A σ H δ) : ∀ a, AV av A a -> H a ≠ none := fun a h => by
 rcases h with h | ⟨i, h⟩
 · have := E.avd a h
   cases q : H0 a with
   | none => exact absurd q this
   | some o => rw [E.same a o q]; exact fun z => by cases z
 · exact E.live i a h
theorem ER.avH (E : ER G ow H0 av A σ H δ) : ∀ a, av a -> H a ≠ none := fun a h => E.avl a (.inl h)
end
def VE (G : Cn) (ow : List Nat) (te : TE) (q : Ql) (ε : Env -> Option D) : Prop :=
 ∀ H0 av A σ H δ, ER G ow H0 av A σ H δ -> ∀ d, ε δ = some d -> ∀ Q : VK, (∀ v H', Same H H' -> RepQ G.1 av A H' q d v -> Q v H') -> te σ H Q
def VF (G : Cn) (ow : List Nat) (te : TE) (ε : Env -> Option D) : Prop :=
 ∀ H0 av A σ H δ, ER G ow H0 av A σ H δ -> ∀ d, ε δ = some d -> ∀ Q : VK, (∀ p vs xs H1, Same H H1 -> H1 p = none -> RepL G.1 (AV av A) H1 xs vs -> d = .lst xs -> Q (.ref p) (upd H1 p (.lst vs))) -> te σ H Q
def VT (G : Cn) (ow : List Nat) (tt : TT) (τ : Env -> Option Bool) : Prop :=
 ∀ H0 av A σ H δ, ER G ow H0 av A σ H δ -> ∀ b, τ δ = some b -> ∀ Q : Bool -> Hp -> Prop, (∀ H', Same H H' -> Q b H') -> tt σ H Q
def RepQL (cA : Kn) (av : Addr -> Prop) (A : Nat -> Option Addr) (H : Hp) (q : Ql) : List D -> List V -> Prop
 | [], vs => vs = []
 | x :: xs, vs => ∃ v r, vs = v :: r /\ RepQ cA av A H q x v /\ RepQL cA av A H q xs r
def VA (G : Cn) (ow : List Nat) (ta : TA) (q : Ql) (α : Env -> Option (List D)) : Prop :=
 ∀ H0 av A σ H δ, ER G ow H0 av A σ H δ -> ∀ ds, α δ = some ds -> ∀ Q : List V -> Hp -> Prop, (∀ vs H', Same H H' -> RepQL G.1 av A H' q ds vs -> Q vs H') -> ta σ H Q
section
variable {cA : Kn} {G : Cn} {ow : List Nat}
theorem RepQL.same {av : Addr -> Prop} {A : Nat -> Option Addr} {H H' : Hp} {q : Ql} (k : Same H H') : ∀ {xs : List D} {vs : List V}, RepQL cA av A H q xs vs -> RepQL cA av A H' q xs vs
 | [], _, h => h
 | x :: xs, vs, h => by
  obtain ⟨v, r, e, h1, h2⟩ := h
  exact ⟨v, r, e, h1.same k, RepQL.same k h2⟩
theorem RepQL.cl {av : Addr -> Prop} {A : Nat -> Option Addr} {H : Hp} : ∀ {xs : List D} {vs : List V}, RepQL cA av A H .cl xs vs -> RepL cA (AV av A) H xs vs
 | [], _, h => by unfold RepL; exact h
 | x :: xs, vs, h => by
  obtain ⟨v, r, e, h1, h2⟩ := h
  subst e
  exact .cons (RepT.r h1) (RepQL.cl h2)
theorem RepQL.any {av : Addr -> Prop} {A : Nat -> Option Addr} {H : Hp} {q : Ql} : ∀ {xs : List D} {vs : List V}, RepQL cA av A H q xs vs -> RepL cA av H xs vs
 | [], _, h => by unfold RepL; exact h
 | x :: xs, vs, h => by
  obtain ⟨v, r, e, h1, h2⟩ := h
  subst e
  exact .cons h1.any (RepQL.any h2)
theorem VE.dt {te : TE} {q : Ql} {ε : Env -> Option D} (h : VE G ow te q ε) : VE G ow te .dt ε := fun H0 av A σ H δ E d e Q k =>
 h H0 av A σ H δ E d e Q fun v H' s r => k v H' s r.any.t
theorem Z8 {H : Hp} {p : Addr} {o : HO} (h : H p = none) : Same H (upd H p o) := Zc3 h
theorem VF.cl {te : TE} {ε : Env -> Option D} (h : VF G ow te ε) : VE G ow te .cl ε := fun H0 av A σ H δ E d e Q k =>
 h H0 av A σ H δ E d e Q fun p vs xs H1 s hp l hd => by
  subst hd
  refine k _ _ (s.trans (Z8 hp)) ⟨p, vs, rfl, fun z => ((E.mono s).avl p z hp).elim, SqL.of Z7, l.same (Z8 hp)⟩
def Za (i : Nat) (δ : Env) : Option D := match δ[i]? with
 | some (some d) => some d
 | _ => none
theorem VC {i : Nat} {δ : Env} {d : D} (h : Za i δ = some d) : δ[i]? = some (some d) := by
 unfold Za at h
 cases e : δ[i]? with
 | none => rw [e] at h; cases h
 | some o =>
  rw [e] at h
  cases o with
  | none => cases h
  | some x => exact congrArg (some ∘ some) (Option.some.inj h)
theorem Zc (i : Nat) (hi : (ow.contains i) = false) : VE G ow (Vr i) .cl (Za i) := fun H0 av A σ H δ E d e Q k => by
 obtain ⟨v, h1, h2, _⟩ := E.var i d (VC e)
 have hn : A i = none := by
  cases q : A i with
  | none => rfl
  | some a =>
   have := E.dom i (by rw [q]; exact fun z => by cases z)
   simp at hi
   exact absurd this hi
 exact ⟨v, h1, k v H (Same.refl H) (h2 hn).t⟩
theorem Qe (i : Nat) (hi : (ow.contains i) = true) : VE G ow (Vr i) .tp (Za i) := fun H0 av A σ H δ E d e Q k => by
 obtain ⟨v, h1, _, h3⟩ := E.var i d (VC e)
 have hi' : i ∈ ow := by simpa using hi
 cases q : A i with
 | none => exact absurd q (E.dom' i hi')
 | some a =>
  obtain ⟨rfl, o⟩ := h3 a q
  have na : ¬ av a := fun z => E.avd a z (E.fr i a q)
  refine ⟨_, h1, k _ H (Same.refl H) ?_⟩
  cases d with
  | lst xs => obtain ⟨vs, q1, q2⟩ := o; exact ⟨a, vs, rfl, fun z => (na z).elim, SqL.of q1, q2⟩
  | obj c ks xs => obtain ⟨dx, vs, q1, q0, q2⟩ := o; exact ⟨a, dx, vs, rfl, na, q1, q0, q2⟩
  | dct ks xs => obtain ⟨vs, q1, q0, q2⟩ := o; exact ⟨a, vs, rfl, na, q1, q0, q2⟩
  | dtt ks xs => obtain ⟨vs, q1, q0, q2⟩ := o; exact ⟨a, vs, rfl, na, q1, q0, q2⟩
  | _ => exact False.elim o
def eC (d : D) (_ : Env) : Option D := some d
theorem Zl {v : V} {d : D} (hs : ZL d = true) (hv : v = val d) : VE G ow (tC v) .cl (eC d) := fun H0 av A σ H δ E d' e Q k => by
 have e' : d = d' := Option.some.inj e
 subst e' hv
 exact k _ H (Same.refl H) (Rep.of_val hs).t
def YC (cA : Kn) (r : R2) (f : D -> D -> Option D) : Prop :=
 ∀ (t t' i : Addr -> Prop) (H : Hp) (x y : D) (vx vy : V) (d : D), (∀ a, i a -> H a ≠ none) -> RepT cA t i H x vx -> RepT cA t' i H y vy -> f x y = some d -> ∀ Q : VK, (∀ v H', Same H H' -> Rep cA i H' d v -> Q v H') -> r vx vy H Q
def eOp (f : D -> D -> Option D) (a b : Env -> Option D) (δ : Env) : Option D := match a δ with
 | some x => match b δ with
  | some y => f x y
  | none => none
 | none => none
theorem Zbl {f : D -> D -> Option D} {a b : Env -> Option D} {δ : Env} {d : D} (h : eOp f a b δ = some d) : ∃ x y, a δ = some x /\ b δ = some y /\ f x y = some d := by
 unfold eOp at h
 cases ea : a δ with
 | none => rw [ea] at h; cases h
 | some x =>
  rw [ea] at h
  cases eb : b δ with
  | none => rw [eb] at h; cases h
  | some y => rw [eb] at h; exact ⟨x, y, rfl, rfl, h⟩
def Ql.jn : Ql -> Ql -> Ql
 | .dt, _ => .dt
 | _, .dt => .dt
 | _, _ => .cl
theorem Zg {r : R2} {f : D -> D -> Option D} {ta tb : TE} {qa qb : Ql} {a b : Env -> Option D} (hr : YC G.1 r f) (ha : VE G ow ta qa a) (hb : VE G ow tb qb b) : VE G ow (tOp r ta tb) (qa.jn qb) (eOp f a b) := fun H0 av A σ H δ E d e Q k => by
 obtain ⟨x, y, ex, ey, ed⟩ := Zbl e
 refine ha H0 av A σ H δ E x ex _ fun vx H1 s1 r1 => hb H0 av A σ H1 δ (E.mono s1) y ey _ fun vy H2 s2 r2 => ?_
 have E2 := (E.mono s1).mono s2
 have r1' := (r1.same s2).tp
 have r2' := r2.tp
 have key : ∀ i : Addr -> Prop, (∀ a, i a -> H2 a ≠ none) -> RepT G.1 av i H2 x vx -> RepT G.1 av i H2 y vy -> (∀ v H', Same H2 H' -> Rep G.1 i H' d v -> Q v H') -> r vx vy H2 Q := fun i hi h1 h2 h3 => hr av av i H2 x y vx vy d hi h1 h2 ed Q h3
 have toav : ∀ {dd : D} {v : V}, RepT G.1 av (AV av A) H2 dd v -> RepT G.1 av av H2 dd v := fun h => h.weak (fun a z => z) fun a => .inl
 cases qa with
 | dt =>
  refine key av E2.avH r1' ?_ fun v H' s3 r3 => k v H' ((s1.trans s2).trans s3) r3.t
  cases qb with
  | dt => exact r2'
  | cl => exact toav r2'
  | tp => exact toav r2'
 | cl =>
  cases qb with
  | dt => exact key av E2.avH (toav r1') r2' fun v H' s3 r3 => k v H' ((s1.trans s2).trans s3) r3.t
  | cl => exact key _ E2.avl r1' r2' fun v H' s3 r3 => k v H' ((s1.trans s2).trans s3) r3.t
  | tp => exact key _ E2.avl r1' r2' fun v H' s3 r3 => k v H' ((s1.trans s2).trans s3) r3.t
 | tp =>
  cases qb with
  | dt => exact key av E2.avH (toav r1') r2' fun v H' s3 r3 => k v H' ((s1.trans s2).trans s3) r3.t
  | cl => exact key _ E2.avl r1' r2' fun v H' s3 r3 => k v H' ((s1.trans s2).trans s3) r3.t
  | tp => exact key _ E2.avl r1' r2' fun v H' s3 r3 => k v H' ((s1.trans s2).trans s3) r3.t
end
end DL
namespace DL
open PySem PySem.Spec L2
mutual
def toP : D -> PyData
 | .non => .none
 | .bl b => .bool b
 | .int i => .int i
 | .str cs => .str (tx cs)
 | .lst xs => .list (Xc xs)
 | .tup xs => .tuple (Xc xs)
 | .obj _ _ _ => .dict []
 | .dct _ _ => .dict []
 | .dtt _ _ => .dict []
def Xc : List D -> List PyData
 | [] => []
 | x :: xs => toP x :: Xc xs
end
section
variable {X : Cx} {cA : Kn}
mutual
theorem Ua {pins : List (Addr × Obj)} {σ : L2.St} {H : Hp} {s : Shared} {av : Addr -> Prop} (hK : cA.K = X.K) (I : Inv X pins σ H s) : ∀ (d : D) (v : V) (u : Value), PyData.canLay0 (toP d) = true -> Rep cA av H d v -> RelV v u -> ∃ as, Reads s.heap u (toP d) as
 | .non, v, u, _, h, r => by
  cases (show v = .non from h); cases r
  exact ⟨_, .none⟩
 | .bl b, v, u, _, h, r => by
  cases (show v = .bl b from h); cases r
  exact ⟨_, .bool b⟩
 | .int i, v, u, _, h, r => by
  cases (show v = .int i from h)
  obtain ⟨t, rfl⟩ := r
  exact ⟨_, .int i t⟩
 | .str cs, v, u, _, h, r => by
  cases (show v = S cs from h)
  obtain ⟨t, rfl⟩ := r
  exact ⟨_, .str _ t⟩
 | .lst xs, v, u, c, h, r => by
  unfold Rep at h
  obtain ⟨a, vs, rfl, _, rd, l⟩ := h
  cases r
  obtain ⟨its, rv, ⟨ob, n, e, hc, hd, hs⟩, z⟩ := I.list (show SqL X.K H a vs from hK ▸ rd)
  obtain ⟨as, ra⟩ := Js hK I xs vs its (by unfold toP PyData.canLay0 at c; exact c) l rv
  unfold toP
  exact ⟨_, .list e hc hs (by simpa using ra)⟩
 | .tup xs, v, u, c, h, r => by
  unfold Rep at h
  obtain ⟨a, vs, rfl, _, rd, l⟩ := h
  cases r
  obtain ⟨z, its, rv, ob, e, hc, ⟨n, hd⟩, _⟩ := (show ObjOk X.prog X.w H s.heap a (.tup vs) from I.hok a _ rd)
  obtain ⟨as, ra⟩ := Js hK I xs vs its (by unfold toP PyData.canLay0 at c; exact c) l rv
  unfold toP
  exact ⟨_, .tuple e hc hd (by simpa using ra)⟩
 | .obj c' ks xs, v, u, c, h, r => by
  unfold toP PyData.canLay0 at c
  cases c
 | .dct ks xs, v, u, c, h, r => by
  unfold toP PyData.canLay0 at c
  cases c
 | .dtt ks xs, v, u, c, h, r => by
  unfold toP PyData.canLay0 at c
  cases c
theorem Js {pins : List (Addr × Obj)} {σ : L2.St} {H : Hp} {s : Shared} {av : Addr -> Prop} (hK : cA.K = X.K) (I : Inv X pins σ H s) : ∀ (xs : List D) (vs : List V) (us : List Value), PyData.canLayAll0 (Xc xs) = true -> RepL cA av H xs vs -> Vals vs us -> ∃ as, ReadsAll s.heap us (Xc xs) as
 | [], vs, us, _, h, r => by
  rw [h.nil_of] at r
  cases r
  exact ⟨_, .nil⟩
 | x :: xs, vs, us, c, h, r => by
  obtain ⟨v, rr, rfl, h1, h2⟩ := h.uncons
  cases r with
  | cons r1 r2 =>
   unfold Xc PyData.canLayAll0 at c
   rw [Bool.and_eq_true] at c
   obtain ⟨a1, q1⟩ := Ua hK I x v _ c.1 h1 r1
   obtain ⟨a2, q2⟩ := Js hK I xs rr _ c.2 h2 r2
   unfold Xc
   exact ⟨_, .cons q1 q2⟩
end
end
def eqD (x y : D) : Option D :=
 if ZL x && ZL y && Y8 (val x) (val y) then some (.bl (decide (val x = val y)))
 else if SeqAt.shaped (toP x) && SeqAt.shaped (toP y) then some (.bl (PyData.eqv (toP x) (toP y))) else none
def neD (x y : D) : Option D := match eqD x y with
 | some (.bl b) => some (.bl (!b))
 | _ => none
def Qf (cA : Kn) (neg : Bool) : R2 := fun x y H Q => ∃ av av' dx dy b, Rep cA av H dx x /\ Rep cA av' H dy y /\ eqD dx dy = some (.bl b) /\ Q (.bl (neg != b)) H
section
variable {X : Cx} {cA : Kn}
theorem Xu (hu : X.A.units + 64 < cLine) (hK : cA.K = X.K := by rfl) : OpR X (compareOp .Eq) (Qf cA false) := by
 intro pins s σ H x y v u Q I rx ry h
 obtain ⟨av, av', dx, dy, b, hx, hy, e, q⟩ := h
 unfold eqD at e
 by_cases h1 : (ZL dx && ZL dy && Y8 (val dx) (val dy)) = true
 · rw [if_pos h1] at e
   simp only [Bool.and_eq_true] at h1
   obtain ⟨⟨s1, s2⟩, s3⟩ := h1
   have e1 := hx.val s1
   have e2 := hy.val s2
   subst e1 e2
   have e' : decide (val dx = val dy) = b := by simpa using e
   exact ZfD pins s σ H _ _ v u Q I rx ry ⟨s3, by rw [e']; simpa using q⟩
 · rw [if_neg h1] at e
   by_cases h2 : (SeqAt.shaped (toP dx) && SeqAt.shaped (toP dy)) = true
   · rw [if_pos h2] at e
     rw [Bool.and_eq_true] at h2
     obtain ⟨as, ra⟩ := Ua hK I dx x v (SeqAt.canLay_of_shaped h2.1) hx rx
     obtain ⟨bs, rb⟩ := Ua hK I dy y u (SeqAt.canLay_of_shaped h2.2) hy ry
     have e' : PyData.eqv (toP dx) (toP dy) = b := by simpa using e
     exact PyProof.Rows.eq_dataH ra rb h2.1 h2.2 hu (by rw [e']; exact ⟨.bl b, H, I, rfl, by simpa using q⟩)
   · rw [if_neg h2] at e
     cases e
theorem VD (hu : X.A.units + 64 < cLine) (hK : cA.K = X.K := by rfl) : OpR X (compareOp .NotEq) (Qf cA true) := by
 intro pins s σ H x y v u Q I rx ry h
 obtain ⟨av, av', dx, dy, b, hx, hy, e, q⟩ := h
 unfold eqD at e
 by_cases h1 : (ZL dx && ZL dy && Y8 (val dx) (val dy)) = true
 · rw [if_pos h1] at e
   simp only [Bool.and_eq_true] at h1
   obtain ⟨⟨s1, s2⟩, s3⟩ := h1
   have e1 := hx.val s1
   have e2 := hy.val s2
   subst e1 e2
   have e' : decide (val dx = val dy) = b := by simpa using e
   exact ZfE pins s σ H _ _ v u Q I rx ry ⟨s3, by rw [e']; simpa using q⟩
 · rw [if_neg h1] at e
   by_cases h2 : (SeqAt.shaped (toP dx) && SeqAt.shaped (toP dy)) = true
   · rw [if_pos h2] at e
     rw [Bool.and_eq_true] at h2
     obtain ⟨as, ra⟩ := Ua hK I dx x v (SeqAt.canLay_of_shaped h2.1) hx rx
     obtain ⟨bs, rb⟩ := Ua hK I dy y u (SeqAt.canLay_of_shaped h2.2) hy ry
     have e' : PyData.eqv (toP dx) (toP dy) = b := by simpa using e
     exact PyProof.Rows.ne_dataH ra rb h2.1 h2.2 hu (by rw [e']; exact ⟨.bl (!b), H, I, rfl, by simpa using q⟩)
   · rw [if_neg h2] at e
     cases e
theorem RepT.av0 {t i : Addr -> Prop} {H : Hp} {d : D} {v : V} (h : RepT cA t i H d v) : Rep cA (fun _ => False) H d v := (h.weak (fun _ z => z.elim) fun _ z => z.elim).r
theorem ZdB {x y d : D} (h : eqD x y = some d) : ∃ b, d = .bl b := by
 unfold eqD at h
 split at h
 · exact ⟨_, (Option.some.inj h).symm⟩
 · split at h
   · exact ⟨_, (Option.some.inj h).symm⟩
   · cases h
theorem Xv : YC cA (Qf cA false) eqD := fun t t' i H x y vx vy d _ hx hy e Q k => by
 obtain ⟨b, rfl⟩ := ZdB e
 exact ⟨_, _, x, y, b, hx.av0, hy.av0, e, k _ H (Same.refl H) (by cases b <;> rfl)⟩
theorem Vf : YC cA (Qf cA true) neD := fun t t' i H x y vx vy d _ hx hy e Q k => by
 unfold neD at e
 cases he : eqD x y with
 | none => rw [he] at e; cases e
 | some z =>
  obtain ⟨b, rfl⟩ := ZdB he
  rw [he] at e
  have e' : D.bl (!b) = d := Option.some.inj e
  subst e'
  exact ⟨_, _, x, y, b, hx.av0, hy.av0, he, k _ H (Same.refl H) (by cases b <;> rfl)⟩
def VH (x : List Nat) (n : Int) : List Nat := (List.replicate n.toNat x).flatten
theorem ZaK (x : List Nat) : ∀ (k : Nat) (acc : Array Nat), (List.replicate k x.toArray).foldl (· ++ ·) acc = acc ++ (List.replicate k x).flatten.toArray
 | 0, acc => by simp
 | k + 1, acc => by
  rw [List.replicate_succ, List.replicate_succ, List.foldl_cons, ZaK x k, List.flatten_cons]
  simp
theorem Zfj (x : List Nat) (n : Int) : Txt.mul (tx x) n = tx (VH x n) := by
 unfold Txt.mul VH
 by_cases h1 : n < 1
 · rw [if_pos h1]
   have : n.toNat = 0 := by omega
   rw [this]
   rfl
 · rw [if_neg h1]
   by_cases h2 : (n == 1 || (tx x).length == 0) = true
   · rw [if_pos h2]
     rw [Bool.or_eq_true] at h2
     rcases h2 with h2 | h2
     · have : n = 1 := by simpa using h2
       subst this
       simp
     · have : x = [] := by
        have : (tx x).length = 0 := by simpa using h2
        rw [YM] at this
        exact List.eq_nil_of_length_eq_zero this
       subst this
       simp
   · rw [if_neg h2]
     have := ZaK x n.toNat #[]
     rw [this]
     simp
def rMulS : R2 := fun x y H Q => ∃ a n, x = S a /\ y = .int n /\ (n < 2 ^ 63 /\ -(2 ^ 63) <= n /\ a.length * n.toNat <= sizeLine) /\ Q (S (VH a n)) H
theorem op_mulS : OpR X (binaryOp .Mult) rMulS := by
 intro pins s σ H x y v u Q I rx ry h
 obtain ⟨a, n, rfl, rfl, ⟨h1, h2, h3⟩, q⟩ := h
 obtain ⟨t, rfl⟩ := rx
 obtain ⟨t', rfl⟩ := ry
 refine SB.mul ⟨?_, fun hn hc => ?_, fun hn hc => ?_⟩ fun t' k => ⟨S (VH a n), H, I.tok _, ⟨_, by rw [Zfj]⟩, q⟩
 · have e1 : decide (n < -(2 ^ 63 : Int)) = false := decide_eq_false (by omega)
   have e2 : decide (n ≥ 2 ^ 63) = false := decide_eq_false (by omega)
   rw [e1, e2]; rfl
 · rw [YM]
   have hs : sizeLine = 16777216 := sizeLine_eq
   intro hgt
   have h5 : (a.length : Int) * n <= 16777216 := by
    have : (a.length : Int) * n = ((a.length * n.toNat : Nat) : Int) := by
     rw [Int.natCast_mul, Int.toNat_of_nonneg (by omega)]
    rw [this]; omega
   have h6 : (2 ^ 63 - 1) / n < (a.length : Int) := hgt
   have h7 : (2 ^ 63 - 1 : Int) < (a.length : Int) * n := by
    have := Int.lt_mul_of_ediv_lt (show (0 : Int) < n by omega) h6
    rw [Int.mul_comm]; rw [Int.mul_comm] at this; exact this
   omega
 · rw [YM]
   show decide (a.length * n.toNat > sizeLine) = false
   exact decide_eq_false (by omega)
instance (i j : Int) : Decidable (CMul i j) := by unfold CMul; infer_instance
instance (i j : Int) : Decidable (XL i j) := by unfold XL; infer_instance
def addD : D -> D -> Option D
 | .int i, .int j => some (.int (i + j))
 | .str a, .str b => if a.length + b.length <= sizeLine then some (.str (a ++ b)) else none
 | _, _ => none
def subD : D -> D -> Option D
 | .int i, .int j => some (.int (i - j))
 | _, _ => none
def Ub : D -> D -> Option D
 | .int i, .int j => if CMul i j then some (.int (i * j)) else none
 | .str a, .int n => if n < 2 ^ 63 /\ -(2 ^ 63) <= n /\ a.length * n.toNat <= sizeLine then some (.str (VH a n)) else none
 | _, _ => none
def Uc : D -> D -> Option D
 | .int i, .int j => if XL i j then some (.int (i / j)) else none
 | _, _ => none
def Ud : D -> D -> Option D
 | .int i, .int j => if 0 < j then some (.int (i % j)) else none
 | _, _ => none
def Z3 (p : Int -> Int -> Bool) : D -> D -> Option D
 | .int i, .int j => some (.bl (p i j))
 | _, _ => none
theorem Zfk : YC cA ZfH addD := fun t t' i H x y vx vy d _ hx hy e Q k => by
 cases x <;> cases y <;> first | (cases e; done) | skip
 · cases (show vx = _ from hx); cases (show vy = _ from hy)
   cases e
   exact .inl ⟨_, _, rfl, rfl, k _ H (Same.refl H) rfl⟩
 · cases (show vx = _ from hx); cases (show vy = _ from hy)
   rename_i a b
   dsimp only [addD] at e
   by_cases hz : a.length + b.length <= sizeLine
   · rw [if_pos hz] at e
     cases e
     exact .inr (.inl ⟨_, _, rfl, rfl, hz, k _ H (Same.refl H) rfl⟩)
   · rw [if_neg hz] at e; cases e
theorem VL : YC cA (rI0 fun i j => .int (i - j)) subD := fun t t' i H x y vx vy d _ hx hy e Q k => by
 cases x <;> cases y <;> first | (cases e; done) | skip
 cases (show vx = _ from hx); cases (show vy = _ from hy)
 cases e
 exact ⟨_, _, rfl, rfl, k _ H (Same.refl H) rfl⟩
theorem Vg {p : Int -> Int -> Bool} : YC cA (rI0 fun i j => .bl (p i j)) (Z3 p) := fun t t' i H x y vx vy d _ hx hy e Q k => by
 cases x <;> cases y <;> first | (cases e; done) | skip
 cases (show vx = _ from hx); cases (show vy = _ from hy)
 cases e
 exact ⟨_, _, rfl, rfl, k _ H (Same.refl H) rfl⟩
def ixD : D -> D -> Option D
 | .lst xs, .int i => atI xs i
 | .tup xs, .int i => atI xs i
 | .str cs, .int i => if cs.length <= sizeLine then (atI cs i).map fun c => .str [c] else none
 | _, _ => none
theorem Zb2 {av : Addr -> Prop} {H : Hp} {xs : List D} {vs : List V} {i : Int} {d : D} (l : RepL cA av H xs vs) (h : atI xs i = some d) : ∃ v, atI vs i = some v /\ Rep cA av H d v := by
 unfold atI at h ⊢
 rw [l.length] at h
 cases e : ixN vs.length i with
 | none => rw [e] at h; cases h
 | some j =>
  rw [e] at h
  exact l.get h
theorem ZI : YC cA (Jo cA.K) ixD := fun t t' i H x y vx vy d _ hx hy e Q k => by
 cases y <;> first | (cases x <;> cases e; done) | skip
 rename_i j
 cases (show vy = _ from hy)
 cases x <;> first | (cases e; done) | skip
 · cases (show vx = _ from hx)
   rename_i cs
   dsimp only [ixD] at e
   by_cases hz : cs.length <= sizeLine
   · rw [if_pos hz] at e
     cases ea : atI cs j with
     | none => rw [ea] at e; cases e
     | some c =>
      rw [ea] at e
      cases e
      exact .inr (.inr ⟨cs, j, c, rfl, rfl, hz, ea, k _ H (Same.refl H) rfl⟩)
   · rw [if_neg hz] at e; cases e
 · obtain ⟨a, vs, rfl, _, rd, l⟩ := hx
   obtain ⟨v, h1, h2⟩ := Zb2 l e
   exact .inl ⟨a, vs, j, v, rfl, rfl, rd, h1, k v H (Same.refl H) h2⟩
 · obtain ⟨a, vs, rfl, _, rd, l⟩ := hx
   obtain ⟨v, h1, h2⟩ := Zb2 l e
   exact .inr (.inl ⟨a, vs, j, v, rfl, rfl, SqT.of rd, h1, k v H (Same.refl H) h2⟩)
end
end DL
namespace DL
open PySem PySem.Spec L2
section
variable {cA : Kn} {G : Cn} {ow : List Nat}
def bD : Option D -> Option Bool
 | some (.bl b) => some b
 | _ => none
theorem Zb3 {o : Option D} {b : Bool} (h : bD o = some b) : o = some (.bl b) := by
 cases o with
 | none => cases h
 | some d => cases d <;> first | (cases h; rfl) | cases h
def xB (ε : Env -> Option D) (δ : Env) : Option Bool := bD (ε δ)
theorem XO {te : TE} {q : Ql} {ε : Env -> Option D} (h : VE G ow te q ε) : VT G ow (tB te) (xB ε) := fun H0 av A σ H δ E b e Q k =>
 h H0 av A σ H δ E _ (Zb3 e) _ fun v H' s r => ⟨b, by cases q <;> exact r, k H' s⟩
theorem Yj {te : TE} {q : Ql} {ε : Env -> Option D} (h : VE G ow te q ε) : VT G ow (ZeJ te) (xB ε) := fun H0 av A σ H δ E b e Q k =>
 h H0 av A σ H δ E _ (Zb3 e) _ fun v H' s r => ⟨b, by cases q <;> exact r, k H' s⟩
def Z9 (τ : Env -> Option Bool) (δ : Env) : Option Bool := match τ δ with
 | some b => some (!b)
 | none => none
theorem VM {t : TT} {τ : Env -> Option Bool} (h : VT G ow t τ) : VT G ow (ZgN t) (Z9 τ) := fun H0 av A σ H δ E b e Q k => by
 unfold Z9 at e
 cases he : τ δ with
 | none => rw [he] at e; cases e
 | some c =>
  rw [he] at e
  cases e
  exact h H0 av A σ H δ E c he _ fun H' s => k H' s
def Ue (τ υ : Env -> Option Bool) (δ : Env) : Option Bool := match τ δ with
 | some true => υ δ
 | some false => some false
 | none => none
def xOr (τ υ : Env -> Option Bool) (δ : Env) : Option Bool := match τ δ with
 | some true => some true
 | some false => υ δ
 | none => none
theorem Jt {t u : TT} {τ υ : Env -> Option Bool} (h : VT G ow t τ) (h' : VT G ow u υ) : VT G ow (tOr t u) (xOr τ υ) := fun H0 av A σ H δ E b e Q k => by
 unfold xOr at e
 cases he : τ δ with
 | none => rw [he] at e; cases e
 | some c =>
  rw [he] at e
  refine h H0 av A σ H δ E c he _ fun H' s => ?_
  cases c with
  | true => cases e; exact Vy (k H' s)
  | false => exact Vx (h' H0 av A σ H' δ (E.mono s) b e _ fun H2 s2 => k H2 (s.trans s2))
theorem Y1 : VT G ow tYes (fun _ => some true) := fun H0 av A σ H δ E b e Q k => by
 cases e
 exact k H (Same.refl H)
theorem blq {av : Addr -> Prop} {A : Nat -> Option Addr} {H : Hp} {q : Ql} {b : Bool} : RepQ cA av A H q (.bl b) (.bl b) := by cases q <;> exact rfl
theorem qbl {av : Addr -> Prop} {A : Nat -> Option Addr} {H : Hp} {q : Ql} {b : Bool} {v : V} (h : RepQ cA av A H q (.bl b) v) : v = .bl b := by cases q <;> exact h
def Yq (a b : Env -> Option D) (δ : Env) : Option D := match a δ with
 | some (.bl true) => b δ
 | some (.bl false) => some (.bl false)
 | _ => none
def eOr (a b : Env -> Option D) (δ : Env) : Option D := match a δ with
 | some (.bl true) => some (.bl true)
 | some (.bl false) => b δ
 | _ => none
def XQ (a : Env -> Option D) (δ : Env) : Option D := match a δ with
 | some (.bl b) => some (.bl (!b))
 | _ => none
theorem Qg {ta tb : TE} {qa qb : Ql} {a b : Env -> Option D} (ha : VE G ow ta qa a) (hb : VE G ow tb qb b) : VE G ow (ZeA ta tb) qb (Yq a b) := fun H0 av A σ H δ E d e Q k => by
 unfold Yq at e
 cases he : a δ with
 | none => rw [he] at e; cases e
 | some x =>
  rw [he] at e
  cases x <;> first | (cases e; done) | skip
  rename_i c
  refine ha H0 av A σ H δ E _ he _ fun v H' s r => ⟨c, qbl r, ?_⟩
  cases c with
  | true => exact Vy (hb H0 av A σ H' δ (E.mono s) d e _ fun v2 H2 s2 r2 => k v2 H2 (s.trans s2) r2)
  | false => cases e; exact Vx (k _ H' s blq)
theorem Zfl {ta : TE} {qa : Ql} {a : Env -> Option D} (ha : VE G ow ta qa a) : VE G ow (ZeB ta) .cl (XQ a) := fun H0 av A σ H δ E d e Q k => by
 unfold XQ at e
 cases he : a δ with
 | none => rw [he] at e; cases e
 | some x =>
  rw [he] at e
  cases x <;> first | (cases e; done) | skip
  cases e
  exact ha H0 av A σ H δ E _ he _ fun v H' s r => ⟨_, qbl r, k _ H' s blq⟩
def eIf (τ : Env -> Option Bool) (a b : Env -> Option D) (δ : Env) : Option D := match τ δ with
 | some true => a δ
 | some false => b δ
 | none => none
theorem ZfJ {t : TT} {ta tb : TE} {q : Ql} {τ : Env -> Option Bool} {a b : Env -> Option D} (ht : VT G ow t τ) (ha : VE G ow ta q a) (hb : VE G ow tb q b) : VE G ow (tIf t ta tb) q (eIf τ a b) := fun H0 av A σ H δ E d e Q k => by
 unfold eIf at e
 cases he : τ δ with
 | none => rw [he] at e; cases e
 | some c =>
  rw [he] at e
  refine ht H0 av A σ H δ E c he _ fun H' s => ?_
  cases c with
  | true => exact Vy (ha H0 av A σ H' δ (E.mono s) d e _ fun v H2 s2 r => k v H2 (s.trans s2) r)
  | false => exact Vx (hb H0 av A σ H' δ (E.mono s) d e _ fun v H2 s2 r => k v H2 (s.trans s2) r)
def XR : D -> Bool
 | .non => true
 | _ => false
theorem Zd7 {av : Addr -> Prop} {H : Hp} {d : D} {v : V} (h : Rep cA av H d v) : decide (v = .non) = XR d := by
 cases d with
 | non => cases (show v = _ from h); rfl
 | bl b => cases (show v = _ from h); rfl
 | int i => cases (show v = _ from h); rfl
 | str cs => cases (show v = _ from h); rfl
 | lst xs => unfold Rep at h; obtain ⟨a, vs, rfl, _⟩ := h; rfl
 | tup xs => unfold Rep at h; obtain ⟨a, vs, rfl, _⟩ := h; rfl
 | obj c ks xs => unfold Rep at h; obtain ⟨a, dx, vs, rfl, _⟩ := h; rfl
 | dct ks xs => unfold Rep at h; obtain ⟨a, vs, rfl, _⟩ := h; rfl
 | dtt ks xs => unfold Rep at h; obtain ⟨a, vs, rfl, _⟩ := h; rfl
def Yv (a : Env -> Option D) (δ : Env) : Option D := match a δ with
 | some d => some (.bl (XR d))
 | none => none
def Uf (a : Env -> Option D) (δ : Env) : Option D := match a δ with
 | some d => some (.bl (!XR d))
 | none => none
theorem Qh {ta : TE} {qa : Ql} {a : Env -> Option D} (ha : VE G ow ta qa a) : VE G ow (ZgM ta) .cl (Yv a) := fun H0 av A σ H δ E d e Q k => by
 unfold Yv at e
 cases he : a δ with
 | none => rw [he] at e; cases e
 | some x =>
  rw [he] at e
  cases e
  refine ha H0 av A σ H δ E _ he _ fun v H' s r => ?_
  rw [Zd7 r.any]
  exact k _ H' s blq
def Ug (f g : D -> D -> Option D) (a b c : Env -> Option D) (δ : Env) : Option D := match eOp f a b δ with
 | some (.bl true) => eOp g b c δ
 | some (.bl false) => some (.bl false)
 | _ => none
def Xw : D -> Option D
 | .int i => some (.int (-i))
 | _ => none
def eUn (f : D -> Option D) (a : Env -> Option D) (δ : Env) : Option D := match a δ with
 | some x => f x
 | none => none
theorem ZdC {ta : TE} {qa : Ql} {a : Env -> Option D} (ha : VE G ow ta qa a) : VE G ow (tUn (rU fun i => .int (-i)) ta) .cl (eUn Xw a) := fun H0 av A σ H δ E d e Q k => by
 unfold eUn at e
 cases he : a δ with
 | none => rw [he] at e; cases e
 | some x =>
  rw [he] at e
  cases x <;> first | (cases e; done) | skip
  cases e
  refine ha H0 av A σ H δ E _ he _ fun v H' s r => ?_
  have e1 := r.any
  exact ⟨_, e1, k _ H' s rfl⟩
def eNil (_ : Env) : Option (List D) := some []
def Zb (a : Env -> Option D) (r : Env -> Option (List D)) (δ : Env) : Option (List D) := match a δ with
 | some x => match r δ with
  | some xs => some (x :: xs)
  | none => none
 | none => none
theorem Zm {q : Ql} : VA G ow tNil q eNil := fun H0 av A σ H δ E ds e Q k => by
 cases e
 exact k [] H (Same.refl H) rfl
theorem Zh {te : TE} {ta : TA} {q : Ql} {a : Env -> Option D} {r : Env -> Option (List D)} (ha : VE G ow te q a) (hr : VA G ow ta q r) : VA G ow (Yu te ta) q (Zb a r) := fun H0 av A σ H δ E ds e Q k => by
 unfold Zb at e
 cases he : a δ with
 | none => rw [he] at e; cases e
 | some x =>
  rw [he] at e
  cases hr' : r δ with
  | none => rw [hr'] at e; cases e
  | some xs =>
   rw [hr'] at e
   cases e
   exact ha H0 av A σ H δ E x he _ fun v H1 s1 r1 => hr H0 av A σ H1 δ (E.mono s1) xs hr' _ fun vs H2 s2 r2 => k _ H2 (s1.trans s2) ⟨v, vs, rfl, r1.same s2, r2⟩
theorem RepQL.length {av : Addr -> Prop} {A : Nat -> Option Addr} {H : Hp} {q : Ql} {xs : List D} {vs : List V} (h : RepQL cA av A H q xs vs) : xs.length = vs.length := h.any.length
def Zz (α : Env -> Option (List D)) (δ : Env) : Option D := match α δ with
 | some xs => if xs.length <= sizeLine then some (.lst xs) else none
 | none => none
theorem Xd {t : TA} {α : Env -> Option (List D)} (h : VA G ow t .cl α) : VF G ow (ZgU t) (Zz α) := fun H0 av A σ H δ E d e Q k => by
 unfold Zz at e
 cases he : α δ with
 | none => rw [he] at e; cases e
 | some xs =>
  rw [he] at e
  by_cases hz : xs.length <= sizeLine
  · have e' : D.lst xs = d := by simpa [hz] using e
    exact h H0 av A σ H δ E xs he _ fun vs H1 s1 r1 => ⟨by rw [<- r1.length]; exact hz, fun p hp => k p vs xs H1 s1 hp r1.cl e'.symm⟩
  · simp [hz] at e
def Xe (α : Env -> Option (List D)) (δ : Env) : Option D := match α δ with
 | some xs => if xs.length <= sizeLine then some (.tup xs) else none
 | none => none
theorem Zfm {t : TA} {α : Env -> Option (List D)} (h : VA G ow t .cl α) : VE G ow (ZgT t) .cl (Xe α) := fun H0 av A σ H δ E d e Q k => by
 unfold Xe at e
 cases he : α δ with
 | none => rw [he] at e; cases e
 | some xs =>
  rw [he] at e
  by_cases hz : xs.length <= sizeLine
  · have e' : D.tup xs = d := by simpa [hz] using e
    subst e'
    refine h H0 av A σ H δ E xs he _ fun vs H1 s1 r1 => ⟨by rw [<- r1.length]; exact hz, fun p hp => k _ _ (s1.trans (Z8 hp)) ⟨p, vs, rfl, fun z => (E.mono s1).avl p z hp, Z7, r1.cl.same (Z8 hp)⟩⟩
  · simp [hz] at e
def VN (cA : Kn) (i : Addr -> Prop) (H : Hp) : List D -> List V -> Prop
 | [], vs => vs = []
 | x :: xs, vs => ∃ v r, vs = v :: r /\ (∃ t, RepT cA t i H x v) /\ VN cA i H xs r
theorem RepQL.il {av : Addr -> Prop} {A : Nat -> Option Addr} {H : Hp} {q : Ql} : ∀ {xs : List D} {vs : List V}, RepQL cA av A H q xs vs -> VN cA (q.iv av A) H xs vs
 | [], _, h => h
 | x :: xs, vs, h => by
  obtain ⟨v, r, e, h1, h2⟩ := h
  exact ⟨v, r, e, ⟨_, h1.tp⟩, RepQL.il h2⟩
def Vh (cA : Kn) (r : List V -> Hp -> VK -> Prop) (f : List D -> Option D) : Prop :=
 ∀ (i : Addr -> Prop) (H : Hp) (ds : List D) (vs : List V) (d : D), (∀ a, i a -> H a ≠ none) -> VN cA i H ds vs -> f ds = some d -> ∀ Q : VK, (∀ v H', Same H H' -> Rep cA i H' d v -> Q v H') -> r vs H Q
def eCB (f : List D -> Option D) (α : Env -> Option (List D)) (δ : Env) : Option D := match α δ with
 | some ds => f ds
 | none => none
theorem Ya {r : List V -> Hp -> VK -> Prop} {f : List D -> Option D} {t : TA} {q : Ql} {α : Env -> Option (List D)} (hr : Vh G.1 r f) (h : VA G ow t q α) : VE G ow (tCB r t) q.it (eCB f α) := fun H0 av A σ H δ E d e Q k => by
 unfold eCB at e
 cases he : α δ with
 | none => rw [he] at e; cases e
 | some ds =>
  rw [he] at e
  refine h H0 av A σ H δ E ds he _ fun vs H1 s1 r1 => ?_
  have E1 := E.mono s1
  cases q with
  | cl => exact hr _ H1 ds vs d E1.avl r1.il e _ fun v H' s r => k v H' (s1.trans s) r.t
  | tp => exact hr _ H1 ds vs d E1.avl r1.il e _ fun v H' s r => k v H' (s1.trans s) r.t
  | dt => exact hr _ H1 ds vs d E1.avH r1.il e _ fun v H' s r => k v H' (s1.trans s) r.t
theorem il1 {i : Addr -> Prop} {H : Hp} {x : D} {vs : List V} (h : VN cA i H [x] vs) : ∃ v t, vs = [v] /\ RepT cA t i H x v := by
 obtain ⟨v, r, rfl, ⟨t, h1⟩, h2⟩ := h
 cases (show r = [] from h2)
 exact ⟨v, t, rfl, h1⟩
def lenD : List D -> Option D
 | [.str a] => if a.length <= sizeLine then some (.int a.length) else none
 | [.lst xs] => some (.int xs.length)
 | [.tup xs] => some (.int xs.length)
 | _ => none
theorem Yz : Vh cA (Jq cA.K) lenD := fun i H ds vs d _ h e Q k => by
 cases ds with
 | nil => cases e
 | cons x r =>
  cases r with
  | cons _ _ => cases x <;> cases e
  | nil =>
   obtain ⟨v, t, rfl, hx⟩ := il1 h
   cases x <;> first | (cases e; done) | skip
   · rename_i a
     dsimp only [lenD] at e
     by_cases hz : a.length <= sizeLine
     · rw [if_pos hz] at e
       cases e
       exact .inl ⟨a, by rw [show v = S a from hx], hz, k _ H (Same.refl H) rfl⟩
     · rw [if_neg hz] at e; cases e
   · obtain ⟨a, ws, rfl, _, rd, l⟩ := hx
     cases e
     exact .inr ⟨a, ws, rfl, .inl rd, k _ H (Same.refl H) (by rw [l.length]; rfl)⟩
   · obtain ⟨a, ws, rfl, _, rd, l⟩ := hx
     cases e
     exact .inr ⟨a, ws, rfl, .inr (SqT.of rd), k _ H (Same.refl H) (by rw [l.length]; rfl)⟩
def Uh : List D -> Option D
 | [.int i, .int j] => some (.int (if j < i then j else i))
 | _ => none
def Ui : List D -> Option D
 | [.int i, .int j] => some (.int (if j > i then j else i))
 | _ => none
def intD : List D -> Option D
 | [.str a] => if a.length <= 640 /\ a ≠ [] /\ a.all U9 = true then some (.int (Ji a : Nat)) else none
 | [.bl b] => some (.int (if b then 1 else 0))
 | _ => none
theorem Zfn : Vh cA rIntX intD := fun i H ds vs d _ h e Q k => by
 unfold intD at e
 split at e
 · rename_i a
   obtain ⟨v, t, rfl, hx⟩ := il1 h
   cases (show v = _ from hx)
   by_cases hz : a.length <= 640 /\ a ≠ [] /\ a.all U9 = true
   · rw [if_pos hz] at e
     cases e
     exact .inl ⟨a, rfl, hz.1, hz.2.1, hz.2.2, k _ H (Same.refl H) rfl⟩
   · rw [if_neg hz] at e; cases e
 · rename_i b
   obtain ⟨v, t, rfl, hx⟩ := il1 h
   cases (show v = _ from hx)
   cases e
   exact .inr ⟨b, rfl, k _ H (Same.refl H) rfl⟩
 · cases e
def ZeN : List D -> Option D
 | [.lst xs] => some (.lst xs)
 | [.tup xs] => some (.lst xs)
 | _ => none
end
end DL
namespace DL
open PySem PySem.Spec L2
inductive Out where
 | nx (δ : Env)
 | rt (d : D)
 | bk (δ : Env)
 | ct (δ : Env)
def ZfK (G : Cn) (owN owB owC : List Nat) (H0 : Hp) (av : Addr -> Prop) (De : Ends) : Out -> Prop
 | .nx δ' => ∀ A' σ' H', ER G owN H0 av A' σ' H' δ' -> De.nx σ' H'
 | .rt d => ∀ v H', Same H0 H' -> Rep G.1 av H' d v -> De.rt v H'
 | .bk δ' => ∀ A' σ' H', ER G owB H0 av A' σ' H' δ' -> De.bk σ' H'
 | .ct δ' => ∀ A' σ' H', ER G owC H0 av A' σ' H' δ' -> De.ct σ' H'
def VS (G : Cn) (ow owN owB owC : List Nat) (ts : TS) (φ : Env -> Option Out) : Prop :=
 ∀ H0 av A σ H δ, ER G ow H0 av A σ H δ -> ∀ o, φ δ = some o -> ∀ De : Ends, ZfK G owN owB owC H0 av De o -> ts De σ H
def VG (G : Cn) (ow ow' : List Nat) (g : TG) (γ : D -> Env -> Option Env) : Prop :=
 ∀ H0 av A σ H δ, ER G ow H0 av A σ H δ -> ∀ d v, Rep G.1 (AV av A) H d v -> ∀ δ', γ d δ = some δ' -> ∀ Q : L2.St -> Hp -> Prop, (∀ A' σ' H', Same H H' -> ER G ow' H0 av A' σ' H' δ' -> Q σ' H') -> g v σ H Q
def sub (a b : List Nat) : Bool := a.all fun x => b.contains x
theorem Qi {a b : List Nat} (h : sub a b = true) : ∀ x ∈ a, x ∈ b := fun x hx => by
 have := List.all_eq_true.mp h x hx
 simpa using this
section
variable {cA : Kn} {G : Cn} {ow owN owB owC ow1 ow2 : List Nat} {H0 H H' : Hp} {av : Addr -> Prop} {A : Nat -> Option Addr} {σ : L2.St} {δ : Env}
theorem Ju {α : Type} {l : List (Option α)} {i j : Nat} {x y : α} (h : (l.set i (some x))[j]? = some (some y)) : (j = i /\ y = x /\ i < l.length) \/ (j ≠ i /\ l[j]? = some (some y)) := by
 by_cases e : j = i
 · subst e
   by_cases hl : j < l.length
   · rw [List.getElem?_set_self hl] at h
     exact .inl ⟨rfl, (Option.some.inj (Option.some.inj h)).symm, hl⟩
   · rw [List.getElem?_eq_none (by simpa using hl)] at h
     cases h
 · rw [List.getElem?_set_ne (Ne.symm e)] at h
   exact .inr ⟨e, h⟩
theorem ER.set {i : Nat} {d : D} {v : V} (E : ER G ow H0 av A σ H δ) (h : Rep G.1 (AV av A) H d v) (hw : ∀ j, j ∈ ow1 ↔ j ∈ ow /\ j ≠ i) (hn : G.2 i = none) :
 ER G ow1 H0 av (fun j => if j = i then none else A j) (σ.set i (some v)) H (δ.set i (some d)) := by
 have less : ∀ b, AV av (fun j => if j = i then none else A j) b -> AV av A b := fun b z => by
  rcases z with z | ⟨j, z⟩
  · exact .inl z
  · by_cases e : j = i
    · simp [e] at z
    · simp [e] at z; exact .inr ⟨j, z⟩
 refine ⟨E.same, E.avd, fun j a e => ?_, fun j k a e1 e2 => ?_, fun j a e => ?_, fun j e => ?_, fun j hj => ?_, by simp [E.len], fun j a e => (by
  have q : j ≠ i := fun z => by rw [z, hn] at e; cases e
  simp only [q, if_false]; exact E.pin j a e), (fun j v' e => by
  have q : j ≠ i := fun z => by rw [z, hn] at e; cases e
  rw [List.getElem?_set_ne (Ne.symm q)]; exact E.kept j v' e), fun j d' e => ?_⟩
 · by_cases q : j = i
   · simp [q] at e
   · simp [q] at e; exact E.fr j a e
 · by_cases q : j = i
   · simp [q] at e1
   · by_cases q2 : k = i
     · simp [q2] at e2
     · simp [q] at e1; simp [q2] at e2; exact E.inj j k a e1 e2
 · by_cases q : j = i
   · simp [q] at e
   · simp [q] at e; exact E.live j a e
 · by_cases q : j = i
   · simp [q] at e
   · simp [q] at e; exact (hw j).mpr ⟨E.dom j e, q⟩
 · obtain ⟨h1, h2⟩ := (hw j).mp hj
   simp [h2]
   exact E.dom' j h1
 · rcases Ju e with ⟨rfl, rfl, hl⟩ | ⟨q, e'⟩
   · refine ⟨v, ?_, fun _ => h.av fun b z => .inl (less b z), fun a z => by simp at z⟩
     rw [List.getElem?_set_self (by rw [E.len]; exact hl)]
   · obtain ⟨v', h1, h2, h3⟩ := E.var j d' e'
     refine ⟨v', by rw [List.getElem?_set_ne (Ne.symm q)]; exact h1, fun z => ?_, fun a z => ?_⟩
     · simp [q] at z
       exact (h2 z).av fun b z => .inl (less b z)
     · simp [q] at z
       obtain ⟨r1, r2⟩ := h3 a z
       refine ⟨r1, ?_⟩
       cases d' with
       | lst xs => obtain ⟨vs, q1, q2⟩ := r2; exact ⟨vs, q1, q2.av fun b z => .inl (less b z)⟩
       | obj c ks xs => obtain ⟨dx, vs, q1, q0, q2⟩ := r2; exact ⟨dx, vs, q1, q0, q2.av fun b z => .inl (less b z)⟩
       | dct ks xs => obtain ⟨vs, q1, q0, q2⟩ := r2; exact ⟨vs, q1, q0, q2.av fun b z => .inl (less b z)⟩
       | dtt ks xs => obtain ⟨vs, q1, q0, q2⟩ := r2; exact ⟨vs, q1, q0, q2.av fun b z => .inl (less b z)⟩
       | _ => exact r2
theorem ER.own {i : Nat} {xs : List D} {vs : List V} {p : Addr} (E : ER G ow H0 av A σ H δ) (hp : H p = none) (l : RepL G.1 (AV av A) H xs vs) (hw : ∀ j, j ∈ ow1 ↔ j ∈ ow \/ j = i) (hn : G.2 i = none) :
 ER G ow1 H0 av (fun j => if j = i then some p else A j) (σ.set i (some (.ref p))) (upd H p (.lst vs)) (δ.set i (some (.lst xs))) := by
 have hs : Same H (upd H p (.lst vs)) := Z8 hp
 have less : ∀ b, AV av (fun j => if j = i then some p else A j) b -> AV av A b \/ H b = none := fun b z => by
  rcases z with z | ⟨j, z⟩
  · exact .inl (.inl z)
  · by_cases e : j = i
    · simp [e] at z; subst z; exact .inr hp
    · simp [e] at z; exact .inl (.inr ⟨j, z⟩)
 have np : ∀ j a, A j = some a -> a ≠ p := fun j a e z => by subst z; exact E.live j a e hp
 have h0 : H0 p = none := by
  cases q : H0 p with
  | none => rfl
  | some o => rw [E.same p o q] at hp; cases hp
 refine ⟨E.same.trans hs, E.avd, fun j a e => ?_, fun j k a e1 e2 => ?_, fun j a e => ?_, fun j e => ?_, fun j hj => ?_, by simp [E.len], fun j a e => (by
  have q : j ≠ i := fun z => by rw [z, hn] at e; cases e
  simp only [q, if_false]; exact E.pin j a e), (fun j v' e => by
  have q : j ≠ i := fun z => by rw [z, hn] at e; cases e
  rw [List.getElem?_set_ne (Ne.symm q)]; exact E.kept j v' e), fun j d' e => ?_⟩
 · by_cases q : j = i
   · simp [q] at e; subst e; exact h0
   · simp [q] at e; exact E.fr j a e
 · by_cases q : j = i
   · by_cases q2 : k = i
     · rw [q, q2]
     · simp [q] at e1; simp [q2] at e2
       exact absurd e1.symm (np k a e2)
   · by_cases q2 : k = i
     · simp [q] at e1; simp [q2] at e2
       exact absurd e2.symm (np j a e1)
     · simp [q] at e1; simp [q2] at e2; exact E.inj j k a e1 e2
 · by_cases q : j = i
   · simp [q] at e; subst e; rw [Z7]; exact fun z => by cases z
   · simp [q] at e
     rw [Zx (np j a e)]
     exact E.live j a e
 · by_cases q : j = i
   · exact (hw j).mpr (.inr q)
   · simp [q] at e; exact (hw j).mpr (.inl (E.dom j e))
 · by_cases q : j = i
   · simp [q]
   · simp [q]
     exact E.dom' j (((hw j).mp hj).resolve_right q)
 · rcases Ju e with ⟨rfl, rfl, hl⟩ | ⟨q, e'⟩
   · refine ⟨.ref p, ?_, fun z => by simp at z, fun a z => ?_⟩
     · rw [List.getElem?_set_self (by rw [E.len]; exact hl)]
     · simp at z
       subst z
       exact ⟨rfl, vs, Z7, (l.av less).same hs⟩
   · obtain ⟨v', h1, h2, h3⟩ := E.var j d' e'
     refine ⟨v', by rw [List.getElem?_set_ne (Ne.symm q)]; exact h1, fun z => ?_, fun a z => ?_⟩
     · simp [q] at z
       exact ((h2 z).av less).same hs
     · simp [q] at z
       obtain ⟨r1, r2⟩ := h3 a z
       refine ⟨r1, ?_⟩
       cases d' with
       | lst xs => obtain ⟨vs', q1, q2⟩ := r2; exact ⟨vs', hs _ _ q1, (q2.av less).same hs⟩
       | obj c ks xs => obtain ⟨dx, vs', q1, q0, q2⟩ := r2; exact ⟨dx, vs', hs _ _ q1, q0, (q2.av less).same hs⟩
       | dct ks xs => obtain ⟨vs', q1, q0, q2⟩ := r2; exact ⟨vs', hs _ _ q1, q0, (q2.av less).same hs⟩
       | dtt ks xs => obtain ⟨vs', q1, q0, q2⟩ := r2; exact ⟨vs', hs _ _ q1, q0, (q2.av less).same hs⟩
       | _ => exact r2
theorem ER.put {i : Nat} {a : Addr} {d d' : D} (E : ER G ow H0 av A σ H δ) (hi : A i = some a) (hd : δ[i]? = some (some d)) (hk : ∀ b o, b ≠ a -> H b = some o -> H' b = some o) (hl : H' a ≠ none) (ho : Own G.1 (AV av A) H' d' a) :
 ER G ow H0 av A σ H' (δ.set i (some d')) := by
 have kk : ∀ b o, ¬ AV av A b -> H b = some o -> H' b = some o := fun b o n e => hk b o (fun z => n (.inr ⟨i, by rw [z]; exact hi⟩)) e
 refine ⟨fun b o e => hk b o (fun z => ?_) (E.same b o e), E.avd, E.fr, E.inj, fun j b e => ?_, E.dom, E.dom', by simp [E.len], E.pin, E.kept, fun j d'' e => ?_⟩
 · rw [z, E.fr i a hi] at e; cases e
 · by_cases q : b = a
   · subst q; exact hl
   · have := E.live j b e
     cases e' : H b with
     | none => exact absurd e' this
     | some o => rw [hk b o q e']; exact fun z => by cases z
 · rcases Ju e with ⟨rfl, rfl, hl'⟩ | ⟨q, e'⟩
   · obtain ⟨v, h1, _, h3⟩ := E.var j d hd
     obtain ⟨r1, _⟩ := h3 a hi
     exact ⟨v, h1, fun z => (by rw [hi] at z; cases z), fun b z => by
      rw [hi] at z; cases z
      exact ⟨r1, ho⟩⟩
   · obtain ⟨v', h1, h2, h3⟩ := E.var j d'' e'
     refine ⟨v', h1, fun z => (h2 z).ext kk, fun b z => ?_⟩
     obtain ⟨r1, r2⟩ := h3 b z
     have nb : b ≠ a := fun w => q (E.inj j i a (by rw [<- w]; exact z) hi)
     refine ⟨r1, ?_⟩
     cases d'' with
     | lst xs => obtain ⟨vs, q1, q2⟩ := r2; exact ⟨vs, hk _ _ nb q1, q2.ext kk⟩
     | obj c ks xs => obtain ⟨dx, vs, q1, q0, q2⟩ := r2; exact ⟨dx, vs, hk _ _ nb q1, q0, q2.ext kk⟩
     | dct ks xs => obtain ⟨vs, q1, q0, q2⟩ := r2; exact ⟨vs, hk _ _ nb q1, q0, q2.ext kk⟩
     | dtt ks xs => obtain ⟨vs, q1, q0, q2⟩ := r2; exact ⟨vs, hk _ _ nb q1, q0, q2.ext kk⟩
     | _ => exact r2
theorem ER.freeze (i : Nat) (E : ER G ow H0 av A σ H δ) (hw : ∀ j, j ∈ ow1 ↔ j ∈ ow /\ j ≠ i) (hn : G.2 i = none) : ER G ow1 H0 av (fun j => if j = i then none else A j) σ H δ := by
 have less : ∀ b, AV av (fun j => if j = i then none else A j) b -> AV av A b := fun b z => by
  rcases z with z | ⟨j, z⟩
  · exact .inl z
  · by_cases e : j = i
    · simp [e] at z
    · simp [e] at z; exact .inr ⟨j, z⟩
 refine ⟨E.same, E.avd, fun j a e => ?_, fun j k a e1 e2 => ?_, fun j a e => ?_, fun j e => ?_, fun j hj => ?_, E.len, fun j a e => (by
  have q : j ≠ i := fun z => by rw [z, hn] at e; cases e
  simp only [q, if_false]; exact E.pin j a e), E.kept, fun j d' e => ?_⟩
 · by_cases q : j = i
   · simp [q] at e
   · simp [q] at e; exact E.fr j a e
 · by_cases q : j = i
   · simp [q] at e1
   · by_cases q2 : k = i
     · simp [q2] at e2
     · simp [q] at e1; simp [q2] at e2; exact E.inj j k a e1 e2
 · by_cases q : j = i
   · simp [q] at e
   · simp [q] at e; exact E.live j a e
 · by_cases q : j = i
   · simp [q] at e
   · simp [q] at e; exact (hw j).mpr ⟨E.dom j e, q⟩
 · obtain ⟨h1, h2⟩ := (hw j).mp hj
   simp [h2]
   exact E.dom' j h1
 · obtain ⟨v', h1, h2, h3⟩ := E.var j d' e
   refine ⟨v', h1, fun z => ?_, fun a z => ?_⟩
   · by_cases q : j = i
     · subst q
       cases hA : A j with
       | none => exact (h2 hA).av fun b z => .inl (less b z)
       | some a =>
        obtain ⟨rfl, r2⟩ := h3 a hA
        have na : ¬ AV av (fun k => if k = j then none else A k) a := fun z => by
         rcases z with z | ⟨k, z⟩
         · exact E.avd a z (E.fr j a hA)
         · by_cases qk : k = j
           · simp [qk] at z
           · simp [qk] at z; exact qk (E.inj k j a z hA)
        cases d' with
        | lst xs => obtain ⟨vs, q1, q2⟩ := r2; unfold Rep; exact ⟨a, vs, rfl, fun z => (na z).elim, SqL.of q1, q2.av fun b z => .inl (less b z)⟩
        | obj c ks xs => obtain ⟨dx, vs, q1, q0, q2⟩ := r2; unfold Rep; exact ⟨a, dx, vs, rfl, na, q1, q0, q2.av fun b z => .inl (less b z)⟩
        | dct ks xs => obtain ⟨vs, q1, q0, q2⟩ := r2; unfold Rep; exact ⟨a, vs, rfl, na, q1, q0, q2.av fun b z => .inl (less b z)⟩
        | dtt ks xs => obtain ⟨vs, q1, q0, q2⟩ := r2; unfold Rep; exact ⟨a, vs, rfl, na, q1, q0, q2.av fun b z => .inl (less b z)⟩
        | _ => exact False.elim r2
     · simp [q] at z
       exact (h2 z).av fun b z => .inl (less b z)
   · by_cases q : j = i
     · simp [q] at z
     · simp [q] at z
       obtain ⟨r1, r2⟩ := h3 a z
       refine ⟨r1, ?_⟩
       cases d' with
       | lst xs => obtain ⟨vs, q1, q2⟩ := r2; exact ⟨vs, q1, q2.av fun b z => .inl (less b z)⟩
       | obj c ks xs => obtain ⟨dx, vs, q1, q0, q2⟩ := r2; exact ⟨dx, vs, q1, q0, q2.av fun b z => .inl (less b z)⟩
       | dct ks xs => obtain ⟨vs, q1, q0, q2⟩ := r2; exact ⟨vs, q1, q0, q2.av fun b z => .inl (less b z)⟩
       | dtt ks xs => obtain ⟨vs, q1, q0, q2⟩ := r2; exact ⟨vs, q1, q0, q2.av fun b z => .inl (less b z)⟩
       | _ => exact r2
open Classical in
noncomputable def cut (A : Nat -> Option Addr) (H : Hp) : Hp := fun b => if ∃ i, A i = some b then none else H b
theorem Zbm {b : Addr} {o : HO} (h : cut A H b = some o) : H b = some o /\ ¬ ∃ i, A i = some b := by
 unfold cut at h
 by_cases e : ∃ i, A i = some b
 · rw [if_pos e] at h; cases h
 · rw [if_neg e] at h; exact ⟨h, e⟩
theorem Xx {b : Addr} (e : ¬ ∃ i, A i = some b) : cut A H b = H b := by
 unfold cut
 rw [if_neg e]
theorem ER.cut (E : ER G ow H0 av A σ H δ) : ER G ow (DL.cut A H) av A σ H δ := by
 refine ⟨fun b o e => (Zbm e).1, fun a z => ?_, fun i a e => ?_, E.inj, E.live, E.dom, E.dom', E.len, E.pin, E.kept, E.var⟩
 · rw [Xx fun ⟨i, e⟩ => E.avd a z (E.fr i a e)]
   exact E.avH a z
 · unfold DL.cut
   rw [if_pos ⟨i, e⟩]
theorem ER.sub0 (E : ER G ow H0 av A σ H δ) : Same H0 (DL.cut A H) := fun b o e => by
 rw [Xx fun ⟨i, z⟩ => by rw [E.fr i b z] at e; cases e]
 exact E.same b o e
theorem ER.uncut {A' : Nat -> Option Addr} {σ' : L2.St} {δ' : Env} (E : ER G ow H0 av A σ H δ) (E' : ER G ow1 (DL.cut A H) av A' σ' H' δ') : ER G ow1 H0 av A' σ' H' δ' :=
 ⟨E.sub0.trans E'.same, E.avd, fun i a e => E.sub0.free (E'.fr i a e), E'.inj, E'.live, E'.dom, E'.dom', E'.len, E'.pin, E'.kept, E'.var⟩
def sNext (δ : Env) : Option Out := some (.nx δ)
theorem Yk : VS G ow ow owB owC tNext sNext := fun H0 av A σ H δ E o e De k => by
 cases e
 exact k A σ H E
def Zd (φ ψ : Env -> Option Out) (δ : Env) : Option Out := match φ δ with
 | some (.nx δ') => ψ δ'
 | r => r
theorem Zu {t u : TS} {φ ψ : Env -> Option Out} (h1 : VS G ow ow1 owB owC t φ) (h2 : VS G ow1 owN owB owC u ψ) : VS G ow owN owB owC (Vs t u) (Zd φ ψ) := fun H0 av A σ H δ E o e De k => by
 unfold Zd at e
 cases he : φ δ with
 | none => rw [he] at e; cases e
 | some o1 =>
  rw [he] at e
  refine h1 H0 av A σ H δ E o1 he _ ?_
  cases o1 with
  | nx δ' => exact fun A' σ' H' E' => h2 H0 av A' σ' H' δ' E' o e De k
  | rt d => cases e; exact k
  | bk δ' => cases e; exact k
  | ct δ' => cases e; exact k
def sIf (τ : Env -> Option Bool) (φ ψ : Env -> Option Out) (δ : Env) : Option Out := match τ δ with
 | some true => φ δ
 | some false => ψ δ
 | none => none
theorem Yi {c : TT} {t u : TS} {τ : Env -> Option Bool} {φ ψ : Env -> Option Out} (hc : VT G ow c τ) (h1 : VS G ow owN owB owC t φ) (h2 : VS G ow owN owB owC u ψ) : VS G ow owN owB owC (ZgO c t u) (sIf τ φ ψ) := fun H0 av A σ H δ E o e De k => by
 unfold sIf at e
 cases he : τ δ with
 | none => rw [he] at e; cases e
 | some b =>
  rw [he] at e
  refine hc H0 av A σ H δ E b he _ fun H' s => ?_
  cases b with
  | true => exact Vy (h1 H0 av A σ H' δ (E.mono s) o e De k)
  | false => exact Vx (h2 H0 av A σ H' δ (E.mono s) o e De k)
def Zn (ε : Env -> Option D) (δ : Env) : Option Out := match ε δ with
 | some d => some (.rt d)
 | none => none
theorem ZC {te : TE} {q : Ql} {ε : Env -> Option D} (h : VE G ow te q ε) : VS G ow owN owB owC (Q6 te) (Zn ε) := fun H0 av A σ H δ E o e De k => by
 unfold Zn at e
 cases he : ε δ with
 | none => rw [he] at e; cases e
 | some d =>
  rw [he] at e
  cases e
  exact h H0 av A σ H δ E d he _ fun v H' s r => k v H' (E.same.trans s) r.any
def Uj (_ : Env) : Option Out := some (.rt .non)
def Uk (_ : Env) : Option Out := none
def Zf (i : Nat) (ε : Env -> Option D) (δ : Env) : Option Out := match ε δ with
 | some d => some (.nx (δ.set i (some d)))
 | none => none
theorem Jv {i : Nat} (h1 : sub ow1 ow = true) (h2 : ow1.contains i = false) (h3 : sub ow (i :: ow1) = true) : ∀ j, j ∈ ow1 ↔ j ∈ ow /\ j ≠ i := fun j => by
 constructor
 · intro h
   refine ⟨Qi h1 j h, fun e => ?_⟩
   subst e
   have : j ∉ ow1 := by simpa using h2
   exact this h
 · rintro ⟨h, n⟩
   rcases List.mem_cons.mp (Qi h3 j h) with e | e
   · exact absurd e n
   · exact e
theorem Zc4 {i : Nat} (h1 : sub ow1 (i :: ow) = true) (h2 : ow1.contains i = true) (h3 : sub ow ow1 = true) : ∀ j, j ∈ ow1 ↔ j ∈ ow \/ j = i := fun j => by
 constructor
 · intro h
   rcases List.mem_cons.mp (Qi h1 j h) with e | e
   · exact .inr e
   · exact .inl e
 · rintro (h | rfl)
   · exact Qi h3 j h
   · simpa using h2
theorem ZD {te : TE} {ε : Env -> Option D} (i : Nat) (h : VE G ow te .cl ε) (hn : G.2 i = none) (h1 : sub owN ow = true) (h2 : owN.contains i = false) (h3 : sub ow (i :: owN) = true) : VS G ow owN owB owC (Xq te (Y6 i)) (Zf i ε) := fun H0 av A σ H δ E o e De k => by
 unfold Zf at e
 cases he : ε δ with
 | none => rw [he] at e; cases e
 | some d =>
  rw [he] at e
  cases e
  exact h H0 av A σ H δ E d he _ fun v H' s r => k _ _ H' ((E.mono s).set (RepT.r r) (Jv h1 h2 h3) hn)
theorem XS {te : TE} {ε : Env -> Option D} (i : Nat) (h : VF G ow te ε) (hn : G.2 i = none) (h1 : sub owN (i :: ow) = true) (h2 : owN.contains i = true) (h3 : sub ow owN = true) : VS G ow owN owB owC (Xq te (Y6 i)) (Zf i ε) := fun H0 av A σ H δ E o e De k => by
 unfold Zf at e
 cases he : ε δ with
 | none => rw [he] at e; cases e
 | some d =>
  rw [he] at e
  cases e
  refine h H0 av A σ H δ E d he _ fun p vs xs H1 s hp l hd => ?_
  subst hd
  exact k _ _ _ ((E.mono s).own hp l (Zc4 h1 h2 h3) hn)
def Ul (ε : Env -> Option D) (δ : Env) : Option Out := match ε δ with
 | some _ => some (.nx δ)
 | none => none
def Z4 (i : Nat) (ε : Env -> Option D) (δ : Env) : Option Out := match Za i δ with
 | some (.lst xs) => match ε δ with
  | some d => if xs.length < sizeLine then some (.nx (δ.set i (some (.lst (xs ++ [d]))))) else none
  | none => none
 | _ => none
theorem Vi {K : PySem.W.Frag} {te : TE} {ε : Env -> Option D} (i : Nat) (hi : ow.contains i = true) (h : VE G ow te .cl ε) : VS G ow ow owB owC (ZeC (tBM K "list" rAppend (Vr i) (Yu te tNil))) (Z4 i ε) := fun H0 av A σ H δ E o e De k => by
 unfold Z4 at e
 cases hv : Za i δ with
 | none => rw [hv] at e; cases e
 | some x =>
  rw [hv] at e
  cases x <;> first | (cases e; done) | skip
  rename_i xs
  dsimp only at e
  cases he : ε δ with
  | none => rw [he] at e; cases e
  | some d =>
   rw [he] at e
   dsimp only at e
   by_cases hz : xs.length < sizeLine
   · rw [if_pos hz] at e
     cases e
     have hi' : i ∈ ow := by simpa using hi
     cases hA : A i with
     | none => exact absurd hA (E.dom' i hi')
     | some a =>
      obtain ⟨v, h1, _, h3⟩ := E.var i _ (VC hv)
      obtain ⟨rfl, vs, q1, q2⟩ := h3 a hA
      refine ⟨_, h1, .inl ⟨rfl, vs, SqL.of q1⟩, h H0 av A σ H δ E d he _ fun v H' s r => ?_⟩
      have E' := E.mono s
      have q1' := s _ _ q1
      refine ⟨a, vs, v, rfl, rfl, q1', by rw [<- q2.length]; exact hz, k A σ _ (E'.put hA (VC hv) (fun b o hb e => by rw [Zx hb]; exact e) (by rw [Z7]; exact fun z => by cases z) ⟨_, Z7, ?_⟩)⟩
      have ex : ∀ b o, ¬ AV av A b -> H' b = some o -> upd H' a (.lst (vs ++ [v])) b = some o := fun b o n e => by
       rw [Zx fun z => n (.inr ⟨i, by rw [z]; exact hA⟩)]
       exact e
      exact ((q2.same s).append (.cons (RepT.r r) .nil)).ext ex
   · rw [if_neg hz] at e; cases e
theorem VS.frz {t : TS} {φ : Env -> Option Out} (i : Nat) (h : VS G ow1 owN owB owC t φ) (hn : G.2 i = none) (h1 : sub ow1 ow = true) (h2 : ow1.contains i = false) (h3 : sub ow (i :: ow1) = true) : VS G ow owN owB owC t φ := fun H0 av A σ H δ E o e De k =>
 h H0 av _ σ H δ (E.freeze i (Jv h1 h2 h3) hn) o e De k
def Zq (i : Nat) (d : D) (δ : Env) : Option Env := some (δ.set i (some d))
theorem Yc (i : Nat) (hi : ow.contains i = false) (hn : G.2 i = none) : VG G ow ow (Y6 i) (Zq i) := fun H0 av A σ H δ E d v r δ' e Q k => by
 cases e
 exact k _ _ H (Same.refl H) (E.set r (fun j => by
  have : i ∉ ow := by simpa using hi
  exact ⟨fun h => ⟨h, fun z => this (z ▸ h)⟩, fun h => h.1⟩) hn)
def VGs (G : Cn) (ow ow' : List Nat) (g : TGs) (γ : List D -> Env -> Option Env) : Prop :=
 ∀ H0 av A σ H δ, ER G ow H0 av A σ H δ -> ∀ ds vs, RepL G.1 (AV av A) H ds vs -> ∀ δ', γ ds δ = some δ' -> ∀ Q : L2.St -> Hp -> Prop, (∀ A' σ' H', Same H H' -> (∀ b, AV av A' b -> AV av A b) -> ER G ow' H0 av A' σ' H' δ' -> Q σ' H') -> g vs σ H Q
def gsNil (ds : List D) (δ : Env) : Option Env := match ds with
 | [] => some δ
 | _ => none
theorem Jw : VGs G ow ow gNil gsNil := fun H0 av A σ H δ E ds vs r δ' e Q k => by
 cases ds with
 | nil => cases e; exact ⟨r.nil_of, k A σ H (Same.refl H) (fun _ z => z) E⟩
 | cons _ _ => cases e
def Yl (i : Nat) (γs : List D -> Env -> Option Env) (ds : List D) (δ : Env) : Option Env := match ds with
 | d :: r => γs r (δ.set i (some d))
 | [] => none
theorem VP {gs : TGs} {γs : List D -> Env -> Option Env} (i : Nat) (hi : ow.contains i = false) (hn : G.2 i = none) (h : VGs G ow ow gs γs) : VGs G ow ow (ZeD (Y6 i) gs) (Yl i γs) := fun H0 av A σ H δ E ds vs r δ' e Q k => by
 cases ds with
 | nil => cases e
 | cons d ds =>
  obtain ⟨v, vr, rfl, r1, r2⟩ := r.uncons
  refine ⟨v, vr, rfl, ?_⟩
  have less : ∀ b, AV av (fun j => if j = i then none else A j) b -> AV av A b := fun b z => by
   rcases z with z | ⟨j, z⟩
   · exact .inl z
   · by_cases e : j = i
     · simp [e] at z
     · simp [e] at z; exact .inr ⟨j, z⟩
  have E1 : ER G ow H0 av (fun j => if j = i then none else A j) (σ.set i (some v)) H (δ.set i (some d)) := E.set r1 (fun j => by
   have : i ∉ ow := by simpa using hi
   exact ⟨fun h => ⟨h, fun z => this (z ▸ h)⟩, fun h => h.1⟩) hn
  exact h H0 av _ _ H _ E1 ds vr (r2.av fun b z => .inl (less b z)) δ' e Q fun A' σ' H' s l E' => k A' σ' H' s (fun b z => less b (l b z)) E'
def Xf (n : Nat) (γs : List D -> Env -> Option Env) (d : D) (δ : Env) : Option Env := match d with
 | .tup ds => if ds.length = n then γs ds δ else none
 | _ => none
theorem Jx {K : PySem.W.Frag} {n : Nat} {gs : TGs} {γs : List D -> Env -> Option Env} (h : VGs G ow ow gs γs) : VG G ow ow (Q8 K n gs) (Xf n γs) := fun H0 av A σ H δ E d v r δ' e Q k => by
 cases d <;> first | (cases e; done) | skip
 rename_i ds
 dsimp only [Xf] at e
 by_cases hz : ds.length = n
 · rw [if_pos hz] at e
   unfold Rep at r
   obtain ⟨a, vs, rfl, _, rd, l⟩ := r
   exact ⟨a, vs, rfl, SqT.of rd, by rw [<- l.length]; exact hz, h H0 av A σ H δ E ds vs l δ' e Q fun A' σ' H' s _ E' => k A' σ' H' s E'⟩
 · rw [if_neg hz] at e; cases e
def Vj (cA : Kn) (iv : Addr -> Prop) (J : It) (xs : List D) (H0 : Hp) : Prop := ∀ H, Same H0 H ->
 (∀ i, i < xs.length -> J.go i H) /\
 (∀ (i : Nat) x v H', xs[i]? = some x -> J.yld i H v H' -> Same H H' /\ ∀ av' : Addr -> Prop, (∀ b, av' b -> H b ≠ none) -> (∀ b, av' b -> iv b \/ H0 b = none) -> Rep cA av' H' x v) /\
 (∀ i, xs.length <= i -> J.stop i H)
def VI (G : Cn) (ow : List Nat) (wi : TI) (ι : Env -> Option (List D)) : Prop :=
 ∀ H0 av A σ H δ, ER G ow H0 av A σ H δ -> ∀ xs, ι δ = some xs -> ∀ R : It -> Hp -> Prop, (∀ J H1, Same H H1 -> Vj G.1 (AV av A) J xs (DL.cut A H1) -> R J H1) -> wi σ H R
def Yf (γ : D -> Env -> Option Env) (φ : Env -> Option Out) : List D -> Env -> Option Out
 | [], δ => some (.nx δ)
 | x :: r, δ => match γ x δ with
  | none => none
  | some δ1 => match φ δ1 with
   | none => none
   | some (.nx δ2) => Yf γ φ r δ2
   | some (.ct δ2) => Yf γ φ r δ2
   | some (.bk δ2) => some (.nx δ2)
   | some (.rt d) => some (.rt d)
def ZP (ι : Env -> Option (List D)) (γ : D -> Env -> Option Env) (φ : Env -> Option Out) (δ : Env) : Option Out := match ι δ with
 | some xs => Yf γ φ xs δ
 | none => none
theorem Y2 {wi : TI} {g : TG} {tb : TS} {ι : Env -> Option (List D)} {γ : D -> Env -> Option Env} {φ : Env -> Option Out} (hi : VI G ow wi ι) (hg : VG G ow ow g γ) (hb : VS G ow ow ow ow tb φ) : VS G ow ow owB owC (ZgR wi g tb) (ZP ι γ φ) := fun H0 av A σ H δ E o e De k => by
 unfold ZP at e
 cases he : ι δ with
 | none => rw [he] at e; cases e
 | some xs =>
  rw [he] at e
  have e : Yf γ φ xs δ = some o := e
  refine hi H0 av A σ H δ E xs he _ fun J H1 s1 W => ?_
  have E1 := E.mono s1
  refine ⟨fun i m σ' H' => m = xs.length - i /\ i <= xs.length /\ ∃ A' δ', ER G ow (DL.cut A H1) av A' σ' H' δ' /\ Yf γ φ (xs.drop i) δ' = some o, ⟨xs.length, by simp, Nat.zero_le _, A, δ, E1.cut, e⟩, ?_⟩
  rintro i m σ' H' ⟨rfl, hle, A', δ', E', e'⟩
  obtain ⟨w1, w2, w3⟩ := W H' E'.same
  by_cases hlt : i < xs.length
  · refine .inr ⟨w1 i hlt, fun σ2 H2 => ∃ A2 δ2, ER G ow (DL.cut A H1) av A2 σ2 H2 δ2 /\ Yf γ φ (xs.drop (i + 1)) δ2 = some o, fun σ2 H2 ⟨A2, δ2, E2, e2⟩ => ⟨xs.length - (i + 1), by omega, rfl, hlt, A2, δ2, E2, e2⟩, fun v H2 y => ?_⟩
    have hx : xs[i]? = some xs[i] := List.getElem?_eq_getElem hlt
    obtain ⟨s2, rep⟩ := w2 i _ v H2 hx y
    have E2 := E'.mono s2
    have rep' : Rep G.1 (AV av A') H2 xs[i] v := rep _ E'.avl fun b z => by
     rcases z with z | ⟨j, z⟩
     · exact .inl (.inl z)
     · exact .inr (E'.fr j b z)
    rw [List.drop_eq_getElem_cons hlt] at e'
    unfold Yf at e'
    cases hγ : γ xs[i] δ' with
    | none => rw [hγ] at e'; cases e'
    | some δ1 =>
     rw [hγ] at e'
     dsimp only at e'
     refine hg _ av A' σ' H2 δ' E2 _ v rep' δ1 hγ _ fun A3 σ3 H3 s3 E3 => ?_
     cases hφ : φ δ1 with
     | none => rw [hφ] at e'; cases e'
     | some o1 =>
      rw [hφ] at e'
      refine hb _ av A3 σ3 H3 δ1 E3 o1 hφ _ ?_
      cases o1 with
      | nx δ2 => exact fun A4 σ4 H4 E4 => ⟨A4, δ2, E4, e'⟩
      | ct δ2 => exact fun A4 σ4 H4 E4 => ⟨A4, δ2, E4, e'⟩
      | bk δ2 => cases e'; exact fun A4 σ4 H4 E4 => k A4 σ4 H4 (E1.uncut E4)
      | rt d => cases e'; exact fun v H4 s4 r4 => k v H4 (E1.sub0.trans s4) r4
  · have ei : i = xs.length := by omega
    subst ei
    rw [List.drop_length] at e'
    cases e'
    exact .inl ⟨w3 _ (Nat.le_refl _), k A' σ' H' (E1.uncut E')⟩
def Ym (τ : Env -> Option Bool) (φ : Env -> Option Out) : Nat -> Env -> Option Out
 | 0, _ => none
 | n + 1, δ => match τ δ with
  | none => none
  | some false => some (.nx δ)
  | some true => match φ δ with
   | none => none
   | some (.nx δ2) => Ym τ φ n δ2
   | some (.ct δ2) => Ym τ φ n δ2
   | some (.bk δ2) => some (.nx δ2)
   | some (.rt d) => some (.rt d)
theorem Qj {τ : Env -> Option Bool} {φ : Env -> Option Out} : ∀ (n k : Nat) (δ : Env) (o : Out), Ym τ φ n δ = some o -> Ym τ φ (n + k) δ = some o
 | 0, _, _, _, h => by cases h
 | n + 1, k, δ, o, h => by
  rw [Nat.add_right_comm]
  unfold Ym at h ⊢
  cases ht : τ δ with
  | none => rw [ht] at h; cases h
  | some b =>
   rw [ht] at h
   cases b with
   | false => exact h
   | true =>
    dsimp only at h ⊢
    cases hp : φ δ with
    | none => rw [hp] at h; cases h
    | some o1 =>
     rw [hp] at h
     cases o1 with
     | nx δ2 => exact Qj n k δ2 o h
     | ct δ2 => exact Qj n k δ2 o h
     | bk δ2 => exact h
     | rt d => exact h
open Classical in
noncomputable def YD (τ : Env -> Option Bool) (φ : Env -> Option Out) (δ : Env) : Option Out := if h : ∃ n o, Ym τ φ n δ = some o then Ym τ φ (Classical.choose h) δ else none
theorem ZcB {τ : Env -> Option Bool} {φ : Env -> Option Out} {δ : Env} {n : Nat} {o : Out} (h : Ym τ φ n δ = some o) : YD τ φ δ = some o := by
 have hx : ∃ n o, Ym τ φ n δ = some o := ⟨n, o, h⟩
 unfold YD
 rw [dif_pos hx]
 obtain ⟨o', ho'⟩ := Classical.choose_spec hx
 have h1 := Qj _ n δ o' ho'
 have h2 := Qj _ (Classical.choose hx) δ o h
 rw [Nat.add_comm, h2] at h1
 rw [ho', h1]
theorem Za5 {τ : Env -> Option Bool} {φ : Env -> Option Out} {δ : Env} {o : Out} (h : YD τ φ δ = some o) : ∃ n, Ym τ φ n δ = some o := by
 unfold YD at h
 split at h
 · exact ⟨_, h⟩
 · cases h
theorem Zbn {c : TT} {tb : TS} {τ : Env -> Option Bool} {φ : Env -> Option Out} (hc : VT G ow c τ) (hb : VS G ow ow ow ow tb φ) : VS G ow ow owB owC (Zdx c tb) (YD τ φ) := fun H0 av A σ H δ E o e De k => by
 obtain ⟨n, e⟩ := Za5 e
 refine ⟨fun m σ' H' => ∃ A' δ', ER G ow H0 av A' σ' H' δ' /\ Ym τ φ m δ' = some o, ⟨n, A, δ, E, e⟩, ?_⟩
 rintro m σ' H' ⟨A', δ', E', e'⟩
 cases m with
 | zero => cases e'
 | succ m =>
  unfold Ym at e'
  cases ht : τ δ' with
  | none => rw [ht] at e'; cases e'
  | some b =>
   rw [ht] at e'
   refine hc H0 av A' σ' H' δ' E' b ht _ fun H2 s2 => ?_
   have E2 := E'.mono s2
   cases b with
   | false => cases e'; exact Vx (k A' σ' H2 E2)
   | true =>
    dsimp only at e'
    refine Vy ⟨fun σ3 H3 => ∃ A3 δ3, ER G ow H0 av A3 σ3 H3 δ3 /\ Ym τ φ m δ3 = some o, fun σ3 H3 ⟨A3, δ3, E3, e3⟩ => ⟨m, Nat.lt_succ_self _, A3, δ3, E3, e3⟩, ?_⟩
    cases hφ : φ δ' with
    | none => rw [hφ] at e'; cases e'
    | some o1 =>
     rw [hφ] at e'
     refine hb H0 av A' σ' H2 δ' E2 o1 hφ _ ?_
     cases o1 with
     | nx δ2 => exact fun A4 σ4 H4 E4 => ⟨A4, δ2, E4, e'⟩
     | ct δ2 => exact fun A4 σ4 H4 E4 => ⟨A4, δ2, E4, e'⟩
     | bk δ2 => cases e'; exact k
     | rt d => cases e'; exact k
end
end DL
namespace DL
open PySem PySem.Spec L2
section
variable {cA : Kn} {G : Cn} {ow owN owB owC : List Nat}
def ZU (ε : Env -> Option D) (δ : Env) : Option (List D) := match ε δ with
 | some (.lst xs) => some xs
 | some (.tup xs) => some xs
 | some (.str cs) => some (cs.map fun c => .str [c])
 | _ => none
theorem Rep.cut {av : Addr -> Prop} {A : Nat -> Option Addr} {H : Hp} {d : D} {v : V} (h : Rep cA (AV av A) H d v) : Rep cA (AV av A) (DL.cut A H) d v := h.ext fun b o n e => by
 rw [Xx fun ⟨i, z⟩ => n (.inr ⟨i, z⟩)]
 exact e
theorem RepL.cut {av : Addr -> Prop} {A : Nat -> Option Addr} {H : Hp} {d : List D} {v : List V} (h : RepL cA (AV av A) H d v) : RepL cA (AV av A) (DL.cut A H) d v := h.ext fun b o n e => by
 rw [Xx fun ⟨i, z⟩ => n (.inr ⟨i, z⟩)]
 exact e
theorem ZbG {iv : Addr -> Prop} {H0 : Hp} {a : Addr} {vs : List V} {xs : List D} (rd : SqL cA.K H0 a vs) (l : RepL cA iv H0 xs vs) : Vj cA iv (Itl cA.K a) xs H0 := fun H s => by
 have rd' : SqL cA.K H a vs := s.seq rd
 refine ⟨fun i hi => ?_, fun i x v H' hx y => ?_, fun i hi => ⟨vs, rd', by rw [<- l.length]; exact hi⟩⟩
 · obtain ⟨v, hv, _⟩ := l.get (List.getElem?_eq_getElem hi)
   exact ⟨vs, v, rd', hv⟩
 · obtain ⟨rfl, hy⟩ := y
   obtain ⟨v', hv, r⟩ := l.get hx
   rw [hy vs rd'] at hv
   cases hv
   exact ⟨Same.refl _, fun av' _ h2 => (r.av h2).same s⟩
theorem ZcC {K : PySem.W.Frag} {iv : Addr -> Prop} {H0 : Hp} {a : Addr} {vs : List V} {xs : List D} (rd : H0 a = some (.tup vs)) (l : RepL cA iv H0 xs vs) : Vj cA iv (Itt K a) xs H0 := fun H s => by
 have rd' : SqT K H a vs := SqT.of (s _ _ rd)
 refine ⟨fun i hi => ?_, fun i x v H' hx y => ?_, fun i hi => ⟨vs, rd', by rw [<- l.length]; exact hi⟩⟩
 · obtain ⟨v, hv, _⟩ := l.get (List.getElem?_eq_getElem hi)
   exact ⟨vs, v, rd', hv⟩
 · obtain ⟨rfl, hy⟩ := y
   obtain ⟨v', hv, r⟩ := l.get hx
   rw [hy vs rd'] at hv
   cases hv
   exact ⟨Same.refl _, fun av' _ h2 => (r.av h2).same s⟩
theorem ZcD {iv : Addr -> Prop} {H0 : Hp} {cs : List Nat} : Vj cA iv (Its cs) (cs.map fun c => .str [c]) H0 := fun H s => by
 refine ⟨fun i hi => (show i < cs.length by simpa using hi), fun i x v H' hx y => ?_, fun i hi => (show cs.length <= i by simpa using hi)⟩
 obtain ⟨rfl, c, hc, rfl⟩ := y
 rw [List.getElem?_map, hc] at hx
 cases hx
 exact ⟨Same.refl _, fun _ _ _ => rfl⟩
theorem Xg {tl : TE} {ε : Env -> Option D} (h : VE G ow tl .cl ε) : VI G ow (Jn G.1.K tl) (ZU ε) := fun H0 av A σ H δ E xs e R k => by
 unfold ZU at e
 cases he : ε δ with
 | none => rw [he] at e; cases e
 | some d =>
  rw [he] at e
  refine h H0 av A σ H δ E d he _ fun v H1 s r => ?_
  cases d <;> first | (cases e; done) | skip
  · cases e
    exact .inr (.inr ⟨_, r, k _ H1 s ZcD⟩)
  · cases e
    obtain ⟨a, vs, rfl, na, rd, l⟩ := r
    exact .inl ⟨a, vs, rfl, rd, k _ H1 s (ZbG (Qd na rd fun b o n e => by rw [Xx fun ⟨i, z⟩ => n (.inr ⟨i, z⟩)]; exact e) l.cut)⟩
  · cases e
    obtain ⟨a, vs, rfl, na, rd, l⟩ := r
    exact .inr (.inl ⟨a, vs, rfl, SqT.of rd, k _ H1 s (ZcC (by rw [Xx fun ⟨i, z⟩ => na (.inr ⟨i, z⟩)]; exact rd) l.cut)⟩)
def ZJ (lo c : Int) (n : Nat) : List D := (List.range n).map fun k => .int (lo + (k : Nat) * c)
theorem ZaL {iv : Addr -> Prop} {H0 : Hp} {lo : Int} {n : Nat} : Vj cA iv (Itr lo n) (ZJ lo 1 n) H0 := fun H s => by
 refine ⟨fun i hi => (show i < n by simpa [ZJ] using hi), fun i x v H' hx y => ?_, fun i hi => (show n <= i by simpa [ZJ] using hi)⟩
 obtain ⟨rfl, rfl⟩ := y
 have hi : i < n := by have := (List.getElem?_eq_some_iff.mp hx).1; simpa [ZJ] using this
 have : x = .int (lo + i) := by
  unfold ZJ at hx
  rw [List.getElem?_map, List.getElem?_range hi] at hx
  have := Option.some.inj hx
  rw [<- this]
  show D.int (lo + (i : Int) * 1) = _
  rw [Int.mul_one]
 subst this
 exact ⟨Same.refl _, fun _ _ _ => rfl⟩
def ZE (α : Env -> Option (List D)) (δ : Env) : Option (List D) := match α δ with
 | some [.int j] => if -(2 ^ 62) <= j /\ j < 2 ^ 62 then some (ZJ 0 1 j.toNat) else none
 | some [.int i, .int j] => if -(2 ^ 62) <= i /\ i < 2 ^ 62 /\ -(2 ^ 62) <= j /\ j < 2 ^ 62 then some (ZJ i 1 (j - i).toNat) else none
 | some [.int i, .int j, .int c] => if c ≠ 0 /\ c.natAbs < 1073741824 /\ Builtin.Range.small i j c = true then some (ZJ i c (Builtin.Range.rangeSize i j c).toNat) else none
 | _ => none
theorem ql1 {av : Addr -> Prop} {A : Nat -> Option Addr} {H : Hp} {q : Ql} {x : Int} {vs : List V} (h : RepQL cA av A H q [.int x] vs) : vs = [.int x] := by
 obtain ⟨v, r, rfl, h1, h2⟩ := h
 have := h1.any
 cases (show v = _ from this); cases (show r = [] from h2); rfl
theorem ql2 {av : Addr -> Prop} {A : Nat -> Option Addr} {H : Hp} {q : Ql} {x y : Int} {vs : List V} (h : RepQL cA av A H q [.int x, .int y] vs) : vs = [.int x, .int y] := by
 obtain ⟨v, r, rfl, h1, h2⟩ := h
 have := h1.any
 cases (show v = _ from this); rw [ql1 h2]
theorem Xy {ta : TA} {q : Ql} {a : Env -> Option (List D)} (h : VA G ow ta q a) (hl : ∀ δ ds, a δ = some ds -> ds.length = 1) : VI G ow (ZeE ta) (ZE a) := fun H0 av A σ H δ E xs e R k => by
 unfold ZE at e
 cases he : a δ with
 | none => rw [he] at e; cases e
 | some ds =>
  rw [he] at e
  refine h H0 av A σ H δ E ds he _ fun vs H1 s r => ?_
  have hln := hl δ ds he
  split at e
  · rename_i j he2
    cases he2
    by_cases hz : -(2 ^ 62) <= j /\ j < 2 ^ 62
    · rw [if_pos hz] at e
      cases e
      exact ⟨j, ql1 r, hz.1, hz.2, k _ H1 s ZaL⟩
    · rw [if_neg hz] at e; cases e
  · rename_i he2; cases he2; simp at hln
  · rename_i he2; cases he2; simp at hln
  · cases e
theorem Zb4 {ta : TA} {q : Ql} {a : Env -> Option (List D)} (h : VA G ow ta q a) (hl : ∀ δ ds, a δ = some ds -> ds.length = 2) : VI G ow (ZeF ta) (ZE a) := fun H0 av A σ H δ E xs e R k => by
 unfold ZE at e
 cases he : a δ with
 | none => rw [he] at e; cases e
 | some ds =>
  rw [he] at e
  refine h H0 av A σ H δ E ds he _ fun vs H1 s r => ?_
  have hln := hl δ ds he
  split at e
  · rename_i he2; cases he2; simp at hln
  · rename_i i j he2
    cases he2
    by_cases hz : -(2 ^ 62) <= i /\ i < 2 ^ 62 /\ -(2 ^ 62) <= j /\ j < 2 ^ 62
    · rw [if_pos hz] at e
      cases e
      exact ⟨i, j, ql2 r, hz, k _ H1 s ZaL⟩
    · rw [if_neg hz] at e; cases e
  · rename_i he2; cases he2; simp at hln
  · cases e
theorem Zd8 {δ : Env} {ds : List D} (h : eNil δ = some ds) : ds.length = 0 := by cases h; rfl
theorem Zbo {a : Env -> Option D} {r : Env -> Option (List D)} {n : Nat} (hr : ∀ δ ds, r δ = some ds -> ds.length = n) : ∀ δ ds, Zb a r δ = some ds -> ds.length = n + 1 := fun δ ds h => by
 unfold Zb at h
 cases ha : a δ with
 | none => rw [ha] at h; cases h
 | some x =>
  rw [ha] at h
  cases hr' : r δ with
  | none => rw [hr'] at h; cases h
  | some xs => rw [hr'] at h; cases h; rw [List.length_cons, hr δ xs hr']
theorem Xh {a : Env -> Option D} : ∀ δ ds, Zb a eNil δ = some ds -> ds.length = 1 := Zbo fun _ _ => Zd8
theorem ZgZ {a b : Env -> Option D} : ∀ δ ds, Zb a (Zb b eNil) δ = some ds -> ds.length = 2 := Zbo Xh
def Xi (n : Nat) (δ : Env) (js : List Nat) : Env := List.replicate n none ++ js.map fun j => (δ[j]?).getD none
def ZX (γ : D -> Env -> Option Env) (τ : Env -> Option Bool) (ε : Env -> Option D) (δ0 : Env) : List D -> Option (List D)
 | [] => some []
 | x :: r => match γ x δ0 with
  | none => none
  | some δ1 => match τ δ1 with
   | none => none
   | some false => ZX γ τ ε δ0 r
   | some true => match ε δ1 with
    | none => none
    | some y => match ZX γ τ ε δ0 r with
     | none => none
     | some ys => some (y :: ys)
def ZO (ι : Env -> Option (List D)) (γ : D -> Env -> Option Env) (τ : Env -> Option Bool) (ε : Env -> Option D) (n : Nat) (js : List Nat) (δ : Env) : Option D := match ι δ with
 | none => none
 | some xs => match ZX γ τ ε (Xi n δ js) xs with
  | none => none
  | some ys => if ys.length <= sizeLine then some (.lst ys) else none
theorem ER.blk {H0 H : Hp} {av : Addr -> Prop} {A : Nat -> Option Addr} {σ : L2.St} {δ : Env} (n : Nat) (js : List Nat) (hjs : js.all (fun j => !ow.contains j) = true) (E : ER G ow H0 av A σ H δ) :
 ER ⟨G.1, fun _ => none⟩ [] H (AV av A) (fun _ => none) (L2.blk n σ js) H (Xi n δ js) := by
 refine ⟨Same.refl H, E.avl, fun _ _ z => (by cases z), fun _ _ _ z => (by cases z), fun _ _ z => (by cases z), fun _ z => absurd rfl z, fun _ z => (by cases z), ?_, fun _ _ z => (by cases z), fun _ _ z => (by cases z), fun i d e => ?_⟩
 · unfold L2.blk Xi V9
   rw [List.length_append, List.length_append, List.length_replicate, List.length_replicate, List.length_map, List.length_map]
 · unfold Xi at e
   by_cases hi : i < n
   · rw [List.getElem?_append_left (by simpa using hi), List.getElem?_replicate, if_pos hi] at e
     cases e
   · rw [List.getElem?_append_right (by simpa using hi), List.length_replicate, List.getElem?_map] at e
     cases hj : js[i - n]? with
     | none => rw [hj] at e; cases e
     | some j =>
      rw [hj] at e
      have e' : (δ[j]?).getD none = some d := Option.some.inj e
      have e2 : δ[j]? = some (some d) := by
       cases q : δ[j]? with
       | none => rw [q] at e'; cases e'
       | some z => rw [q] at e'; exact congrArg some e'
      obtain ⟨v, h1, h2, _⟩ := E.var j d e2
      have hjo : A j = none := by
       cases q : A j with
       | none => rfl
       | some a =>
        have h3 := E.dom j (by rw [q]; exact fun z => by cases z)
        have h4 := List.all_eq_true.mp hjs j (List.mem_of_getElem? hj)
        simp at h4
        exact absurd h3 h4
      refine ⟨v, ?_, fun _ => (h2 hjo).av fun b z => ?_, fun _ z => (by cases z)⟩
      · unfold L2.blk V9
        rw [List.getElem?_append_right (by simpa using hi), List.length_replicate, List.getElem?_map, hj]
        show some ((σ[j]?).getD none) = _
        rw [h1]; rfl
      · rcases z with z | ⟨_, z⟩
        · exact .inl z
        · cases z
theorem YO {wi : TI} {g : TG} {tt : TT} {te : TE} {n : Nat} {js : List Nat} {ι : Env -> Option (List D)} {γ : D -> Env -> Option Env} {τ : Env -> Option Bool} {ε : Env -> Option D}
 (hjs : js.all (fun j => !ow.contains j) = true) (hi : VI G ow wi ι) (hg : VG ⟨G.1, fun _ => none⟩ [] [] g γ) (ht : VT ⟨G.1, fun _ => none⟩ [] tt τ) (he : VE ⟨G.1, fun _ => none⟩ [] te .cl ε) : VF G ow (Jm wi g tt te n js) (ZO ι γ τ ε n js) := fun H0 av A σ H δ E d e Q k => by
 unfold ZO at e
 cases hι : ι δ with
 | none => rw [hι] at e; cases e
 | some xs =>
  rw [hι] at e
  dsimp only at e
  cases hc : ZX γ τ ε (Xi n δ js) xs with
  | none => rw [hc] at e; cases e
  | some full =>
   rw [hc] at e
   dsimp only at e
   by_cases hz : full.length <= sizeLine
   · rw [if_pos hz] at e
     have ed : D.lst full = d := Option.some.inj e
     refine hi H0 av A σ H δ E xs hι _ fun J H1 s1 W => ?_
     have E1 := E.mono s1
     refine ⟨fun i m ys H' => m = xs.length - i /\ i <= xs.length /\ Same H1 H' /\ ∃ done rest, RepL G.1 (AV av A) H' done ys /\ ZX γ τ ε (Xi n δ js) (xs.drop i) = some rest /\ done ++ rest = full,
      ⟨xs.length, by simp, Nat.zero_le _, Same.refl _, [], full, .nil, hc, rfl⟩, ?_⟩
     rintro i m ys H' ⟨rfl, hle, s', done, rest, rl, hr, hf⟩
     have E' := E1.mono s'
     have sc : Same (DL.cut A H1) H' := fun b o z => s' b o (Zbm z).1
     obtain ⟨w1, w2, w3⟩ := W H' sc
     by_cases hlt : i < xs.length
     · refine .inr ⟨w1 i hlt, fun v H2 y => ?_⟩
       have hx : xs[i]? = some xs[i] := List.getElem?_eq_getElem hlt
       obtain ⟨s2, rep⟩ := w2 i _ v H2 hx y
       have rep' : Rep G.1 (AV av A) H2 xs[i] v := rep _ E'.avl fun b z => .inl z
       have E2 := E'.mono s2
       have EB : ER ⟨G.1, fun _ => none⟩ [] H2 (AV av A) (fun _ => none) (L2.blk n σ js) H2 (Xi n δ js) := E2.blk n js hjs
       have triv : ∀ (A' : Nat -> Option Addr) {σ' : L2.St} {H3 : Hp} {δ' : Env}, ER ⟨G.1, fun _ => none⟩ [] H2 (AV av A) A' σ' H3 δ' -> ∀ b, AV (AV av A) A' b ↔ AV av A b := fun A' {σ' H3 δ'} E3 b => by
        constructor
        · rintro (z | ⟨j, z⟩)
          · exact z
          · have := E3.dom j (by rw [z]; exact fun z => by cases z)
            cases this
        · exact fun z => .inl z
       rw [List.drop_eq_getElem_cons hlt] at hr
       unfold ZX at hr
       cases hγ : γ xs[i] (Xi n δ js) with
       | none => rw [hγ] at hr; cases hr
       | some δ1 =>
        rw [hγ] at hr
        dsimp only at hr
        refine hg _ _ _ _ H2 _ EB _ v (rep'.av fun b z => .inl ((triv _ EB b).mp z)) δ1 hγ _ fun A3 σ3 H3 s3 E3 => ?_
        cases hτ : τ δ1 with
        | none => rw [hτ] at hr; cases hr
        | some c =>
         rw [hτ] at hr
         refine ht _ _ A3 σ3 H3 δ1 E3 c hτ _ fun H4 s4 => ?_
         have E4 := E3.mono s4
         cases c with
         | false =>
          exact Vx ⟨xs.length - (i + 1), by omega, rfl, hlt, (s'.trans s2).trans (s3.trans s4), done, rest, rl.same ((s2.trans s3).trans s4), hr, hf⟩
         | true =>
          dsimp only at hr
          cases hε : ε δ1 with
          | none => rw [hε] at hr; cases hr
          | some yd =>
           rw [hε] at hr
           dsimp only at hr
           cases hr' : ZX γ τ ε (Xi n δ js) (xs.drop (i + 1)) with
           | none => rw [hr'] at hr; cases hr
           | some rest' =>
            rw [hr'] at hr
            have hrr : yd :: rest' = rest := Option.some.inj hr
            subst hrr
            refine Vy (he _ _ A3 σ3 H4 δ1 E4 yd hε _ fun vy H5 s5 r5 => ?_)
            have sall : Same H' H5 := ((s2.trans s3).trans s4).trans s5
            refine ⟨?_, xs.length - (i + 1), by omega, rfl, hlt, s'.trans sall, done ++ [yd], rest', (rl.same sall).append (.cons ((RepT.r r5).av fun b z => .inl ((triv _ E4 b).mpr z)) .nil), hr', by rw [<- hf]; simp⟩
            have := congrArg List.length hf
            rw [List.length_append, List.length_cons] at this
            have := rl.length
            omega
     · have ei : i = xs.length := by omega
       subst ei
       rw [List.drop_length] at hr
       cases hr
       refine .inl ⟨w3 _ (Nat.le_refl _), fun p hp => k p ys full H' (s1.trans s') hp (by rw [<- hf, List.append_nil]; exact rl) ed.symm⟩
   · rw [if_neg hz] at e; cases e
def spD (cA : Kn) (n : Nat) (m : List D -> Option D) : Sp := fun vs H Q _ => ∃ av ds d, (∀ a, av a -> H a ≠ none) /\ RepL cA av H ds vs /\ ds.length = n /\ m ds = some d /\ ∀ v H', Same H H' -> Rep cA av H' d v -> Q v H'
def Zp (n : Nat) (m : List D -> Option D) (dds : List D) (α : Env -> Option (List D)) (δ : Env) : Option D := match α δ with
 | some ds => if (ds ++ dds).length = n then m (ds ++ dds) else none
 | none => none
def Ql.cq : Ql -> Ql
 | .cl => .cl
 | _ => .dt
theorem ZZ {n : Nat} {m : List D -> Option D} {t : TA} {q : Ql} {α : Env -> Option (List D)} {E0 : XK} (dds : List D) (hd : dds.all ZL = true) (h : VA G ow t q α) : VE G ow (U4 (spD G.1 n m) (dds.map val) E0 t) q.cq (Zp n m dds α) := fun H0 av A σ H δ E d e Q k => by
 unfold Zp at e
 cases he : α δ with
 | none => rw [he] at e; cases e
 | some ds =>
  rw [he] at e
  dsimp only at e
  by_cases hz : (ds ++ dds).length = n
  · rw [if_pos hz] at e
    refine h H0 av A σ H δ E ds he _ fun vs H1 s1 r1 => ?_
    have E1 := E.mono s1
    cases q with
    | cl => exact ⟨AV av A, ds ++ dds, d, E1.avl, r1.cl.append (.of_vals hd), hz, e, fun v H' s r => k v H' (s1.trans s) r.t⟩
    | tp => exact ⟨av, ds ++ dds, d, E1.avH, r1.any.append (.of_vals hd), hz, e, fun v H' s r => k v H' (s1.trans s) r.t⟩
    | dt => exact ⟨av, ds ++ dds, d, E1.avH, r1.any.append (.of_vals hd), hz, e, fun v H' s r => k v H' (s1.trans s) r.t⟩
  · rw [if_neg hz] at e; cases e
def run (N : Nat) (φ : Env -> Option Out) (ds : List D) : Option D := match φ (ds.map some ++ List.replicate (N - ds.length) none) with
 | some (.rt d) => some d
 | some (.nx _) => some .non
 | _ => none
theorem ZcE {N : List Str} {ds : List D} {vs : List V} {av : Addr -> Prop} {H : Hp} (r : RepL cA av H ds vs) {i : Nat} {d : D} (h : (ds.map some ++ List.replicate (N.length - ds.length) none)[i]? = some (some d)) :
 ∃ v, (L2.start N vs)[i]? = some (some v) /\ Rep cA av H d v := by
 by_cases hi : i < ds.length
 · rw [List.getElem?_append_left (by simpa using hi), List.getElem?_map] at h
   cases hd : ds[i]? with
   | none => rw [hd] at h; cases h
   | some x =>
    rw [hd] at h
    cases h
    obtain ⟨v, hv, rv⟩ := r.get hd
    refine ⟨v, ?_, rv⟩
    unfold L2.start
    have : i < vs.length := by rw [<- r.length]; exact hi
    rw [List.getElem?_append_left (by simpa using this), List.getElem?_map, hv]
    rfl
 · rw [List.getElem?_append_right (by simpa using hi), List.getElem?_replicate] at h
   split at h <;> cases h
theorem Zbp {N : List Str} {ds : List D} {vs : List V} {av : Addr -> Prop} {H : Hp} (ha : ∀ a, av a -> H a ≠ none) (r : RepL cA av H ds vs) :
 ER ⟨cA, fun _ => none⟩ [] H av (fun _ => none) (L2.start N vs) H (ds.map some ++ List.replicate (N.length - ds.length) none) := by
 refine ⟨Same.refl H, ha, fun _ _ z => (by cases z), fun _ _ _ z => (by cases z), fun _ _ z => (by cases z), fun _ z => absurd rfl z, fun _ z => (by cases z), ?_, fun _ _ z => (by cases z), fun _ _ z => (by cases z), fun i d e => ?_⟩
 · unfold L2.start
   rw [List.length_append, List.length_append, List.length_map, List.length_map, List.length_replicate, List.length_replicate, r.length]
 · obtain ⟨v, h1, h2⟩ := ZcE r e
   refine ⟨v, h1, fun _ => h2.av fun b z => ?_, fun _ z => (by cases z)⟩
   rcases z with z | ⟨_, z⟩
   · exact .inl z
   · cases z
section
variable {P : Program} {w : World} {K : PySem.W.Frag} {mg : Str -> Option Value} {base : Heap}
end
theorem Zb5 {vs : List V} {lo hi : Option Int} : XM vs lo hi = cutL vs lo hi := by
 unfold XM cutL
 have e : ∀ n d o, HT.sIx n d o = ZN n d o := fun n d o => by cases o <;> rfl
 rw [e, e]
theorem RepL.cutL {av : Addr -> Prop} {H : Hp} {xs : List D} {vs : List V} (l : RepL cA av H xs vs) (lo hi : Option Int) : RepL cA av H (L2.cutL xs lo hi) (L2.cutL vs lo hi) := by
 unfold L2.cutL
 rw [l.length]
 exact (l.drop _).take _
def xNoP (_ : Env) : Option (Option Int) := some none
def xP (ε : Env -> Option D) (δ : Env) : Option (Option Int) := match ε δ with
 | some (.int i) => some (some i)
 | _ => none
def VO (G : Cn) (ow : List Nat) (to : TO) (ω : Env -> Option (Option Int)) : Prop :=
 ∀ H0 av A σ H δ, ER G ow H0 av A σ H δ -> ∀ x, ω δ = some x -> ∀ Q : Option Int -> Hp -> Prop, (∀ H', Same H H' -> Q x H') -> to σ H Q
theorem Qk : VO G ow tNoPart xNoP := fun H0 av A σ H δ E x e Q k => by
 cases e
 exact k H (Same.refl H)
theorem Qm {te : TE} {q : Ql} {ε : Env -> Option D} (h : VE G ow te q ε) : VO G ow (ZeM te) (xP ε) := fun H0 av A σ H δ E x e Q k => by
 unfold xP at e
 cases he : ε δ with
 | none => rw [he] at e; cases e
 | some d =>
  rw [he] at e
  cases d <;> first | (cases e; done) | skip
  cases e
  exact h H0 av A σ H δ E _ he _ fun v H' s r => ⟨_, r.any, k H' s⟩
def slD : D -> Option Int -> Option Int -> Option D
 | .str a, lo, hi => if a.length <= sizeLine then some (.str (L2.cutL a lo hi)) else none
 | .lst xs, lo, hi => some (.lst (L2.cutL xs lo hi))
 | .tup xs, lo, hi => if ZN xs.length 0 lo = 0 /\ ZN xs.length xs.length hi = xs.length then none else some (.tup (L2.cutL xs lo hi))
 | _, _, _ => none
def eSl (a : Env -> Option D) (lo hi : Env -> Option (Option Int)) (δ : Env) : Option D := match a δ with
 | some x => match lo δ with
  | some l => match hi δ with
   | some u => slD x l u
   | none => none
  | none => none
 | none => none
theorem Zc5 {a : Env -> Option D} {lo hi : Env -> Option (Option Int)} {δ : Env} {d : D} (h : eSl a lo hi δ = some d) : ∃ x l u, a δ = some x /\ lo δ = some l /\ hi δ = some u /\ slD x l u = some d := by
 unfold eSl at h
 cases ea : a δ with
 | none => rw [ea] at h; cases h
 | some x =>
  rw [ea] at h
  cases el : lo δ with
  | none => rw [el] at h; cases h
  | some l =>
   rw [el] at h
   cases eu : hi δ with
   | none => rw [eu] at h; cases h
   | some u => rw [eu] at h; exact ⟨x, l, u, rfl, rfl, rfl, h⟩
theorem Qn {ta : TE} {tl th : TO} {q : Ql} {a : Env -> Option D} {lo hi : Env -> Option (Option Int)} (hq : q = .cl \/ q = .tp) (ha : VE G ow ta q a) (hl : VO G ow tl lo) (hh : VO G ow th hi) : VE G ow (tSl (Jp G.1.K) ta tl th) .cl (eSl a lo hi) := fun H0 av A σ H δ E d e Q k => by
 obtain ⟨x, l, u, ex, el, eu, ed⟩ := Zc5 e
 refine ha H0 av A σ H δ E x ex _ fun v H1 s1 r1 => hl H0 av A σ H1 δ (E.mono s1) l el _ fun H2 s2 => hh H0 av A σ H2 δ ((E.mono s1).mono s2) u eu _ fun H3 s3 => ?_
 have s13 := s2.trans s3
 have E3 := (E.mono s1).mono s13
 have r3 : RepT G.1 av (AV av A) H3 x v := by
  have := (r1.same s13).tp
  rcases hq with rfl | rfl <;> exact this
 cases x <;> first | (cases ed; done) | skip
 · rename_i cs
   cases (show v = _ from r3)
   dsimp only [slD] at ed
   by_cases hz : cs.length <= sizeLine
   · rw [if_pos hz] at ed
     cases ed
     exact .inl ⟨cs, rfl, hz, k _ H3 (s1.trans s13) rfl⟩
   · rw [if_neg hz] at ed; cases ed
 · cases ed
   obtain ⟨p, vs, rfl, _, rd, ll⟩ := r3
   refine .inr (.inl ⟨p, vs, rfl, rd, fun p' hp => ?_⟩)
   rw [Zb5]
   exact k _ _ ((s1.trans s13).trans (Z8 hp)) ⟨p', _, rfl, fun z => (E3.avl p' z hp).elim, SqL.of Z7, (ll.cutL l u).same (Z8 hp)⟩
 · rename_i xs
   dsimp only [slD] at ed
   by_cases hz : ZN xs.length 0 l = 0 /\ ZN xs.length xs.length u = xs.length
   · rw [if_pos hz] at ed; cases ed
   · rw [if_neg hz] at ed
     cases ed
     obtain ⟨p, vs, rfl, _, rd, ll⟩ := r3
     refine .inr (.inr ⟨p, vs, rfl, SqT.of rd, ?_, fun p' hp => ?_⟩)
     · have e : ∀ n d o, HT.sIx n d o = ZN n d o := fun n d o => by cases o <;> rfl
       rw [e, e, <- ll.length]
       exact hz
     · rw [Zb5]
       exact k _ _ ((s1.trans s13).trans (Z8 hp)) ⟨p', _, rfl, fun z => E3.avl p' z hp, Z7, (ll.cutL l u).same (Z8 hp)⟩
def Jy (K : PySem.W.Frag) : List V -> Hp -> VK -> Prop := fun xs H Q => Zhc K xs H Q \/ ∃ p vs c cv b, xs = [.ref p, c] /\ (∀ v, RelV c v -> v = cv) /\ KL K p vs /\ PySem.W.kitOne K (.type "list") cv = some b /\ Q (.bl b) H
theorem Jz {X : Cx} {K : PySem.W.Frag} (hK : X.K = K := by rfl) : Ye X (.builtin "isinstance") (Jy K) := by
 subst hK
 intro pins s σ H xs us Q I rs h
 rcases h with h | ⟨p, vs, c, cv, b, rfl, hc, ⟨o, its, n, hk, h1, _⟩, e, q⟩
 · exact Zc2 pins s σ H xs us Q I rs h
 · obtain ⟨u, w', rfl, rx, rc⟩ := ZeK rs
   have ec := hc _ rc
   subst ec
   cases (show u = Value.ref p from rx)
   exact PySem.W.kia_one PySem.W.kitx_list I.kIn ⟨o, I.kIn p o hk, h1⟩ e (fun z => nomatch z) fun tk => ⟨.bl b, H, I.tok tk, rfl, q⟩
def kind : D -> String
 | .non => "NoneType"
 | .bl _ => "bool"
 | .int _ => "int"
 | .str _ => "str"
 | .lst _ => "list"
 | .tup _ => "tuple"
 | .obj c _ _ => c
 | .dct _ _ => "dict"
 | .dtt _ _ => "dict"
def plainKinds : List String := ["NoneType", "bool", "int", "str", "list", "tuple"]
def XT (tab : List (String × Bool)) : D -> Option Bool
 | .obj c _ _ => if plainKinds.contains c then none else tab.lookup c
 | .dct _ _ => none
 | .dtt _ _ => none
 | d => tab.lookup (kind d)
def YA (tab : List (String × Bool)) (a : Env -> Option D) (δ : Env) : Option D := match a δ with
 | some d => match XT tab d with
  | some b => some (.bl b)
  | none => none
 | none => none
structure ClsI (K : PySem.W.Frag) (C : Addr) : Prop where
 cl : Cls K C
 ha : PySem.W.findIn K (.ref C) "__class__" = some (some (.builtin "object.__class__"))
 hn : PySem.W.specialIn K (.builtin "object.__class__") "__get__" = some (some (.builtin "getset_descriptor.__get__"))
 htk : PySem.W.takesIn K (.builtin "object.__class__") = some true
 hm : PySem.W.mroIn K C (.type "object") = some true
structure IsiOk (K : PySem.W.Frag) (cA : Kn) (cv : Value) (tab : List (String × Bool)) : Prop where
 plain : ∀ k ∈ plainKinds, ∀ b, tab.lookup k = some b -> PySem.W.kitOne K (.type k) cv = some b
 own : ∀ (c : String) b, plainKinds.contains c = false -> tab.lookup c = some b -> PySem.W.kitOne K (.ref (cA.c c)) cv = some b /\ ClsI K (cA.c c)
theorem JA {β : Type} {c : String} {b : β} : ∀ {tab : List (String × β)}, tab.lookup c = some b -> (c, b) ∈ tab
 | [], h => by simp at h
 | (c', b') :: r, h => by
  rw [List.lookup_cons] at h
  cases hc : c == c' with
  | true =>
   rw [hc] at h
   cases h
   rw [eq_of_beq hc]
   exact List.mem_cons_self
  | false =>
   rw [hc] at h
   exact List.mem_cons_of_mem _ (JA h)
theorem JB {K : PySem.W.Frag} {cA : Kn} {cv : Value} {tab : List (String × Bool)} (h : ∀ p ∈ tab, if plainKinds.contains p.1 = true then PySem.W.kitOne K (.type p.1) cv = some p.2 else PySem.W.kitOne K (.ref (cA.c p.1)) cv = some p.2 /\ ClsI K (cA.c p.1)) : IsiOk K cA cv tab where
 plain := fun k hk b hl => by
  have := h _ (JA hl)
  rwa [if_pos (by simpa using hk)] at this
 own := fun c b hc hl => by
  have := h _ (JA hl)
  rwa [if_neg (by simpa using hc)] at this
theorem JC {ta : TE} {q : Ql} {a : Env -> Option D} {c : V} {cv : Value} {tab : List (String × Bool)} (hc : ∀ v, RelV c v -> v = cv) (I : IsiOk G.1.K G.1 cv tab) (ha : VE G ow ta q a) :
 VE G ow (tCB (Jy G.1.K) (Yu ta (Yu (tC c) tNil))) .cl (YA tab a) := fun H0 av A σ H δ E d e Q k => by
 unfold YA at e
 cases he : a δ with
 | none => rw [he] at e; cases e
 | some x =>
  rw [he] at e
  dsimp only at e
  cases ht : XT tab x with
  | none => rw [ht] at e; cases e
  | some b =>
   rw [ht] at e
   cases e
   refine ha H0 av A σ H δ E x he _ fun v H1 s r => ?_
   have r' := r.any
   have fin : ∀ t, TyOf G.1.K H1 v t -> PySem.W.kitOne G.1.K t cv = some b -> Jy G.1.K [v, c] H1 Q := fun t ty e => .inl ⟨v, c, cv, t, b, rfl, hc, ty, e, k _ H1 s rfl⟩
   cases x with
   | non => cases (show v = _ from r'); exact fin _ .non (I.plain _ (by decide) b (by exact ht))
   | bl y => cases (show v = _ from r'); exact fin _ (.bl y) (I.plain _ (by decide) b (by exact ht))
   | int y => cases (show v = _ from r'); exact fin _ (.int y) (I.plain _ (by decide) b (by exact ht))
   | str y => cases (show v = _ from r'); exact fin _ (.str _) (I.plain _ (by decide) b (by exact ht))
   | lst y =>
    unfold Rep at r'
    obtain ⟨p, vs, rfl, _, rd, _⟩ := r'
    rcases rd with (rd | ⟨o, rd⟩) | rd
    · exact fin _ (.lst rd) (I.plain _ (by decide) b (by exact ht))
    · exact fin _ (.frz rd) (I.plain _ (by decide) b (by exact ht))
    · exact .inr ⟨p, vs, c, cv, b, rfl, hc, rd, I.plain _ (by decide) b (by exact ht), k _ H1 s rfl⟩
   | tup y =>
    unfold Rep at r'
    obtain ⟨p, vs, rfl, _, rd, _⟩ := r'
    exact fin _ (.tup rd) (I.plain _ (by decide) b (by exact ht))
   | dct ks y => cases ht
   | dtt ks y => cases ht
   | obj c' ks y =>
    unfold Rep at r'
    obtain ⟨p, dx, vs, rfl, _, rd, _⟩ := r'
    dsimp only [XT] at ht
    cases hp : plainKinds.contains c' with
    | true => rw [hp, if_pos rfl] at ht; cases ht
    | false =>
    rw [hp, if_neg Bool.false_ne_true] at ht
    obtain ⟨h1, h2⟩ := I.own c' b hp ht
    exact fin _ (.ins rd h2.cl h2.ha h2.hn h2.htk h2.hm) h1
end
end DL
namespace L2
open PySem PySem.Spec
section
variable {X : Cx}
end
end L2
namespace DL
open PySem PySem.Spec L2
section
variable {cA : Kn} {G : Cn} {ow : List Nat}
def eBM (f : List Nat -> List D -> Option D) (a : Env -> Option D) (α : Env -> Option (List D)) (δ : Env) : Option D := match a δ with
 | some (.str cs) => match α δ with
  | some ds => f cs ds
  | none => none
 | _ => none
end
end DL
namespace L2
open PySem PySem.Spec
structure FunX (K : PySem.W.Frag) (x qual : Str) (st : Stmt) (f : Addr) (fd : FuncData) : Prop where
 ex : ∃ (oc : Value) (od : Option Addr) (dV kV doc pm : Value) (an : Option Addr) (cdv ct : Value) (osl : Array (Option Value)),
  fd = PySem.W.fnOf x qual (ZS st) (ZK st) (Zo st) dV kV doc pm an cdv ct /\ K.lookup f = some ⟨oc, od, .func fd, osl⟩ /\ PySem.W.codeIn K cdv qual = true
theorem Fun.x {K : PySem.W.Frag} {x qual : Str} {st : Stmt} {f : Addr} {fd : FuncData} (F : Fun K x qual st f fd) : FunX K x qual st f fd := by
 obtain ⟨oc, od, kV, doc, pm, an, cdv, ct, osl, h⟩ := F.ex
 exact ⟨oc, od, .none, kV, doc, pm, an, cdv, ct, osl, h⟩
section
variable {P : Program} {w : World} {K : PySem.W.Frag} {mg : Str -> Option Value} {base : Heap}
theorem FunX.ok {x qual : Str} {st : Stmt} {f : Addr} {fd : FuncData} {N ps : List Str} {k : Nat} {sp : Sp} (F : FunX K x qual st f fd) (S : FnScope N ps (Zo st)) (len : ∀ vs H Q E, sp vs H Q E -> vs.length = ps.length)
 (hbody : ∀ (cdv : Value) (A : Around) (outer : List Env) (s : Shared) (H : Hp) (vs : List V) (Q : VK) (E : XK), Room k (A.deeper (PyProof.Rows.envOfC qual (Zo st) s.heap.objs.size f cdv)) -> sp vs H Q E ->
   ∃ t, PSs (Xa CX0 P w K mg base N qual (Zo st) f cdv A outer s H E).nox (ZK st) t /\ t { nx := fun _ H' => Q .non H', rt := Q } (start N vs) H) : FnOk P w K mg base CX0 (k + 1) f fd ps sp := by
 obtain ⟨oc, od, dV, kV, doc, pm, an, cdv, ct, osl, rfl, lk, hcd⟩ := F.ex
 refine ZeL lk hcd S len fun A outer s H vs Q E hr hsp => ?_
 obtain ⟨t, h, q⟩ := hbody cdv A outer s H vs Q E hr hsp
 exact ⟨t, h.nox, q⟩
end
section
variable {X : Cx}
end
structure CMeth (K : PySem.W.Frag) (C : Addr) (m : Str) (f : Addr) : Prop where
 ga : PySem.W.specialIn K (.ref C) "__getattribute__" = some (some (.builtin "type.__getattribute__"))
 rd : PySem.W.readsIn K C (.type "type") = true
 fc : PySem.W.findCls K (.ref C) (.type "type") m = some (.val (.ref f))
 kp : PySem.W.keepIn K (.ref f) = true
section
variable {X : Cx} {CX : CXT} {k : Nat} {f C : Addr} {fd : FuncData} {ps : List Str} {sp : Sp} {dvs : List V} {ds : List Value} {E : XK} {x m : Str} {p pos apos : Pos} {e o : Expr} {es : List Expr} {ta : TE} {t : TA}
end
end L2
namespace DL
open PySem PySem.Spec L2
section
variable {cA : Kn} {G : Cn} {ow owN owB owC : List Nat}
def Um (cls : List String) (f : String) (a : Env -> Option D) (δ : Env) : Option D := match a δ with
 | some (.obj c ks xs) => if cls.contains c then (ks.zip xs).lookup f else none
 | _ => none
def Uo (i : Nat) (cls : List String) (f : String) (ε : Env -> Option D) (δ : Env) : Option Out := match ε δ with
 | some d => match Za i δ with
  | some (.obj c ks xs) => if cls.contains c && !ks.contains f && decide (ks.length < 1000) then some (.nx (δ.set i (some (.obj c (ks ++ [f]) (xs ++ [d]))))) else none
  | _ => none
 | none => none
theorem Own.live {av : Addr -> Prop} {H : Hp} {d : D} {a : Addr} (h : Own cA av H d a) : H a ≠ none := by
 cases d with
 | lst xs => obtain ⟨vs, q, _⟩ := h; rw [q]; exact fun z => by cases z
 | obj c ks xs => obtain ⟨dx, vs, q, _⟩ := h; rw [q]; exact fun z => by cases z
 | dct ks xs => obtain ⟨vs, q, _⟩ := h; rw [q]; exact fun z => by cases z
 | dtt ks xs => obtain ⟨vs, q, _⟩ := h; rw [q]; exact fun z => by cases z
 | _ => exact h.elim
theorem Own.av {av av' : Addr -> Prop} {H : Hp} {d : D} {a : Addr} (k : ∀ b, av' b -> av b \/ H b = none) (h : Own cA av H d a) : Own cA av' H d a := by
 cases d with
 | lst xs => obtain ⟨vs, q, l⟩ := h; exact ⟨vs, q, l.av k⟩
 | obj c ks xs => obtain ⟨dx, vs, q, z, l⟩ := h; exact ⟨dx, vs, q, z, l.av k⟩
 | dct ks xs => obtain ⟨vs, q, z, l⟩ := h; exact ⟨vs, q, z, l.av k⟩
 | dtt ks xs => obtain ⟨vs, q, z, l⟩ := h; exact ⟨vs, q, z, l.av k⟩
 | _ => exact h.elim
def Up (c : String) (n : Nat) (m : List D -> Option D) (dds : List D) (α : Env -> Option (List D)) (δ : Env) : Option D := match α δ with
 | some ds => if (D.obj c [] [] :: (ds ++ dds)).length = n then m (.obj c [] [] :: (ds ++ dds)) else none
 | none => none
def Uq (i n : Nat) (m : List D -> Option D) (dds : List D) (α : Env -> Option (List D)) (δ : Env) : Option Out := match Za i δ with
 | some d => match α δ with
  | some ds => if (d :: (ds ++ dds)).length = n then (match m (d :: (ds ++ dds)) with
   | some d' => some (.nx (δ.set i (some d')))
   | none => none) else none
  | none => none
 | none => none
def runI (N : Nat) (φ : Env -> Option Out) (ds : List D) : Option D := match φ (ds.map some ++ List.replicate (N - ds.length) none) with
 | some (.nx δ) => Za 0 δ
 | _ => none
section
variable {P : Program} {w : World} {K : PySem.W.Frag} {mg : Str -> Option Value} {base : Heap}
theorem ZfL {x qual : Str} {st : Stmt} {f : Addr} {fd : FuncData} {N ps : List Str} {k : Nat} {φ : Env -> Option Out} (F : FunX K x qual st f fd) (S : FnScope N ps (Zo st))
 (hbody : ∀ (cdv : Value) (A : Around) (outer : List PySem.Env) (s : Shared) (H : Hp) (E : XK), Room k (A.deeper (PyProof.Rows.envOfC qual (Zo st) s.heap.objs.size f cdv)) ->
   ∃ t, PSs (Xa CX0 P w K mg base N qual (Zo st) f cdv A outer s H E).nox (ZK st) t /\ ∃ owN, VS ⟨cA, fun _ => none⟩ [] owN [] [] t φ) : FnOk P w K mg base CX0 (k + 1) f fd ps (spD cA ps.length (run N.length φ)) := by
 refine F.ok S (fun vs H Q E h => ?_) fun cdv A outer s H vs Q E hr h => ?_
 · obtain ⟨av, ds, d, _, r, hl, _⟩ := h
   rw [<- r.length, hl]
 · obtain ⟨av, ds, d, ha, r, hl, hm, q⟩ := h
   obtain ⟨t, ht, owN, hv⟩ := hbody cdv A outer s H E hr
   refine ⟨t, ht, ?_⟩
   unfold run at hm
   cases hφ : φ (ds.map some ++ List.replicate (N.length - ds.length) none) with
   | none => rw [hφ] at hm; cases hm
   | some o =>
    rw [hφ] at hm
    refine hv H av _ _ H _ (Zbp ha r) o hφ _ ?_
    cases o with
    | nx δ' => cases hm; exact fun A' σ' H' E' => q .non H' E'.same rfl
    | rt d' => cases hm; exact fun v H' s' r' => q v H' s' r'
    | bk δ' => cases hm
    | ct δ' => cases hm
end
abbrev MTab := List (String × (Nat × (List D -> Option D)))
structure MethOk (X : Cx) (cA : Kn) (k : Nat) (m : String) (c : String) (n : Nat) (mm : List D -> Option D) : Prop where
 ex : ∃ f fd ps, Cls X.K (cA.c c) /\ Meth X.K (cA.c c) (Str.ofString m) f /\ FnOk X.prog X.w X.K X.mg X.base CX0 k f fd ps (spD cA n mm) /\ Binds X.K fd ps []
def MTOk (X : Cx) (cA : Kn) (k : Nat) (m : String) : MTab -> Prop
 | [] => True
 | (c, n, mm) :: r => MethOk X cA k m c n mm /\ MTOk X cA k m r
theorem MTOk.get {X : Cx} {k : Nat} {m : String} : ∀ {tab : MTab} {c : String} {n : Nat} {mm : List D -> Option D}, MTOk X cA k m tab -> tab.lookup c = some (n, mm) -> MethOk X cA k m c n mm
 | [], _, _, _, _, h => by simp at h
 | (c', n', mm') :: r, c, n, mm, T, h => by
  rw [List.lookup_cons] at h
  cases hc : c == c' with
  | true =>
   rw [hc] at h
   cases h
   have : c = c' := eq_of_beq hc
   subst this
   exact T.1
  | false =>
   rw [hc] at h
   exact MTOk.get T.2 h
def Ur (m : String) (tab : MTab) (a : Env -> Option D) (α : Env -> Option (List D)) (δ : Env) : Option D := match a δ with
 | some (.obj c ks xs) => if ks.contains m then none else (match tab.lookup c with
  | some (n, mm) => match α δ with
   | some ds => if (D.obj c ks xs :: ds).length = n then mm (.obj c ks xs :: ds) else none
   | none => none
  | none => none)
 | _ => none
def isD : D -> D -> Option D
 | .bl a, .bl b => some (.bl (a == b))
 | _, _ => none
end
end DL
namespace DL
open PySem PySem.Spec L2
def Y3 : Nat -> List D -> List D
 | _, [] => []
 | k, x :: xs => .tup [.int (k : Nat), x] :: Y3 (k + 1) xs
theorem JD : ∀ (k : Nat) (xs : List D), (Y3 k xs).length = xs.length
 | _, [] => rfl
 | k, x :: xs => by rw [Y3, List.length_cons, List.length_cons, JD]
theorem JE : ∀ (k : Nat) (xs : List D) (i : Nat), (Y3 k xs)[i]? = (xs[i]?).map fun x => .tup [.int ((k + i : Nat) : Int), x]
 | _, [], i => by simp [Y3]
 | k, x :: xs, 0 => by simp [Y3]
 | k, x :: xs, i + 1 => by
  rw [Y3, List.getElem?_cons_succ, List.getElem?_cons_succ, JE (k + 1) xs i]
  have : k + 1 + i = k + (i + 1) := by omega
  rw [this]
section
variable {cA : Kn} {G : Cn} {ow : List Nat}
end
end DL
namespace DL
open PySem PySem.Spec L2
section
variable {cA : Kn} {P : Program} {w : World} {K : PySem.W.Frag} {mg : Str -> Option Value} {base : Heap}
theorem Yg {x qual : Str} {st : Stmt} {f : Addr} {fd : FuncData} {N ps : List Str} {k : Nat} {φ : Env -> Option Out} {body : List Stmt} {scope : Scope} {n : Nat} {m : List D -> Option D} (F : FunX K x qual st f fd) (S : FnScope N ps (Zo st)) (hS : Zo st = scope) (hB : ZK st = body)
 (hbody : ∀ (cdv : Value) (A : Around) (outer : List PySem.Env) (s : Shared) (H : Hp) (E : XK), Room k (A.deeper (PyProof.Rows.envOfC qual scope s.heap.objs.size f cdv)) ->
   ∃ t, PSs (Xa CX0 P w K mg base N qual scope f cdv A outer s H E).nox body t /\ ∃ owN, VS ⟨cA, fun _ => none⟩ [] owN [] [] t φ)  (hm : m = run N.length φ) (hn : ps.length = n) : FnOk P w K mg base CX0 (k + 1) f fd ps (spD cA n m) := by
 subst hS hB hm hn
 exact ZfL F S hbody
end
end DL
namespace DL
open PySem PySem.Spec L2 PyProof.Rows
def YQ : List D -> Option (List Int)
 | [] => some []
 | .int b :: r => match YQ r with
  | some bs => some (b :: bs)
  | none => none
 | _ => none
theorem Qo : ∀ {xs : List D} {bs : List Int}, YQ xs = some bs -> xs = bs.map D.int
 | [], bs, h => by cases h; rfl
 | x :: xs, bs, h => by
  cases x <;> first | (cases h; done) | skip
  rename_i b
  unfold YQ at h
  cases hr : YQ xs with
  | none => rw [hr] at h; cases h
  | some cs =>
   rw [hr] at h
   cases h
   rw [List.map_cons, Qo hr]
theorem Qp (bs : List Int) : YQ (bs.map D.int) = some bs := by
 induction bs with
 | nil => rfl
 | cons b bs ih => rw [List.map_cons, YQ, ih]
theorem Qq : ∀ (ns : List Int) (its : List Value), Vals (ns.map V.int) its -> IntsAre its ns
 | [], its, h => by cases h; exact .nil
 | n :: ns, its, h => by
  cases h with
  | cons r1 r2 =>
   obtain ⟨t, rfl⟩ := r1
   exact .cons _ _ (Qq ns _ r2)
def Vk : List Int -> Int
 | [] => 0
 | n :: ns => ns.foldl max n
theorem Zab : ∀ (ns : List Int) (n : Int), (ns.foldl max n = n \/ ns.foldl max n ∈ ns) /\ n <= ns.foldl max n /\ ∀ a ∈ ns, a <= ns.foldl max n
 | [], n => ⟨.inl rfl, Int.le_refl _, fun _ z => nomatch z⟩
 | m :: ns, n => by
  obtain ⟨h1, h2, h3⟩ := Zab ns (max n m)
  rw [List.foldl_cons]
  refine ⟨?_, by omega, fun a ha => ?_⟩
  · rcases h1 with h | h
    · by_cases hm : n <= m
      · exact .inr (by rw [h, Int.max_eq_right hm]; exact List.mem_cons_self)
      · exact .inl (by rw [h, Int.max_eq_left (by omega)])
    · exact .inr (List.mem_cons_of_mem _ h)
  · rcases List.mem_cons.mp ha with rfl | ha
    · omega
    · exact h3 a ha
theorem ZaM {ns : List Int} (h : 0 < ns.length) : Vk ns ∈ ns /\ ∀ a ∈ ns, a <= Vk ns := by
 cases ns with
 | nil => cases h
 | cons n ns =>
  obtain ⟨h1, h2, h3⟩ := Zab ns n
  refine ⟨?_, fun a ha => ?_⟩
  · rcases h1 with h | h
    · show ns.foldl max n ∈ _
      rw [h]; exact List.mem_cons_self
    · exact List.mem_cons_of_mem _ h
  · rcases List.mem_cons.mp ha with rfl | ha
    · exact h2
    · exact h3 a ha
theorem ZcF {ns : List Int} {M : Int} (h1 : M ∈ ns) (h2 : ∀ a ∈ ns, a <= M) : M = Vk ns := by
 obtain ⟨h3, h4⟩ := ZaM (List.length_pos_of_mem h1)
 exact Int.le_antisymm (h4 M h1) (h2 _ h3)
def JF (K : PySem.W.Frag) : List V -> Hp -> VK -> Prop := fun xs H Q => ∃ (p : Addr) (ns : List Int), xs = [.ref p] /\ SqL K H p (ns.map V.int) /\ 0 < ns.length /\ Q (.int (Vk ns)) H
def JG (K : PySem.W.Frag) : List V -> Hp -> VK -> Prop := fun xs H Q => ∃ (p : Addr) (ns : List Int), xs = [.ref p] /\ SqL K H p (ns.map V.int) /\ Q (.int ns.sum) H
section
variable {X : Cx} {K : PySem.W.Frag} {cA : Kn}
theorem ZcG (hc : X.calm = true) : Ye X (.builtin "max") (JF X.K) := by
 intro pins s σ H xs us Q I rs h
 obtain ⟨p, ns, rfl, hq, hne, q⟩ := h
 obtain ⟨u, rfl, rx⟩ := YL rs
 cases rx
 obtain ⟨its, rv, pl, hz⟩ := I.list hq
 have hi := Qq ns its rv
 obtain ⟨ys, e⟩ := hi.allInts.items
 have hns : ns = ys.toList.map (·.1) := by
  rw [<- hi.numsOf, <- nums_intItems, <- e]
 have hsz : 0 < ys.size := by
  have h3 := hne; rw [hns, List.length_map, Array.length_toList] at h3; exact h3
 have hl := pl.isList
 rw [e] at hl
 refine max_intList (I.ok.hd hc) hl hsz fun v h' tk hv hk => ?_
 obtain ⟨t, rfl⟩ := intItems_at hv
 obtain ⟨h1, h2⟩ := argBest_gt (numAt ys) (ys.size - 1)
 have hM := ZcF (ns := ns) (M := numAt ys (argBest (fun i j => decide (numAt ys i > numAt ys j)) (ys.size - 1))) (by
  rw [hns, numAt_eq]; exact getD_mem (by rw [List.length_map, Array.length_toList]; omega)) (fun a ha => by
  rw [hns] at ha
  obtain ⟨j, hj, rfl⟩ := mem_getD ha
  rw [List.length_map, Array.length_toList] at hj
  rw [<- numAt_eq]; exact h2 j (by omega))
 exact ⟨.int (Vk ns), H, I.kept hk, ⟨t, by rw [hM]⟩, q⟩
theorem ZcH (hc : X.calm = true) : Ye X (.builtin "sum") (JG X.K) := by
 intro pins s σ H xs us Q I rs h
 obtain ⟨p, ns, rfl, hq, q⟩ := h
 obtain ⟨u, rfl, rx⟩ := YL rs
 cases rx
 obtain ⟨its, rv, pl, hz⟩ := I.list hq
 have hi := Qq ns its rv
 obtain ⟨ys, e⟩ := hi.allInts.items
 have hns : ns = ys.toList.map (·.1) := by
  rw [<- hi.numsOf, <- nums_intItems, <- e]
 have hl := pl.isList
 rw [e] at hl
 refine sum_intListG (I.ok.hd hc) hl fun h' tk t' hk => ?_
 have e2 : preSum (numAt ys) ys.size = ns.sum := by
  rw [preSum_eq, List.take_of_length_le (by simp), hns]
 exact ⟨.int ns.sum, H, I.kept hk, ⟨t', by rw [e2]⟩, q⟩
theorem Zfo (hc : X.calm = true := by rfl) (hK : X.K = K := by rfl) : Ye X (.builtin "max") (JF K) := hK ▸ ZcG hc
theorem ZdD (hc : X.calm = true := by rfl) (hK : X.K = K := by rfl) : Ye X (.builtin "sum") (JG K) := hK ▸ ZcH hc
def maxLD : List D -> Option D
 | [.lst xs] => match YQ xs with
  | some ns => if 0 < ns.length then some (.int (Vk ns)) else none
  | none => none
 | _ => none
def sumLD : List D -> Option D
 | [.lst xs] => match YQ xs with
  | some ns => some (.int ns.sum)
  | none => none
 | _ => none
theorem Zd9 : Vh cA (JF cA.K) maxLD := fun i H ds vs d _ h e Q k => by
 unfold maxLD at e
 split at e
 · rename_i xs
   cases hb : YQ xs with
   | none => rw [hb] at e; cases e
   | some bs =>
    rw [hb] at e
    dsimp only at e
    by_cases hz : 0 < bs.length
    · rw [if_pos hz] at e
      cases e
      obtain ⟨v, t, rfl, a, ws, rfl, _, rd, l⟩ := il1 h
      have ex := Qo hb
      subst ex
      have ev := l.vals (by rw [List.all_map]; exact List.all_eq_true.mpr fun _ _ => rfl)
      rw [List.map_map] at ev
      subst ev
      exact ⟨a, bs, rfl, rd, hz, k _ H (Same.refl H) rfl⟩
    · rw [if_neg hz] at e; cases e
 · cases e
theorem Zb6 : Vh cA (JG cA.K) sumLD := fun i H ds vs d _ h e Q k => by
 unfold sumLD at e
 split at e
 · rename_i xs
   cases hb : YQ xs with
   | none => rw [hb] at e; cases e
   | some bs =>
    rw [hb] at e
    cases e
    obtain ⟨v, t, rfl, a, ws, rfl, _, rd, l⟩ := il1 h
    have ex := Qo hb
    subst ex
    have ev := l.vals (by rw [List.all_map]; exact List.all_eq_true.mpr fun _ _ => rfl)
    rw [List.map_map] at ev
    subst ev
    exact ⟨a, bs, rfl, rd, k _ H (Same.refl H) rfl⟩
 · cases e
end
end DL
namespace L2
open PySem PySem.Spec PyProof.Rows
section
variable {X : Cx} {scope : Scope} {tn cn : List Str} {js : List Nat} {tg iter elt : Expr} {ifs : List Expr} {pos spos pos' : Pos} {wi : TI} {g : TG} {tt : TT} {te : TE}
theorem Qr {i : Nat} {x : Str} (hN : X.N.Nodup) (hi : X.N[i]? = some x) (hx : X.env.scope.names.lookup x = some .local) (hc : X.calm = true) (S : CompSc X scope tn cn js) (hI : PI X tg iter wi)
 (hg : ∀ C s₂ H₂ fp, PG (YN X scope (tn ++ cn) C s₂ H₂ fp) tg g) (ht : ∀ C s₂ H₂ fp, PTs (YN X scope (tn ++ cn) C s₂ H₂ fp) ifs tt) (he : ∀ C s₂ H₂ fp, PE (YN X scope (tn ++ cn) C s₂ H₂ fp) elt te)
 (hsw : swapsWith (.ListComp elt [⟨tg, iter, ifs, 0⟩] scope pos) (some (.Name x pos')) spos.line X.env = pure true := by rfl)
 (hs : ∀ x, foldedSetIterable iter X.env x = pure x := by intro _; rfl) :
 PS X (.Assign [.Name x pos'] (.ListComp elt [⟨tg, iter, ifs, 0⟩] scope pos) spos) (Xq (Jm wi g tt te tn.length js) (Y6 i)) := by
 intro pins s σ H D I h
 rw [exec_Assign_Name_used _ _ _ _ hsw]
 refine wpAny_bind (wpAny_standAt (wpAny_bind ?_))
 show wpAny _ X.A (do let _ <- comprehension (.ListComp elt [⟨tg, iter, ifs, 0⟩] scope pos) scope X.env _ (newList []) false (eval iter X.env) (some (assign (.Name x pos') X.env))) _ _ s
 refine wpAny_bind (wpAny_mono (wpAny_comprehension_free (use := some (assign (.Name x pos') X.env)) (Q := fun _ s' => SP X pins D .next s') (cl := Yp X.env.cells scope.names []) rfl hs (Zae (S.clos I.ok)) S.kind S.names
  (thn (hI pins s σ H _ I h) fun v s1 h1 => thn h1 fun itv s2 h2 => ?_)) (fun _ s' hq => wpAny_pure (wpAny_pure hq)) fun _ _ e => e)
 obtain ⟨it, fp, tnx, J, H2, e, I2, T, st2, f2, W, ⟨m0, w0⟩, turn⟩ := h2
 subst e
 refine Zar (RR := fun acc C => compPost (model X.prog X.w) X.A X.xe (some (assign (.Name x pos') X.env)) (fun _ s' => SP X pins D .next s') acc C) (W := W) (m0 := m0) hc S hg ht he I2 T st2 f2 w0 fun i' m ys H w => ?_
 rcases turn i' m ys H w with ⟨stop, qn⟩ | r
 · refine .inl ⟨stop, fun C D' s its n σ' hC hD hDC hv hz I' => ?_⟩
   obtain ⟨m', hn, _⟩ := id I'.loc
   have pd := I'.pin (D', { cls := .type "list", data := .seq its.toArray n }) (List.mem_append_right _ List.mem_cons_self)
   have hCf : H C = none := I'.free
   have I1 : Inv X pins σ (upd H D' (.lst ys)) { s with heap := s.heap } := Zbi S I2 hC hD hDC f2 I' hv hz (Heap.SameBut.refl _ _)
   show wpAny _ X.A (assign (.Name x pos') X.env (.ref D')) _ _ _
   have hlC : X.env.locals ≠ C := fun z => absurd (z ▸ I2.lt) (Nat.not_lt.mpr hC)
   have hcC : ∀ y c, X.env.cells.lookup y = some c -> c ≠ C := fun y c e z => by
    obtain ⟨v', o', q, _⟩ := I2.cell y c e
    exact absurd (Heap.lt_size q) (Nat.not_lt.mpr (z ▸ hC))
   refine wpAny_assign_Name (ZaA I1 hN hi (.inl hx) (v := .ref D') rfl (fun s3 I3 ⟨a, hsb, ha⟩ => ?_) (.inr hx))
   have hCa : C ≠ a := by
    rcases ha with rfl | ha
    · exact Ne.symm hlC
    · exact Ne.symm (hcC _ _ ha)
   refine ⟨m', hn.sameBut hsb hCa, fun h' hs' => ?_⟩
   have hCn : upd H D' (.lst ys) C = none := by rw [Zx (Ne.symm hDC)]; exact hCf
   have I4 : Inv X pins (σ.set i (some (.ref D'))) (upd H D' (.lst ys)) { s3 with heap := h', toks := s3.toks } := I3.turned (it := C) (fun b o hb e => (hs'.2 b hb).trans e) hCn (Ne.symm hlC) (.inr (Nat.le_trans (Nat.le_trans I2.ok.above (Nat.le_of_lt I2.lt)) hC)) (fun y c e => hcC y c e) fun p hp z => by
    have := (I2.pin p hp).1
    exact absurd (Heap.lt_size this) (Nat.not_lt.mpr (z ▸ hC))
   exact ⟨_, _, I4, qn D' pd.2.1⟩
 · exact .inr r
end
end L2
namespace PySem
open Builtin SmallTypes
open AutoSeq1 (wpAny_loadPart')
end PySem
namespace PySem
open Sem (wp)
end PySem
namespace PySem
open Sem (wp)
section
variable {P : Program} {w : World} {A : Around} {E : Value -> Shared -> Prop} {s : Shared}
end
end PySem
namespace L2
open PySem PySem.Spec PyProof.Rows
def JH (K : PySem.W.Frag) (n0 : Nat) (l : Addr) : It :=
 ⟨fun i H => ∃ xs x, SqL K H l xs /\ xs[i]? = some x, fun i H v H' => ∃ x p, (∀ xs, SqL K H l xs -> xs[i]? = some x) /\ H p = none /\ v = .ref p /\ H' = upd H p (.tup [.int ((n0 + i : Nat) : Int), x]), fun i H => ∃ xs, SqL K H l xs /\ xs.length <= i⟩
theorem ZcI {prog : Program} {w : World} {A : Around} (hh : A.handled = none) (it l : Addr) (hne : l ≠ it) (its : Array Value) (n0 : Nat) :
 Draws prog w A it [it, l] (n0 + its.size) (fun i v => ∃ j, i = n0 + j /\ its[j]? = some v) (fun i h => ∃ j, i = n0 + j /\ h.IsListIter it l j /\ h.IsList l its) where
 live := fun i h ⟨j, _, st, _⟩ => let ⟨o, ho, _⟩ := st; ⟨o, ho⟩
 frame := fun i h h' ⟨j, e, s1, s2⟩ hk => ⟨j, e, s1.at fun o q => hk it (by simp) o q, s2.at fun o q => hk l (by simp) o q⟩
 item := fun i s Q E hi st hQ => by
  obtain ⟨j, rfl, s1, s2⟩ := st
  have hj : j < its.size := by omega
  refine wpAny_nextOf_list_item s1 s2 (x := its[j]) (by simp [hj]) fun h' st' sb => ?_
  exact hQ _ h' s.toks ⟨j, rfl, by simp [hj]⟩ ⟨j + 1, by omega, st', s2.extBut sb.extBut hne⟩ sb
 done := fun s Q E st hE => by
  obtain ⟨j, e, s1, s2⟩ := st
  exact wpAny_nextOf_list_end hh s1 s2 (by have : j = its.size := by omega
                                           subst this; simp) hE
theorem ZbH {prog : Program} {w : World} {A : Around} (hh : A.handled = none) (it l : Addr) (its : Array Value) (n j : Nat) (hj : its.size <= j) :
 Draws prog w A it [it, l] n (fun _ _ => False) (fun i h => i = n /\ h.IsListIter it l j /\ h.IsList l its) where
 live := fun i h ⟨_, st, _⟩ => let ⟨o, ho, _⟩ := st; ⟨o, ho⟩
 frame := fun i h h' ⟨e, s1, s2⟩ hk => ⟨e, s1.at fun o q => hk it (by simp) o q, s2.at fun o q => hk l (by simp) o q⟩
 item := fun i s Q E hi st hQ => absurd st.1 (by omega)
 done := fun s Q E st hE => wpAny_nextOf_list_end hh st.2.1 st.2.2 (by simp [hj]) hE
theorem ZbI {P : Program} {w : World} {K : PySem.W.Frag} {elts : List Expr} {x1 : Nat} {tpos : Pos} (e it l : Addr) (hne : e ≠ it) (n0 : Nat) :
 Turn P w K (.Tuple elts x1 tpos) (JH K n0 l) [e, it] e (fun i h => (∃ old, IsEnum h e it ((n0 + i : Nat) : Int) old) /\ h.IsListIter it l i) where
 mem := by simp
 obj := fun i h st b hb => by
  obtain ⟨⟨old, he⟩, o, ho, hc, hd⟩ := st
  simp at hb
  rcases hb with rfl | rfl
  · exact ⟨_, he, fun v z => by
     have z' : Data.fields _ = Data.cell v := z
     cases z'⟩
  · exact ⟨o, ho, fun v z => by rw [hd] at z; cases z⟩
 keep := fun i h h' st k => by
  obtain ⟨⟨old, he⟩, s1⟩ := st
  exact ⟨⟨old, k e (by simp) _ he⟩, s1.at fun o q => k it (by simp) o q⟩
 item := by
  intro X hP hw hK hc i pins s σ H E I hf st hg
  subst hP hw hK
  obtain ⟨⟨old, he⟩, st⟩ := st
  obtain ⟨xs, x, hq, hx⟩ := hg
  obtain ⟨its, rv, p, hz⟩ := I.list hq
  obtain ⟨u, hu, ru⟩ := rv.get hx
  have hi : i < its.length := (List.getElem?_eq_some_iff.mp hu).1
  obtain ⟨e0, e1, e2, e3, e4, e5⟩ := hf e (by simp)
  obtain ⟨f0, f1, f2, f3, f4, f5⟩ := hf it (by simp)
  have hLe : l ≠ e := by
   rintro rfl
   obtain ⟨o, ho, hcl, _⟩ := p.isList
   have he' : s.heap.get? l = some _ := he
   rw [he'] at ho
   cases ho
   exact absurd (show Value.type "enumerate" = Value.type "list" from hcl) (by decide)
  have hLi : l ≠ it := by
   rintro rfl
   obtain ⟨o, ho, hcl, _⟩ := p.isList
   obtain ⟨o', ho', hcl', _⟩ := id st
   rw [ho] at ho'
   cases ho'
   rw [hcl] at hcl'
   exact absurd hcl' (by decide)
  have D := ZcI (prog := X.prog) (w := X.w) (A := X.A.in1) (I.ok.hd hc) it l hLi its.toArray n0
  refine wpAny_pyNext_enum_itemD D he ⟨i, rfl, st, p.isList⟩ (by simp; omega) hne (by simp [hne, Ne.symm hLe]) fun y h' tk hP ho st' hT hsz hk => ?_
  obtain ⟨j, ej, hy⟩ := hP
  have ej' : j = i := by omega
  subst ej'
  have hyu : y = u := by
   have : its[j]? = some y := by simpa using hy
   rw [hu] at this
   exact (Option.some.inj this).symm
  subst hyu
  refine ⟨_, rfl, wpAny_letOwnedTupleGo_enum ho fun h2 he2 hs2 => ?_⟩
  have hs2 : Heap.SameBut e h' h2 := hs2
  have hTl : e < s.heap.objs.size := Heap.lt_size he
  obtain ⟨j', ej2, st'', _⟩ := st'
  have ej3 : j' = j + 1 := by omega
  subst ej3
  have hT2 : h2.get? s.heap.objs.size = some { cls := .type "tuple", data := .seq #[.int ((n0 + j : Nat) : Int) tk, y] } := (hs2.2 _ (Nat.ne_of_gt hTl)).trans hT
  have k2 : ∀ b o, b ≠ e -> b ≠ it -> s.heap.get? b = some o -> h2.get? b = some o := fun b o hb hb' q => (hs2.2 b hb).trans (hk b o hb hb' q)
  have hTn : H s.heap.objs.size = none := I.hok.fresh (Nat.le_refl _)
  have neT : ∀ b o, s.heap.get? b = some o -> b ≠ s.heap.objs.size := fun b o q => Nat.ne_of_lt (Heap.lt_size q)
  have I2 : Inv X pins σ (upd H s.heap.objs.size (.tup [.int ((n0 + j : Nat) : Int), x])) { s with heap := h2, toks := tk + 1 } := by
   refine I.step (g' := s.gens) (d' := s.drawn) (ch := [e, it]) (fun b hb => ?_) (fun b o _ _ hcb q _ => ?_) (fun b o _ _ hcb q _ => ?_) (fun b o hcb q n => ?_) (fun b o hcb q => ?_) (fun b xs q => ?_) (fun b o v q => ?_) (fun b ps q => ?_) (fun m hm => ?_) (fun b o q => ?_) I.bare
   · simp at hb
     rcases hb with rfl | rfl
     · exact ⟨e3, e1, e4, e5⟩
     · exact ⟨f3, f1, f4, f5⟩
   · simp at hcb
     exact k2 b o hcb.1 hcb.2 q
   · simp at hcb
     exact ⟨o.slots, k2 b o hcb.1 hcb.2 q⟩
   · rw [Zx (neT b o q)]
     exact n
   · simp at hcb
     exact ⟨o, k2 b o hcb.1 hcb.2 q⟩
   · rw [Zx (Z1 q hTn)]
     exact q
   · rw [Zx (Z1 q hTn)]
     exact q
   · exact ⟨#[], by rw [Zx (Z1 q hTn), q]; simp⟩
   · obtain ⟨o, es, ep, q, r⟩ := hm
     exact ⟨o, es, ep, k2 _ o (Ne.symm e1) (Ne.symm f1) q, r⟩
   · by_cases hb : b = s.heap.objs.size
     · subst hb
       rw [Z7] at q
       cases q
       refine ⟨by show 2 <= sizeLine; decide, [.int ((n0 + j : Nat) : Int) tk, y], .cons ⟨_, rfl⟩ (.cons ru .nil), ?_⟩
       exact ⟨_, hT2, rfl, ⟨_, rfl⟩, rfl⟩
     · rw [Zx hb] at q
       have nn : ∀ (b : Addr) (o : HO), H b = some o -> b ≠ e /\ b ≠ it := fun b o q => ⟨fun z => (by rw [z, e0] at q; cases q), fun z => (by rw [z, f0] at q; cases q)⟩
       refine (I.hok b o q).stay (fun d v hd q' => ?_) (fun d q' => by rw [Zx (Z1 q' hTn)]; exact q') fun d xs q' => by rw [Zx (Z1 q' hTn)]; exact q'
       rcases hd with rfl | hd
       · exact k2 d v (nn d o q).1 (nn d o q).2 q'
       · exact k2 d v (nn d _ hd).1 (nn d _ hd).2 q'
  have he3 : IsEnum h2 e it ((n0 + (j + 1) : Nat) : Int) y := by
   have : ((n0 + (j + 1) : Nat) : Int) = ((n0 + j : Nat) : Int) + 1 := by push_cast; omega
   rw [this]
   exact he2
  refine ⟨.ref s.heap.objs.size, _, I2, rfl, ⟨x, s.heap.objs.size, fun ys hy => by rw [I.list_inj hy hq]; exact hx, hTn, rfl, rfl⟩, ⟨⟨_, he3⟩, ?_⟩, fun b hb => ?_⟩
  · obtain ⟨o, ho', r⟩ := st''
    exact ⟨o, (hs2.2 it (Ne.symm hne)).trans ho', r⟩
  · simp at hb
    rcases hb with rfl | rfl
    · rw [Zx (Nat.ne_of_lt hTl)]; exact e0
    · obtain ⟨o, ho', _⟩ := st
      rw [Zx (neT _ o ho')]; exact f0
 done := by
  intro X hP hw hK hc i pins s σ H E I hf st hg
  subst hP hw hK
  obtain ⟨⟨old, he⟩, st⟩ := st
  obtain ⟨xs, hq, hx⟩ := hg
  obtain ⟨its, rv, p, hz⟩ := I.list hq
  have hl := rv.length
  obtain ⟨f0, f1, f2, f3, f4, f5⟩ := hf it (by simp)
  have D := ZbH (prog := X.prog) (w := X.w) (A := X.A.in1) (I.ok.hd hc) it l its.toArray (n0 + i) i (by simp; omega)
  exact wpAny_pyNext_enum_endD D he ⟨rfl, st, p.isList⟩ fun h' eb => ⟨rfl, I.turned (t' := s.toks) (fun b o hb q => eb b o hb q) f0 f1 f3 f4 f5⟩
 self := fun _ _ _ _ _ st h => by
  obtain ⟨⟨old, he⟩, _⟩ := st
  exact wpAny_pyIter_enum he h
end L2
namespace L2
open PySem PySem.Spec PyProof.Rows
section
variable {X : Cx} {elts : List Expr} {x1 : Nat} {tpos : Pos}
end
end L2
namespace DL
open PySem PySem.Spec L2
section
variable {cA : Kn} {G : Cn} {ow : List Nat}
def Us (k : Nat) (ε : Env -> Option D) (δ : Env) : Option (List D) := match ε δ with
 | some (.lst xs) => some (Y3 k xs)
 | _ => none
theorem Za6 {iv : Addr -> Prop} {H0 : Hp} {a : Addr} {vs : List V} {xs : List D} {n0 : Nat} (rd : SqL cA.K H0 a vs) (l : RepL cA iv H0 xs vs) : Vj cA iv (JH cA.K n0 a) (Y3 n0 xs) H0 := fun H s => by
 have rd' : SqL cA.K H a vs := s.seq rd
 refine ⟨fun i hi => ?_, fun i x v H' hx y => ?_, fun i hi => ⟨vs, rd', by rw [JD] at hi; rw [<- l.length]; exact hi⟩⟩
 · rw [JD] at hi
   obtain ⟨v, hv, _⟩ := l.get (List.getElem?_eq_getElem hi)
   exact ⟨vs, v, rd', hv⟩
 · obtain ⟨z, p, hy, hp, rfl, rfl⟩ := y
   rw [JE] at hx
   cases hxi : xs[i]? with
   | none => rw [hxi] at hx; cases hx
   | some d =>
    rw [hxi] at hx
    cases hx
    obtain ⟨v', hv, r⟩ := l.get hxi
    rw [hy vs rd'] at hv
    cases hv
    refine ⟨Z8 hp, fun av' h1 h2 => ?_⟩
    unfold Rep
    exact ⟨p, _, rfl, fun z => h1 p z hp, Z7, .cons rfl (.cons (((r.av h2).same s).same (Z8 hp)) .nil)⟩
end
end DL
namespace PySem
open Builtin SmallTypes
open AutoSeq1 (wpAny_loadPart')
end PySem
namespace PySem
section
variable {P : Program} {w : World} {A : Around} {E : Value -> Shared -> Prop} {s : Shared}
end
end PySem
namespace L2
open PySem PySem.Spec PyProof.Rows
section
variable {X : Cx} {elts : List Expr} {x1 : Nat} {tpos : Pos}
end
end L2
namespace DL
open PySem PySem.Spec L2
section
variable {cA : Kn} {G : Cn} {ow : List Nat}
end
end DL
namespace DL
open PySem PySem.Spec L2 PyProof.Rows
def Wd (i : Int) : Prop := i.natAbs < 2 ^ 8000
instance (i : Int) : Decidable (Wd i) := by unfold Wd; infer_instance
def CMulW (i j : Int) : Prop := (Wd i /\ Wd j) \/ CMul i j
instance (i j : Int) : Decidable (CMulW i j) := by unfold CMulW; infer_instance
def VQ (_ j : Int) : Prop := j ≠ 0 /\ Wd j
instance (i j : Int) : Decidable (VQ i j) := by unfold VQ; infer_instance
instance (i j : Int) : Decidable (Vc i j) := by unfold Vc; infer_instance
theorem ZdE {i : Int} (h : Wd i) (h0 : i ≠ 0) : i.natAbs.log2 < 8000 := (Nat.log2_lt (by omega)).mpr h
theorem CMulW.ok {i j : Int} (h : CMulW i j) : IntMulOk i j := by
 rcases h with ⟨h1, h2⟩ | h
 · have bits : ∀ {a : Int}, Wd a -> Builtin.Int.intBits a <= 2 ^ 20 := fun {a} ha => by
    unfold Builtin.Int.intBits
    by_cases h0 : a = 0
    · subst h0; decide
    · have := ZdE ha h0
      have e : (2 : Nat) ^ 20 = 1048576 := by decide
      rw [e]
      split <;> omega
   exact .of_bits (bits h1) (bits h2)
 · exact h.ok
section
variable {X : Cx} {cA : Kn}
theorem op_mulW : OpR X (binaryOp .Mult) (rI CMulW fun i j => .int (i * j)) := opI fun _ _ _ _ _ _ _ hc q => mul_int q hc.ok
theorem XU : OpR X (binaryOp .FloorDiv) (rI VQ fun i j => .int (i.fdiv j)) := opI fun _ _ _ _ _ _ _ hc q => floordiv_int hc.1 q (.inl (PyProof.noPylong_of_log2 (Nat.lt_trans (ZdE hc.2 hc.1) (by decide))))
def fdivW : D -> D -> Option D
 | .int i, .int j => if VQ i j then some (.int (i.fdiv j)) else none
 | _, _ => none
def modW : D -> D -> Option D
 | .int i, .int j => if j ≠ 0 then some (.int (i.fmod j)) else none
 | _, _ => none
def powW : D -> D -> Option D
 | .int i, .int j => if Vc i j then some (.int (i ^ j.toNat)) else none
 | _, _ => none
theorem JI {C : Int -> Int -> Prop} [∀ i j, Decidable (C i j)] {g : Int -> Int -> Int} {f : D -> D -> Option D} (hf : ∀ x y d, f x y = some d -> ∃ i j, x = .int i /\ y = .int j /\ C i j /\ d = .int (g i j)) : YC cA (rI C fun i j => .int (g i j)) f := fun t t' i H x y vx vy d _ hx hy e Q k => by
 obtain ⟨a, b, rfl, rfl, hc, rfl⟩ := hf x y d e
 cases (show vx = _ from hx); cases (show vy = _ from hy)
 exact ⟨_, _, rfl, rfl, hc, k _ H (Same.refl H) rfl⟩
theorem XV : YC cA (rI VQ fun i j => .int (i.fdiv j)) fdivW := JI fun x y d e => by
 cases x <;> cases y <;> first | (cases e; done) | skip
 rename_i a b
 dsimp only [fdivW] at e
 by_cases hz : VQ a b
 · rw [if_pos hz] at e; cases e; exact ⟨_, _, rfl, rfl, hz, rfl⟩
 · rw [if_neg hz] at e; cases e
theorem Xz : YC cA (rI (fun _ j => j ≠ 0) fun i j => .int (i.fmod j)) modW := JI fun x y d e => by
 cases x <;> cases y <;> first | (cases e; done) | skip
 rename_i a b
 dsimp only [modW] at e
 by_cases hz : b ≠ 0
 · rw [if_pos hz] at e; cases e; exact ⟨_, _, rfl, rfl, hz, rfl⟩
 · rw [if_neg hz] at e; cases e
theorem Zea : YC cA (rI Vc fun i j => .int (i ^ j.toNat)) powW := JI fun x y d e => by
 cases x <;> cases y <;> first | (cases e; done) | skip
 rename_i a b
 dsimp only [powW] at e
 by_cases hz : Vc a b
 · rw [if_pos hz] at e; cases e; exact ⟨_, _, rfl, rfl, hz, rfl⟩
 · rw [if_neg hz] at e; cases e
def rAbs : List V -> Hp -> VK -> Prop := fun xs H Q => ∃ i, xs = [.int i] /\ Q (.int (if i < 0 then -i else i)) H
theorem ZcJ : Ye X (.builtin "abs") rAbs := by
 intro pins s σ H xs us Q I rs h
 obtain ⟨i, rfl, q⟩ := h
 obtain ⟨u, rfl, t, rfl⟩ := YL rs
 exact call_abs_int fun u tk => ⟨.int _, H, I.tok _, ⟨_, rfl⟩, q⟩
def absD : List D -> Option D
 | [.int i] => some (.int (if i < 0 then -i else i))
 | _ => none
theorem Zfp : Vh cA rAbs absD := fun i H ds vs d _ h e Q k => by
 unfold absD at e
 split at e
 · rename_i j
   cases e
   obtain ⟨v, t, rfl, hv⟩ := il1 h
   cases (show v = _ from hv)
   exact ⟨_, rfl, k _ H (Same.refl H) rfl⟩
 · cases e
end
end DL
namespace L2
open PySem PySem.Spec PySem.W PyProof.Rows
def bmV : List Value := [.type "ValueError", .type "Exception", .type "BaseException", .type "object"]
section
variable {X : Cx} {E : XK} {C : Addr} {x : Str} {p cpos pos : Pos} {e : Expr} {es : List Expr} {t : TA}
end
def CX1 (P : Program) (w : World) : CXT := fun outer H s E ev s' => ∃ (ea : Addr) (cls a0 : Value) (B : Heap) (H' : Hp), ev = .ref ea /\ s'.os = s.os /\ AllBare s'.gens /\ Heap.FlyingW B outer ea cls a0 s'.heap /\
 (∀ b o, s.heap.get? b = some o -> H b = none -> b ∉ frs outer -> B.get? b = some o) /\ HOk P w H' B /\ Same H H' /\ (∀ b o, s.heap.get? b = some o -> H b = none -> H' b = none) /\ (∀ b o, s.heap.get? b = some o -> b ∈ frs outer -> ∃ sl, s'.heap.get? b = some { o with slots := sl }) /\ E cls none H'
section
variable {P : Program} {w : World} {K : PySem.W.Frag} {mg : Str -> Option Value} {base : Heap} {N : List Str} {qual : Str} {scope : Scope} {f : Addr} {cd : Value} {A : Around} {outer : List Env} {s : Shared} {H : Hp} {E : XK}
end
end L2
namespace L2
open PySem PySem.Spec PySem.W PyProof.Rows PySem.Calls PySem.Builtin PySem.Builtin.ObjectAttr PySem.Builtin.Getset_descriptor
def ZfM (e : Addr) (C : Value) (hp : Heap) : Prop := ∃ o : Obj, hp.get? e = some o /\ o.cls = C
structure ExCls (K : PySem.W.Frag) (C : Addr) : Prop where
 ex : excIn K C bmV "ValueError.__new__" = true
 ga : findIn K (.ref C) "__getattribute__" = some (some (.builtin "BaseException.__getattribute__"))
 mb : mroIn K C (.type "BaseException") = some true
 gt : findIn K (.ref C) "__getattr__" = some none
 ca : findIn K (.ref C) "__class__" = some (some (.builtin "object.__class__"))
 cg : specialIn K (.builtin "object.__class__") "__get__" = some (some (.builtin "getset_descriptor.__get__"))
 ct : takesIn K (.builtin "object.__class__") = some true
 mo : mroIn K C (.type "object") = some true
 cl : (clsIn K C).isSome = true
section
variable {P : Program} {w : World} {A : Around} {E : Value -> Shared -> Prop} {s : Shared} {K : PySem.W.Frag} {e C : Addr}
end
end L2
namespace L2
open PySem PySem.Spec PySem.W PyProof.Rows
theorem ObjOk.there {P : Program} {w : World} {H : Hp} {hp : Heap} {a : Addr} {o : HO} (x : ObjOk P w H hp a o) : ∃ u, hp.get? a = some u := by
 cases o with
 | lst xs => obtain ⟨_, _, _, _, e⟩ := x; exact ⟨_, e⟩
 | tup xs => obtain ⟨_, _, _, ob, e, _⟩ := x; exact ⟨_, e⟩
 | dK kvs => obtain ⟨_, _, _, _, o, _, _, e, _⟩ := x; exact ⟨_, e⟩
 | dT kvs => obtain ⟨_, _, _, _, o, _, _, e, _⟩ := x; exact ⟨_, e⟩
 | set S n => obtain ⟨o, _, _, _, e, _⟩ := x; exact ⟨_, e⟩
 | ins C dx fs => obtain ⟨_, _, _, e, _⟩ := x; exact ⟨_, e⟩
 | own y => exact x
 | xd fs => obtain ⟨_, ⟨_, _, _, e, _⟩, _⟩ := x; exact ⟨_, e⟩
 | rng lo hi => obtain ⟨_, _, _, e⟩ := x; exact ⟨_, e⟩
 | frz ob u => obtain ⟨e, _⟩ := x; exact ⟨_, e⟩
 | tbl ps => exact ⟨_, x⟩
 | met f y => exact ⟨_, x⟩
 | ext φ => exact x.2.1
section
variable {X : Cx} {pins : List (Addr × Obj)} {σ : St} {H H' : Hp} {s s' : Shared} {B hp : Heap} {ea : Addr} {C : Value}
end
section
variable {X : Cx} {E : XK}
end
end L2
namespace L2
open PySem PySem.Spec PySem.W PyProof.Rows
section
variable {X : Cx} {G : Addr} {g n : Str} {i : Nat} {body suite : List Stmt} {b₀ : Stmt} {gp hpos pos : Pos} {tb : XK -> TS} {ts : Addr -> Addr -> TS}
end
end L2
namespace DL
open PySem PySem.Spec L2
def spX (cA : Kn) (n : Nat) (m : List D -> Option D) (x : List D -> Option String) : Sp := fun vs H Q E => spD cA n m vs H Q E \/
 ∃ (av : Addr -> Prop) (ds : List D) (c : String), (∀ a, av a -> H a ≠ none) /\ RepL cA av H ds vs /\ ds.length = n /\ x ds = some c /\ ∀ H', Same H H' -> E (.ref (cA.c c)) none H'
def VX (G : Cn) (ow : List Nat) (E : XK) (ts : TS) (χ : Env -> Option String) : Prop :=
 ∀ H0 av A σ H δ, ER G ow H0 av A σ H δ -> ∀ c, χ δ = some c -> (∀ H', Same H0 H' -> E (.ref (G.1.c c)) none H') -> ∀ De : Ends, ts De σ H
section
variable {cA : Kn} {G : Cn} {ow ow1 owB owC owN : List Nat} {E : XK}
end
section
variable {P : Program} {w : World} {K : PySem.W.Frag} {mg : Str -> Option Value} {base : Heap} {cA : Kn}
end
end DL
namespace DL
open PySem PySem.Spec L2
def Zhd (K : PySem.W.Frag) (cA : Kn) (v : V) (tab : List (String × Bool)) : Prop := ∀ c b, tab.lookup c = some b -> ∃ cv, (∀ u, RelV v u -> u = cv) /\ PySem.W.kitOne K (.ref (cA.c c)) cv = some b
inductive IsiEs (K : PySem.W.Frag) (cA : Kn) : List V -> List (List (String × Bool)) -> Prop where
 | nil : IsiEs K cA [] []
 | cons {v : V} {t : List (String × Bool)} {vs : List V} {ts : List (List (String × Bool))} : Zhd K cA v t -> IsiEs K cA vs ts -> IsiEs K cA (v :: vs) (t :: ts)
section
variable {cA : Kn} {G : Cn} {ow owB owC : List Nat}
theorem ER.none {H0 H : Hp} {av : Addr -> Prop} {A : Nat -> Option Addr} {σ : L2.St} {δ : Env} {i : Nat} {x : Option V} (R : ER G ow H0 av A σ H δ) (hi : ow.contains i = false) (hn : G.2 i = Option.none) : ER G ow H0 av A (σ.set i x) H (δ.set i Option.none) :=
 ⟨R.same, R.avd, R.fr, R.inj, R.live, R.dom, R.dom', by rw [List.length_set, List.length_set]; exact R.len, R.pin, (fun j v' e => by
   have q : j ≠ i := fun z => by rw [z, hn] at e; cases e
   rw [List.getElem?_set_ne (Ne.symm q)]; exact R.kept j v' e), fun j d e => by
   have hj : j ≠ i := by
    intro z
    subst z
    by_cases hl : j < δ.length
    · rw [List.getElem?_set_self hl] at e; cases e
    · rw [List.getElem?_eq_none (by rw [List.length_set]; omega)] at e; cases e
   rw [List.getElem?_set_ne (Ne.symm hj)] at e
   obtain ⟨v, h1, h2⟩ := R.var j d e
   exact ⟨v, by rw [List.getElem?_set_ne (Ne.symm hj)]; exact h1, h2⟩⟩
end
end DL
namespace L2
open PySem PySem.Spec PyProof.Rows
section
variable {X : Cx}
def ZeO (K : PySem.W.Frag) : R2 := fun x y H Q => ∃ l b xs zs, x = .ref l /\ y = .ref b /\ SqL K H l xs /\ SqL K H b zs /\ xs.length + zs.length <= sizeLine /\ ∀ p, H p = none -> Q (.ref p) (upd H p (.lst (xs ++ zs)))
theorem Zeb : OpR X (binaryOp .Add) (ZeO X.K) := by
 intro pins s σ H x y v u Q I rx ry h
 obtain ⟨l, b, xs, zs, rfl, rfl, hH, hB, hz, q⟩ := h
 cases rx
 cases ry
 obtain ⟨its, r, pl, _⟩ := I.list hH
 obtain ⟨its2, r2, pl2, _⟩ := I.list hB
 obtain ⟨⟨c1, d1, da1, sl1⟩, n1, g1, e1, e2, e3⟩ := pl
 obtain ⟨⟨c2, d2, da2, sl2⟩, n2, g2, f1, f2, f3⟩ := pl2
 dsimp only at e1 e2 e3 f1 f2 f3
 subst e1 e2 e3 f1 f2 f3
 have hl := r.length
 have hl2 := r2.length
 refine concat_meets ⟨_, g1, rfl⟩ ⟨_, g2, rfl⟩ noFill_list_add seq_list_add PySem.F.slot_list_add PySem.F.entry_list_add (PySem.F.args_list_add_2 _ _) (list_addW l b its.toArray its2.toArray n1 n2 none none sl1 sl2 (by rw [List.size_toArray, List.size_toArray]; omega)) ⟨g1, g2, ?_⟩
 have ea : its.toArray ++ its2.toArray = (its ++ its2).toArray := by simp
 rw [ea]
 exact ⟨.ref _, _, I.lnew (t' := s.toks) (r.append r2) (by rw [List.length_append]; omega), rfl, q _ I.fresh⟩
def ZeP (K : PySem.W.Frag) : R2 := fun x y H Q => ∃ l k xs, x = .ref l /\ y = .int k /\ SqL K H l xs /\ -(2 ^ 63) <= k /\ k < 2 ^ 63 /\ xs.length * k.toNat <= sizeLine /\ ∀ p, H p = none -> Q (.ref p) (upd H p (.lst (List.replicate k.toNat xs).flatten))
theorem Zec : OpR X (binaryOp .Mult) (ZeP X.K) := by
 intro pins s σ H x y v u Q I rx ry h
 obtain ⟨l, k, xs, rfl, rfl, hH, h1, h2, hz, q⟩ := h
 cases rx
 obtain ⟨t, rfl⟩ := ry
 obtain ⟨its, r, pl, _⟩ := I.list hH
 obtain ⟨⟨c1, d1, da1, sl1⟩, n1, g1, e1, e2, e3⟩ := pl
 dsimp only at e1 e2 e3
 subst e1 e2 e3
 have hl := r.length
 have hlen : its.toArray.size * k.toNat <= sizeLine := by rw [List.size_toArray, <- hl]; exact hz
 have hcap : ¬ its.toArray.size * k.toNat > (2 ^ 63 - 1) / 8 := by
  have : (sizeLine : Nat) <= (2 ^ 63 - 1) / 8 := by decide
  omega
 have hfit : ¬ (!Builtin.List.listFitsIndex k) = true := by
  rw [fitsIndex_both h1 h2]
  exact Bool.false_ne_true
 have hlong : ¬ Builtin.List.listTooLong (its.toArray.size * k.toNat) = true := by
  rw [ZcY hlen]
  exact Bool.false_ne_true
 have hnew : List.foldl (fun x1 x2 => x1 ++ x2) #[] (List.replicate (if its.toArray.isEmpty = true then 0 else k.toNat) its.toArray) = (List.replicate k.toNat its).flatten.toArray := by
  have f0 : ∀ m : Nat, List.foldl (fun x1 x2 => x1 ++ x2) #[] (List.replicate m its.toArray) = (List.replicate m its).flatten.toArray := fun m => by
   have := ZaH its m []
   rw [List.nil_append] at this
   exact this
  rw [f0]
  cases its with
  | nil => simp
  | cons a r' => rw [if_neg (by simp)]
 refine wpAny_binaryOp_repeat_ref (T := "list") (U := "int") (by decide) ⟨_, g1, rfl⟩ (fun s' => typeIs_int s' k t) noFill_list_mul F.fills_int_mul F.slot_int_rmul repeat_list F.slot_int_index.lookup
  (call_meets F.slot_int_rmul (typeIs_int s k t) F.entry_int_rmul (F.args_int_rmul_2 _ _) (lm_int_rmul_list_any k t l its.toArray n1 none sl1)
    ⟨g1, rfl, ⟨_, g1, rfl⟩, call_meets F.slot_list_mul ⟨_, g1, rfl⟩ F.entry_list_mul (F.args_list_mul_2 _ _) (lm_list_mul_any l its.toArray n1 none sl1 k t hfit hcap hlong) ⟨g1, ?_⟩⟩)
 rw [hnew]
 exact ⟨.ref _, _, I.lnew (t' := s.toks) (r.rep k.toNat) (by rw [Zd4, Nat.mul_comm]; exact hz), rfl, q _ I.fresh⟩
def Qs (K : PySem.W.Frag) : R2 := fun x y H Q => rI0 (fun i j => .int (i + j)) x y H Q \/ rAddS x y H Q \/ ZeO K x y H Q
theorem Zed : OpR X (binaryOp .Add) (Qs X.K) := op_add.or (op_addS.or Zeb)
theorem YE {K : PySem.W.Frag} (hK : X.K = K := by rfl) : OpR X (binaryOp .Add) (Qs K) := hK ▸ Zed
def Qt (K : PySem.W.Frag) : R2 := fun x y H Q => rI DL.CMulW (fun i j => .int (i * j)) x y H Q \/ DL.rMulS x y H Q \/ ZeP K x y H Q
theorem Zee : OpR X (binaryOp .Mult) (Qt X.K) := DL.op_mulW.or (DL.op_mulS.or Zec)
theorem YF {K : PySem.W.Frag} (hK : X.K = K := by rfl) : OpR X (binaryOp .Mult) (Qt K) := hK ▸ Zee
end
end L2
namespace DL
open PySem PySem.Spec L2
section
variable {cA : Kn} {G : Cn} {ow owB owC : List Nat}
theorem Zb7 {i : Addr -> Prop} {H : Hp} {p : Addr} {xs : List D} {vs : List V} (hi : ∀ a, i a -> H a ≠ none) (hp : H p = none) (l : RepL cA i H xs vs) : Rep cA i (upd H p (.lst vs)) (.lst xs) (.ref p) := by
 unfold Rep
 exact ⟨p, vs, rfl, fun z => (hi p z hp).elim, SqL.of Z7, l.same (Z8 hp)⟩
def addX : D -> D -> Option D
 | .lst a, .lst b => if a.length + b.length <= sizeLine then some (.lst (a ++ b)) else none
 | x, y => addD x y
theorem YG : YC cA (Qs cA.K) addX := fun t t' i H x y vx vy d hi hx hy e Q k => by
 have old : addD x y = some d -> Qs cA.K vx vy H Q := fun e => by
  rcases (Zfk (cA := cA) t t' i H x y vx vy d hi hx hy e Q k) with h | h | h
  · exact .inl h
  · exact .inr (.inl h)
  · obtain ⟨l, b, xs, zs, e1, e2, h1, h2, h3, h4⟩ := h
    exact .inr (.inr ⟨l, b, xs, zs, e1, e2, SqL.of h1, SqL.of h2, h3, h4⟩)
 cases x with
 | lst a =>
  cases y with
  | lst b =>
   dsimp only [addX] at e
   by_cases hz : a.length + b.length <= sizeLine
   · rw [if_pos hz] at e
     cases e
     obtain ⟨a1, vs1, rfl, _, r1, l1⟩ := hx
     obtain ⟨a2, vs2, rfl, _, r2, l2⟩ := hy
     exact .inr (.inr ⟨a1, a2, vs1, vs2, rfl, rfl, r1, r2, by rw [<- l1.length, <- l2.length]; exact hz, fun p hp => k _ _ (Z8 hp) (Zb7 hi hp (l1.append l2))⟩)
   · rw [if_neg hz] at e; cases e
  | _ => exact old e
 | _ => exact old e
theorem RepL.rep {av : Addr -> Prop} {H : Hp} {xs : List D} {vs : List V} (l : RepL cA av H xs vs) : ∀ n : Nat, RepL cA av H (List.replicate n xs).flatten (List.replicate n vs).flatten
 | 0 => .nil
 | n + 1 => by
  rw [List.replicate_succ, List.replicate_succ, List.flatten_cons, List.flatten_cons]
  exact l.append (RepL.rep l n)
def mulX : D -> D -> Option D
 | .int i, .int j => if CMulW i j then some (.int (i * j)) else none
 | .str a, .int n => if n < 2 ^ 63 /\ -(2 ^ 63) <= n /\ a.length * n.toNat <= sizeLine then some (.str (VH a n)) else none
 | .lst a, .int n => if n < 2 ^ 63 /\ -(2 ^ 63) <= n /\ a.length * n.toNat <= sizeLine then some (.lst (List.replicate n.toNat a).flatten) else none
 | _, _ => none
theorem Y4 : YC cA (Qt cA.K) mulX := fun t t' i H x y vx vy d hi hx hy e Q k => by
 cases x <;> cases y <;> first | (cases e; done) | skip
 · cases (show vx = _ from hx); cases (show vy = _ from hy)
   rename_i a b
   dsimp only [mulX] at e
   by_cases hz : CMulW a b
   · rw [if_pos hz] at e
     cases e
     exact .inl ⟨_, _, rfl, rfl, hz, k _ H (Same.refl H) rfl⟩
   · rw [if_neg hz] at e; cases e
 · cases (show vx = _ from hx); cases (show vy = _ from hy)
   rename_i a n
   dsimp only [mulX] at e
   by_cases hz : n < 2 ^ 63 /\ -(2 ^ 63) <= n /\ a.length * n.toNat <= sizeLine
   · rw [if_pos hz] at e
     cases e
     exact .inr (.inl ⟨_, _, rfl, rfl, hz, k _ H (Same.refl H) rfl⟩)
   · rw [if_neg hz] at e; cases e
 · rename_i a n
   cases (show vy = _ from hy)
   dsimp only [mulX] at e
   by_cases hz : n < 2 ^ 63 /\ -(2 ^ 63) <= n /\ a.length * n.toNat <= sizeLine
   · rw [if_pos hz] at e
     cases e
     obtain ⟨a1, vs1, rfl, _, r1, l1⟩ := hx
     exact .inr (.inr ⟨a1, n, vs1, rfl, rfl, r1, hz.2.1, hz.1, by rw [<- l1.length]; exact hz.2.2, fun p hp => k _ _ (Z8 hp) (Zb7 hi hp (l1.rep n.toNat))⟩)
   · rw [if_neg hz] at e; cases e
def YR (i : Nat) (κ ε : Env -> Option D) (δ : Env) : Option Out := match ε δ with
 | some d => match Za i δ with
  | some (.lst xs) => match κ δ with
   | some (.int k) => match ixN xs.length k with
    | some j => some (.nx (δ.set i (some (.lst (xs.set j d)))))
    | none => none
   | _ => none
  | _ => none
 | none => none
theorem JJ {te ti : TE} {q : Ql} {ε κ : Env -> Option D} (i : Nat) (hi : ow.contains i = true) (h : VE G ow te .cl ε) (hk : VE G ow ti q κ) : VS G ow ow owB owC (Xq te (ZgQ (Vr i) ti rSetL)) (YR i κ ε) := fun H0 av A σ H δ E o e De k => by
 unfold YR at e
 cases he : ε δ with
 | none => rw [he] at e; cases e
 | some d =>
  rw [he] at e
  dsimp only at e
  cases hv : Za i δ with
  | none => rw [hv] at e; cases e
  | some x =>
   rw [hv] at e
   cases x <;> first | (cases e; done) | skip
   rename_i xs
   dsimp only at e
   cases hq : κ δ with
   | none => rw [hq] at e; cases e
   | some y =>
    rw [hq] at e
    cases y <;> first | (cases e; done) | skip
    rename_i n
    dsimp only at e
    cases hj : ixN xs.length n with
    | none => rw [hj] at e; cases e
    | some j =>
     rw [hj] at e
     cases e
     have hi' : i ∈ ow := by simpa using hi
     cases hA : A i with
     | none => exact absurd hA (E.dom' i hi')
     | some a =>
      refine h H0 av A σ H δ E d he _ fun v H1 s1 r1 => ?_
      have E1 := E.mono s1
      obtain ⟨v0, h1, _, h3⟩ := E1.var i _ (VC hv)
      obtain ⟨rfl, vs, q1, q2⟩ := h3 a hA
      refine ⟨_, h1, hk H0 av A σ H1 δ E1 _ hq _ fun y H2 s2 r2 => ?_⟩
      have ey : y = .int n := r2.any
      subst ey
      have E2 := E1.mono s2
      have q1' := s2 _ _ q1
      refine ⟨a, vs, n, j, rfl, rfl, q1', by rw [<- q2.length]; exact hj, k A σ _ (E2.put hA (VC hv) (fun b o hb e => by rw [Zx hb]; exact e) (by rw [Z7]; exact fun z => by cases z) ⟨_, Z7, ?_⟩)⟩
      have ex : ∀ b o, ¬ AV av A b -> H2 b = some o -> upd H2 a (.lst (vs.set j v)) b = some o := fun b o nb e => by
       rw [Zx fun z => nb (.inr ⟨i, by rw [z]; exact hA⟩)]
       exact e
      exact (((q2.same s2).set ((RepT.r r1).same s2) j)).ext ex
end
end DL
namespace L2
open PySem PySem.W
end L2
namespace DL
open L2
theorem VX.frz {G : Cn} {ow ow1 : List Nat} {E : XK} {t : TS} {χ : Env -> Option String} (i : Nat) (h : VX G ow1 E t χ) (hn : G.2 i = none) (h1 : sub ow1 ow = true) (h2 : ow1.contains i = false) (h3 : sub ow (i :: ow1) = true) : VX G ow E t χ := fun H0 av A σ H δ R c e k De =>
 h H0 av _ σ H δ (R.freeze i (Jv h1 h2 h3) hn) c e k De
end DL
namespace L2
open PySem
end L2
namespace L2
open PySem
end L2
namespace L2
open PySem PySem.Spec PySem.W PyProof.Rows
section
variable {X : Cx} {e : Expr} {te : TE} {pos : Pos}
inductive PJ (X : Cx) : List Expr -> List TE -> Prop where
 | nil : PJ X [] []
 | cons {e : Expr} {es : List Expr} {t : TE} {ts : List TE} : PE X e t -> PJ X es ts -> PJ X (e :: es) (t :: ts)
end
end L2
namespace DL
open PySem PySem.Spec L2
section
variable {G : Cn} {ow : List Nat}
inductive VJ (G : Cn) (ow : List Nat) : List TE -> List (Env -> Option D) -> Prop where
 | nil : VJ G ow [] []
 | cons {t : TE} {a : Env -> Option D} {ts : List TE} {as : List (Env -> Option D)} : VE G ow t .cl a -> VJ G ow ts as -> VJ G ow (t :: ts) (a :: as)
end
end DL
namespace L2
open PySem PySem.Spec PySem.W PyProof.Rows
section
variable {X : Cx} {E : XK}
end
end L2
namespace DL
open PySem PySem.Spec L2
abbrev XTab := List (String × (Nat × (List D -> Option D) × (List D -> Option String)))
structure MethOkX (X : Cx) (cA : Kn) (k : Nat) (m : String) (c : String) (n : Nat) (mm : List D -> Option D) (xm : List D -> Option String) : Prop where
 ex : ∃ f fd ps, Cls X.K (cA.c c) /\ Meth X.K (cA.c c) (Str.ofString m) f /\ FnOk X.prog X.w X.K X.mg X.base (CX1 X.prog X.w) k f fd ps (spX cA n mm xm) /\ Binds X.K fd ps []
def MTOkX (X : Cx) (cA : Kn) (k : Nat) (m : String) : XTab -> Prop
 | [] => True
 | (c, n, mm, xm) :: r => MethOkX X cA k m c n mm xm /\ MTOkX X cA k m r
theorem MTOkX.get {X : Cx} {cA : Kn} {k : Nat} {m : String} : ∀ {tab : XTab} {c : String} {n : Nat} {mm : List D -> Option D} {xm : List D -> Option String}, MTOkX X cA k m tab -> tab.lookup c = some (n, mm, xm) -> MethOkX X cA k m c n mm xm
 | [], _, _, _, _, _, h => by simp at h
 | (c', n', mm', xm') :: r, c, n, mm, xm, T, h => by
  rw [List.lookup_cons] at h
  cases hc : c == c' with
  | true =>
   rw [hc] at h
   cases h
   have : c = c' := eq_of_beq hc
   subst this
   exact T.1
  | false =>
   rw [hc] at h
   exact MTOkX.get T.2 h
section
variable {X : Cx} {cA : Kn} {k : Nat} {m : String} {tab : XTab} {o e : Expr} {es : List Expr} {ta : TE} {t : TA} {pos apos : Pos} {pl : Sem Bool} {E : XK}
end
section
variable {cA : Kn} {G : Cn} {ow ow1 owB owC owN : List Nat} {E : XK}
end
end DL
namespace L2
open PySem PySem.Spec PySem.W PyProof.Rows
theorem Zas : ∀ (cs : List Nat) (its : List Value), its.length = cs.length -> (∀ (j : Nat) (v : Value), its[j]? = some v -> ∃ (c : Nat) (u : Tok), cs[j]? = some c /\ v = Value.str ⟨#[c]⟩ u) -> Vals (cs.map fun c => S [c]) its
 | [], [], _, _ => .nil
 | c :: cs, [], h, _ => by simp at h
 | [], v :: its, h, _ => by simp at h
 | c :: cs, v :: its, h, k => by
  refine .cons ?_ (Zas cs its (by simpa using h) fun j v hj => by simpa using k (j + 1) v (by simpa using hj))
  obtain ⟨c', u, e1, e2⟩ := k 0 v rfl
  cases e1
  exact ⟨u, e2⟩
def ZeQ (K : PySem.W.Frag) : List V -> Hp -> VK -> Prop := fun xs H Q => Zfi K xs H Q \/ ∃ cs, xs = [S cs] /\ cs.length <= sizeLine /\ ∀ l, H l = none -> Q (.ref l) (upd H l (.lst (cs.map fun c => S [c])))
theorem Qu {X : Cx} {K : PySem.W.Frag} (hc : X.calm = true := by rfl) (hK : X.K = K := by rfl) : Ye X (.type "list") (ZeQ K) := by
 subst hK
 intro pins s σ H xs us Q I r h
 rcases h with h | ⟨cs, rfl, hz, q⟩
 · exact Za0 pins s σ H xs us Q I r h
 · obtain ⟨u, rfl, rx⟩ := YL r
   obtain ⟨t, rfl⟩ := rx
   refine call_list_str (I.ok.hd hc) (tx cs) t (fun h' tk acc' c' kp e hi => ?_) (by simpa using hz)
   have hv : Vals (cs.map fun c => S [c]) acc'.toList := Zas cs _ (by simpa using hi.1) fun j v hj => by
    obtain ⟨c, u, e1, e2⟩ := hi.2 j v (by simpa using hj)
    exact ⟨c, u, by simpa using e1, e2⟩
   exact ⟨.ref s.heap.objs.size, _, I.laid (t' := tk) kp (Nat.le_refl _) (show ObjOk X.prog X.w _ h' _ (.lst _) from ⟨by rw [List.length_map]; exact hz, acc'.toList, c', hv, e⟩), rfl, q _ (I.hok.fresh (Nat.le_refl _))⟩
end L2
namespace DL
open PySem PySem.Spec L2
def YH : List D -> Option D
 | [.str cs] => if cs.length <= sizeLine then some (.lst (cs.map fun c => .str [c])) else none
 | ds => ZeN ds
section
variable {G : Cn} {ow : List Nat}
theorem Zat {cA : Kn} {av : Addr -> Prop} {H : Hp} : ∀ cs : List Nat, RepL cA av H (cs.map fun c => D.str [c]) (cs.map fun c => S [c])
 | [] => .nil
 | c :: cs => .cons rfl (Zat cs)
theorem Qv {t : TA} {q : Ql} {α : Env -> Option (List D)} (hq : q = .cl \/ q = .tp) (h : VA G ow t q α) : VF G ow (tCB (ZeQ G.1.K) t) (eCB YH α) := fun H0 av A σ H δ E d e Q k => by
 unfold eCB at e
 cases he : α δ with
 | none => rw [he] at e; cases e
 | some ds =>
  rw [he] at e
  replace e : YH ds = some d := e
  unfold YH at e
  split at e
  · rename_i cs
    by_cases hz : cs.length <= sizeLine
    · rw [if_pos hz] at e
      cases e
      refine h H0 av A σ H δ E _ he _ fun vs H1 s1 r1 => ?_
      have il : VN G.1 (AV av A) H1 [.str cs] vs := by
       rcases hq with rfl | rfl <;> exact r1.il
      obtain ⟨v, t, rfl, hx⟩ := il1 il
      cases (show v = _ from hx)
      exact .inr ⟨cs, rfl, hz, fun p hp => k p _ _ H1 s1 hp (Zat cs) rfl⟩
    · rw [if_neg hz] at e; cases e
  · exact h H0 av A σ H δ E _ he _ fun vs H1 s1 r1 => by
     have il : VN G.1 (AV av A) H1 ds vs := by
      rcases hq with rfl | rfl <;> exact r1.il
     refine .inl ?_
     unfold ZeN at e
     split at e
     · rename_i xs
       cases e
       obtain ⟨v, t, rfl, a, ws, rfl, _, rd, l⟩ := il1 il
       exact ⟨a, ws, rfl, .inl rd, fun p hp => k p ws _ H1 s1 hp l rfl⟩
     · rename_i xs
       cases e
       obtain ⟨v, t, rfl, a, ws, rfl, _, rd, l⟩ := il1 il
       exact ⟨a, ws, rfl, .inr (SqT.of rd), fun p hp => k p ws _ H1 s1 hp l rfl⟩
     · cases e
end
end DL
namespace L2
open PySem PySem.Spec PySem.W PyProof.Rows
structure RoomE (k : Nat) (A : Around) : Prop where
 dp : A.depth + 3 * k + 5 < recursionLimit
 un : A.units + 16 * k + 200 < cLine
structure FnOkE (P : Program) (w : World) (K : PySem.W.Frag) (mg : Str -> Option Value) (base : Heap) (k : Nat) (f : Addr) (fd : FuncData) (ps : List Str) (sp : List V -> Hp -> VK -> Prop) : Prop where
 len : ∀ vs H Q, sp vs H Q -> vs.length = ps.length
 run : ∀ (A : Around) (outer : List PySem.Env) (s : Shared) (H : Hp) (args : Args) (us : List Value) (vs : List V) (Q : VK), RoomE k A -> Env0 P w K mg base A outer s H -> BindsTo s fd args (ps.zip us) -> Vals vs us -> sp vs H Q ->
  codeAny (model P w) A (.call (.ref f) args) (CR CX0 outer P w H s Q E0) s
end L2
namespace DL
open PySem PySem.Spec L2
def Zfq (K : PySem.W.Frag) (cA : Kn) (i : Nat) (mk : Addr -> Addr -> TE) (tab : List (String × Bool)) : Prop := ∀ (c : String) (b : Bool) (ea : Addr) (σ : L2.St) (H : Hp) (Q : VK), ExCls K (cA.c c) -> tab.lookup c = some b -> σ[i]? = some (some (.ref ea)) -> H ea = some (.ext (ZfM ea (.ref (cA.c c)))) -> (∀ H', Same H H' -> Q (.bl b) H') -> mk (cA.c c) ea σ H Q
inductive Items (K : PySem.W.Frag) (cA : Kn) (i : Nat) : List (Addr -> Addr -> TE) -> List (List (String × Bool)) -> Prop where
 | nil : Items K cA i [] []
 | cons {m : Addr -> Addr -> TE} {t : List (String × Bool)} {ms : List (Addr -> Addr -> TE)} {ts : List (List (String × Bool))} : Zfq K cA i m t -> Items K cA i ms ts -> Items K cA i (m :: ms) (t :: ts)
section
variable {cA : Kn} {G : Cn} {ow owB owC : List Nat}
end
end DL
namespace L2
open PySem PySem.Spec PyProof.Rows
section
variable {X : Cx} {elts : List Expr} {x1 : Nat} {tpos : Pos}
end
end L2
namespace DL
open PySem PySem.Spec L2
def Yb : List D -> List D -> List D
 | x :: xs, y :: ys => .tup [x, y] :: Yb xs ys
 | _, _ => []
theorem Qw : ∀ xs ys : List D, (Yb xs ys).length = min xs.length ys.length
 | [], _ => by simp [Yb]
 | _ :: _, [] => by simp [Yb]
 | x :: xs, y :: ys => by rw [Yb, List.length_cons, List.length_cons, List.length_cons, Qw xs ys]; omega
theorem Zbq : ∀ (xs ys : List D) (i : Nat) (x y : D), xs[i]? = some x -> ys[i]? = some y -> (Yb xs ys)[i]? = some (.tup [x, y])
 | [], _, i, x, y, h, _ => by simp at h
 | _ :: _, [], i, x, y, _, h => by simp at h
 | x0 :: xs, y0 :: ys, 0, x, y, h1, h2 => by simp at h1 h2; rw [h1, h2]; rfl
 | x0 :: xs, y0 :: ys, i + 1, x, y, h1, h2 => by
  rw [Yb, List.getElem?_cons_succ]
  exact Zbq xs ys i x y (by simpa using h1) (by simpa using h2)
section
variable {cA : Kn} {G : Cn} {ow : List Nat}
end
end DL
namespace DL
open PySem PySem.Spec L2
def mat (rows : List (List D)) : D := .lst (rows.map D.lst)
structure Mx (H : Hp) (a : Addr) (bs : List Addr) (rows : List (List D)) : Prop where
 top : H a = some (.lst (bs.map V.ref))
 len : bs.length = rows.length
 nd : bs.Nodup
 na : a ∉ bs
 row : ∀ (k : Nat) (b : Addr) (r : List D), bs[k]? = some b -> rows[k]? = some r -> H b = some (.lst (r.map val))
 sc : ∀ r ∈ rows, r.all ZL = true
section
variable {H H' : Hp} {a : Addr} {bs : List Addr} {rows : List (List D)}
theorem Mx.mem (M : Mx H a bs rows) {b : Addr} (h : b ∈ bs) : ∃ r ∈ rows, H b = some (.lst (r.map val)) := by
 obtain ⟨k, hk, e⟩ := List.mem_iff_getElem.mp h
 have hk2 : k < rows.length := by rw [<- M.len]; exact hk
 exact ⟨rows[k], List.getElem_mem hk2, M.row k b _ (by rw [List.getElem?_eq_getElem hk, e]) (List.getElem?_eq_getElem hk2)⟩
theorem Mx.there (M : Mx H a bs rows) {x : Addr} (h : x ∈ a :: bs) : ∃ vs, H x = some (.lst vs) := by
 rcases List.mem_cons.mp h with rfl | h
 · exact ⟨_, M.top⟩
 · obtain ⟨r, _, e⟩ := M.mem h
   exact ⟨_, e⟩
theorem Mx.mono (M : Mx H a bs rows) (k : Same H H') : Mx H' a bs rows := ⟨k _ _ M.top, M.len, M.nd, M.na, fun n b r h1 h2 => k _ _ (M.row n b r h1 h2), M.sc⟩
theorem Mx.rep {cA : Kn} {av : Addr -> Prop} (M : Mx H a bs rows) (hn : ∀ x ∈ a :: bs, ¬ av x) : Rep cA av H (mat rows) (.ref a) := by
 have go : ∀ (bs : List Addr) (rows : List (List D)), bs.length = rows.length -> (∀ x ∈ bs, ¬ av x) -> (∀ (k : Nat) (b : Addr) (r : List D), bs[k]? = some b -> rows[k]? = some r -> H b = some (.lst (r.map val))) -> (∀ r ∈ rows, r.all ZL = true) -> RepL cA av H (rows.map D.lst) (bs.map V.ref) := by
  intro bs
  induction bs with
  | nil =>
   intro rows hl _ _ _
   cases rows with
   | nil => exact .nil
   | cons _ _ => simp at hl
  | cons b bs ih =>
   intro rows hl hn hr hs
   cases rows with
   | nil => simp at hl
   | cons r rows =>
    refine .cons ?_ (ih rows (by simpa using hl) (fun x hx => hn x (List.mem_cons_of_mem _ hx)) (fun k b r h1 h2 => hr (k + 1) b r (by simpa using h1) (by simpa using h2)) fun r hr => hs r (List.mem_cons_of_mem _ hr))
    unfold Rep
    exact ⟨b, r.map val, rfl, fun z => (hn b List.mem_cons_self z).elim, SqL.of (hr 0 b r rfl rfl), .of_vals (hs r List.mem_cons_self)⟩
 unfold mat Rep
 exact ⟨a, bs.map V.ref, rfl, fun z => (hn a List.mem_cons_self z).elim, SqL.of M.top, go bs rows M.len (fun x hx => hn x (List.mem_cons_of_mem _ hx)) M.row M.sc⟩
end
open Classical in
noncomputable def ovl (H0 H : Hp) (F : List Addr) : Hp := fun x => if x ∈ F then H x else H0 x
theorem ZdF {H0 H : Hp} {F : List Addr} {x : Addr} (h : x ∈ F) : ovl H0 H F x = H x := if_pos h
theorem Zb8 {H0 H : Hp} {F : List Addr} {x : Addr} (h : x ∉ F) : ovl H0 H F x = H0 x := if_neg h
abbrev Cn.keep (G : Cn) (i : Nat) (v : V) : Cn := ⟨G.1, fun j => if j = i then some (.inr v) else G.2 j⟩
abbrev avF (av : Addr -> Prop) (F : List Addr) : Addr -> Prop := fun x => av x \/ x ∈ F
def PinOk (G : Cn) (i : Nat) (σ : L2.St) : Prop := ∀ z, G.2 i = some z -> ∃ v, z = .inr v /\ σ[i]? = some (some v)
theorem PinOk.none {G : Cn} {i : Nat} {σ : L2.St} (h : G.2 i = Option.none) : PinOk G i σ := fun z e => by rw [h] at e; cases e
theorem PinOk.set {G : Cn} {i k : Nat} {σ : L2.St} {x : Option V} (h : PinOk G i σ) (hk : k ≠ i) : PinOk G i (σ.set k x) := fun z e => by
 obtain ⟨v, h1, h2⟩ := h z e
 exact ⟨v, h1, by rw [List.getElem?_set_ne hk]; exact h2⟩
structure MR (G : Cn) (ow : List Nat) (i : Nat) (H0 : Hp) (av : Addr -> Prop) (A : Nat -> Option Addr) (σ : L2.St) (H : Hp) (δ : Env) : Prop where
 ni : i ∉ ow
 nn : PinOk G i σ
 avd : ∀ x, av x -> H0 x ≠ none
 ex : ∃ a bs rows, δ[i]? = some (some (mat rows)) /\ Mx H a bs rows /\ (∀ x ∈ a :: bs, H0 x = none) /\ ER (G.keep i (.ref a)) ow (ovl H0 H (a :: bs)) (avF av (a :: bs)) A σ H (δ.set i none)
section
variable {cA : Kn} {G : Cn} {ow owN owB owC ow1 : List Nat} {i : Nat} {H0 H H' : Hp} {av : Addr -> Prop} {A : Nat -> Option Addr} {σ : L2.St} {δ : Env}
theorem Zb9 {j : Nat} {v : V} (h : j ≠ i) : (G.keep i v).2 j = G.2 j := if_neg h
theorem Zc6 {a : Addr} {bs : List Addr} {rows : List (List D)} (M : Mx H a bs rows) (k : Same H H') : ovl H0 H' (a :: bs) = ovl H0 H (a :: bs) := by
 funext x
 by_cases h : x ∈ a :: bs
 · rw [ZdF h, ZdF h]
   obtain ⟨vs, q⟩ := M.there h
   rw [q, k _ _ q]
 · rw [Zb8 h, Zb8 h]
theorem MR.set {k : Nat} {d : D} (R : MR G ow i H0 av A σ H δ) (hs : ZL d = true) (hk : k ≠ i) (hw : ∀ j, j ∈ owN ↔ j ∈ ow /\ j ≠ k) (hn : G.2 k = none) : MR G owN i H0 av (fun j => if j = k then none else A j) (σ.set k (some (val d))) H (δ.set k (some d)) := by
 obtain ⟨a, bs, rows, hd, M, h0, E⟩ := R.ex
 refine ⟨fun z => R.ni ((hw i).mp z).1, R.nn.set hk, R.avd, a, bs, rows, by rw [List.getElem?_set_ne hk]; exact hd, M, h0, ?_⟩
 rw [List.set_comm _ _ hk]
 exact E.set (.of_val hs) hw (by rw [Zb9 hk]; exact hn)
end
end DL
namespace DL
open PySem PySem.Spec L2
section
variable {cA : Kn} {G : Cn} {ow owN owB owC ow1 : List Nat} {i : Nat}
end
end DL
namespace DL
open PySem PySem.Spec L2
section
variable {H : Hp} {a b : Addr} {bs : List Addr} {rows : List (List D)} {j : Nat} {r r' : List D}
theorem Mx.at (M : Mx H a bs rows) (hr : rows[j]? = some r) : ∃ b, bs[j]? = some b /\ H b = some (.lst (r.map val)) := by
 have hjl : j < bs.length := by rw [M.len]; exact (List.getElem?_eq_some_iff.mp hr).1
 exact ⟨bs[j], List.getElem?_eq_getElem hjl, M.row j _ r (List.getElem?_eq_getElem hjl) hr⟩
end
section
variable {cA : Kn} {G : Cn} {ow owN owB owC ow1 : List Nat} {i : Nat}
end
end DL
namespace DL
open PySem PySem.Spec L2
def VFM (G : Cn) (ow : List Nat) (te : TE) (ε : Env -> Option D) : Prop :=
 ∀ H0 av A σ H δ, ER G ow H0 av A σ H δ -> ∀ d, ε δ = some d -> ∀ Q : VK, (∀ a bs rows H', Same H H' -> (∀ x ∈ a :: bs, H x = none) -> Mx H' a bs rows -> d = mat rows -> Q (.ref a) H') -> te σ H Q
section
variable {cA : Kn} {G : Cn} {ow owN owB owC ow1 : List Nat} {i : Nat}
def Ut (N : Nat) (φ : Env -> Option Out) (ds : List D) : Option D := match φ (ds.map some ++ List.replicate (N - ds.length) none) with
 | some (.rt d) => some d
 | _ => none
theorem VFM.cl {te : TE} {ε : Env -> Option D} (h : VFM G ow te ε) : VE G ow te .cl ε := fun H0 av A σ H δ E d e Q k =>
 h H0 av A σ H δ E d e Q fun a bs rows H' s hf M hd => by
  subst hd
  exact k _ H' s (M.rep fun x hx z => E.avl x z (hf x hx)).t
def Y5 : D -> D -> Option D
 | .lst a, .int n => mulX (.lst a) (.int n)
 | _, _ => none
theorem ZdG {ta tb : TE} {q : Ql} {a b : Env -> Option D} (ha : VE G ow ta .cl a) (hb : VE G ow tb q b) : VF G ow (tOp (Qt G.1.K) ta tb) (eOp Y5 a b) := fun H0 av A σ H δ E d e Q k => by
 obtain ⟨x, y, ex, ey, ed⟩ := Zbl e
 unfold Y5 at ed
 split at ed
 · rename_i xs n
   unfold mulX at ed
   dsimp only at ed
   by_cases hz : n < 2 ^ 63 /\ -(2 ^ 63) <= n /\ xs.length * n.toNat <= sizeLine
   · rw [if_pos hz] at ed
     cases ed
     refine ha H0 av A σ H δ E _ ex _ fun v H1 s1 r1 => hb H0 av A σ H1 δ (E.mono s1) _ ey _ fun w H2 s2 r2 => ?_
     have ew : w = .int n := r2.any
     subst ew
     obtain ⟨a1, vs1, rfl, na, rd, l1⟩ := r1
     refine .inr (.inr ⟨a1, n, vs1, rfl, rfl, s2.seq rd, hz.2.1, hz.1, by rw [<- l1.length]; exact hz.2.2, fun p hp => k p _ _ H2 (s1.trans s2) hp ((l1.same s2).rep n.toNat) rfl⟩)
   · rw [if_neg hz] at ed; cases ed
 · cases ed
end
section
variable {P : Program} {w : World} {K : PySem.W.Frag} {mg : Str -> Option Value} {base : Heap} {cA : Kn}
end
end DL
namespace DL
open PySem PySem.Spec L2
section
variable {cA : Kn} {G : Cn} {ow : List Nat}
structure RowsAt (H0 H : Hp) (bs : List Addr) (rows : List (List D)) : Prop where
 len : bs.length = rows.length
 nd : bs.Nodup
 row : ∀ (k : Nat) (b : Addr) (r : List D), bs[k]? = some b -> rows[k]? = some r -> H b = some (.lst (r.map val))
 fr : ∀ b ∈ bs, H0 b = none
 sc : ∀ r ∈ rows, r.all ZL = true
theorem RowsAt.same {H0 H H' : Hp} {bs : List Addr} {rows : List (List D)} (R : RowsAt H0 H bs rows) (s : Same H H') : RowsAt H0 H' bs rows := ⟨R.len, R.nd, fun k b r h1 h2 => s _ _ (R.row k b r h1 h2), R.fr, R.sc⟩
end
end DL
namespace DL
open PySem PySem.Spec L2
def FL (cA : Kn) (H0 : Hp) (av : Addr -> Prop) (De : Ends) (d : D) : Prop := ∀ p vs xs H', Same H0 H' -> H0 p = none -> H' p = some (.lst vs) -> RepL cA (fun x => av x \/ x = p) H' xs vs -> d = .lst xs -> De.rt (.ref p) H'
def VSL (G : Cn) (ow : List Nat) (ts : TS) (φ : Env -> Option Out) : Prop := ∀ H0 av A σ H δ, ER G ow H0 av A σ H δ -> ∀ d, φ δ = some (.rt d) -> ∀ De : Ends, FL G.1 H0 av De d -> ts De σ H
section
variable {cA : Kn} {G : Cn} {ow owN owB owC ow1 : List Nat} {i : Nat}
theorem Zc7 {te : TE} {ε : Env -> Option D} (h : VF G ow te ε) : VSL G ow (Q6 te) (Zn ε) := fun H0 av A σ H δ E d e De k => by
 unfold Zn at e
 cases he : ε δ with
 | none => rw [he] at e; cases e
 | some d' =>
  rw [he] at e
  cases e
  refine h H0 av A σ H δ E _ he _ fun p vs xs H1 s hp l hd => ?_
  refine k p vs xs _ ((E.same.trans s).trans (Z8 hp)) (E.same.free (s.free hp)) Z7 (((l.av fun b z => ?_)).same (Z8 hp)) hd
  rcases z with z | z
  · exact .inl (.inl z)
  · rw [z]; exact .inr hp
open Classical in
end
section
variable {P : Program} {w : World} {K : PySem.W.Frag} {mg : Str -> Option Value} {base : Heap} {cA : Kn}
end
end DL
namespace L2
open PySem PySem.Spec PySem.W PyProof.Rows
end L2
namespace DL
open PySem PySem.Spec L2
section
variable {cA : Kn} {G : Cn} {ow owN owB owC ow1 : List Nat} {i : Nat}
theorem MR.own {H0 H : Hp} {av : Addr -> Prop} {A : Nat -> Option Addr} {σ : L2.St} {δ : Env} {k : Nat} {xs : List D} {p : Addr} (R : MR G ow i H0 av A σ H δ) (hs : xs.all ZL = true) (hp : H p = none) (hk : k ≠ i) (hw : ∀ j, j ∈ ow1 ↔ j ∈ ow \/ j = k) (hn : G.2 k = none) : MR G ow1 i H0 av (fun j => if j = k then some p else A j) (σ.set k (some (.ref p))) (upd H p (.lst (xs.map val))) (δ.set k (some (.lst xs))) := by
 obtain ⟨a, bs, rows, hd, M, h0, E⟩ := R.ex
 refine ⟨fun z => ((hw i).mp z).elim R.ni fun z => hk z.symm, R.nn.set hk, R.avd, a, bs, rows, by rw [List.getElem?_set_ne hk]; exact hd, M.mono (Z8 hp), h0, ?_⟩
 rw [List.set_comm _ _ hk, Zc6 M (Z8 hp)]
 exact E.own hp (.of_vals hs) hw (by rw [Zb9 hk]; exact hn)
end
end DL
namespace DL
open PySem PySem.Spec L2
section
variable {cA : Kn} {av : Addr -> Prop} {H : Hp}
end
section
variable {G : Cn} {ow owN owB owC ow1 : List Nat} {H0 H : Hp} {av : Addr -> Prop} {A : Nat -> Option Addr} {σ : L2.St} {δ : Env}
end
end DL
namespace L2
open PySem
end L2
namespace DL
open PySem PySem.Spec L2
section
variable {G : Cn} {ow owN owB owC ow1 : List Nat}
end
section
variable {cA : Kn} {G : Cn} {ow owN owB owC ow1 : List Nat} {i : Nat}
end
section
variable {P : Program} {w : World} {K : PySem.W.Frag} {mg : Str -> Option Value} {base : Heap} {cA : Kn}
open Classical in
end
end DL
namespace L2
open PySem PySem.Spec PyProof.Rows
section
variable {X : Cx}
end
end L2
namespace DL
open PySem PySem.Spec L2
section
variable {cA : Kn} {G : Cn} {ow owN owB owC ow1 : List Nat} {i : Nat}
mutual
def frz : D -> Bool
 | .non => true
 | .bl _ => true
 | .int _ => true
 | .str _ => true
 | .lst _ => false
 | .tup xs => frzL xs
 | .obj _ _ xs => frzL xs
 | .dct _ _ => false
 | .dtt _ _ => false
def frzL : List D -> Bool
 | [] => true
 | x :: xs => frz x && frzL xs
end
mutual
theorem Rep.frz {av av' : Addr -> Prop} {H : Hp} : ∀ {d : D} {v : V}, frz d = true -> (∀ b, av' b -> av b \/ ∃ vs, H b = some (.lst vs)) -> Rep cA av H d v -> Rep cA av' H d v
 | .non, _, _, _, h => h
 | .bl _, _, _, _, h => h
 | .int _, _, _, _, h => h
 | .str _, _, _, _, h => h
 | .lst xs, v, hf, k, h => by cases hf
 | .tup xs, v, hf, k, h => by
  unfold DL.frz at hf
  unfold Rep at h ⊢
  obtain ⟨a, vs, e, n, r, l⟩ := h
  exact ⟨a, vs, e, fun z => (k a z).elim n (by rw [r]; exact fun ⟨_, z⟩ => by cases z), r, RepL.frz hf k l⟩
 | .obj c ks xs, v, hf, k, h => by
  unfold DL.frz at hf
  unfold Rep at h ⊢
  obtain ⟨a, dx, vs, e, n, r, z, l⟩ := h
  exact ⟨a, dx, vs, e, fun z => (k a z).elim n (by rw [r]; exact fun ⟨_, z⟩ => by cases z), r, z, RepL.frz hf k l⟩
 | .dct ks xs, v, hf, k, h => by cases hf
 | .dtt ks xs, v, hf, k, h => by cases hf
theorem RepL.frz {av av' : Addr -> Prop} {H : Hp} : ∀ {xs : List D} {vs : List V}, frzL xs = true -> (∀ b, av' b -> av b \/ ∃ vs, H b = some (.lst vs)) -> RepL cA av H xs vs -> RepL cA av' H xs vs
 | [], _, _, _, h => h
 | x :: xs, vs, hf, k, h => by
  unfold DL.frzL at hf
  rw [Bool.and_eq_true] at hf
  unfold RepL at h ⊢
  obtain ⟨v, r, e, h1, h2⟩ := h
  exact ⟨v, r, e, Rep.frz hf.1 k h1, RepL.frz hf.2 k h2⟩
end
end
end DL
namespace PySem
open Sem (wp)
section
variable {prog : Program} {w : World} {A : Around} {E : Value -> Shared -> Prop} {s : Shared}
theorem Za7 {j t : Addr} {i : Nat} {xs : Array Value} {x : Value} {Q : Value -> Shared -> Prop} (hj : s.heap.IsTupleIter j t i) (ht : s.heap.IsTuple t xs) (hx : xs[i]? = some x)
 (hQ : ∀ h', h'.IsTupleIter j t (i + 1) -> Heap.SameBut j s.heap h' -> Q x { s with heap := h' }) : wpAny (model prog w) A (Builtin.SmallTypes.nextOf (.ref j)) Q E s := by
 obtain ⟨oj, gj, cj, dj⟩ := id hj
 obtain ⟨ot, gt, _, nt, dt⟩ := ht
 unfold Builtin.SmallTypes.nextOf
 refine wpAny_bind (wpAny_callSpecial?_slot (name := Str.ofString "__next__") hj.typeIs F.slot_tuple_iterator_next (wpAny_call_entry F.slot_tuple_iterator_next hj.typeIs F.entry_tuple_iterator_next ?_ (F.args_tuple_iterator_next_1 _)))
 show wpAny _ _ (field (.ref j) 0 >>= _) _ _ s
 refine wpAny_bind (wpAny_field gj dj (x := .ref t) rfl ?_)
 show wpAny _ _ (if (Value.ref t == Value.none) = true then _ else _) _ _ _
 rw [if_neg (show ¬ (Value.ref t == Value.none) = true from fun z => Bool.false_ne_true z)]
 show wpAny _ _ (field (.ref j) 1 >>= _) _ _ s
 refine wpAny_bind (wpAny_field gj dj (x := .int i 0) rfl ?_)
 show wpAny _ _ (seqItems? (.ref t) >>= _) _ _ _
 refine wpAny_bind (wpAny_seqItems gt dt ?_)
 simp only [Int.toNat_natCast, hx]
 refine wpAny_bind (wpAny_setField gj dj (by simp) (wpAny_pure ⟨x, rfl, wpAny_pure (hQ _ ?_ (Heap.SameBut.update ..))⟩))
 refine ⟨_, Heap.get?_update_self _ gj (Obj.isFreed_of_fields (Obj.data_mapFields dj _)), (Obj.cls_mapFields ..).trans cj, ?_⟩
 rw [Obj.data_mapFields dj]
 simp [rawInt]
theorem Za8 {j t : Addr} {i : Nat} {xs : Array Value} {Q : Value -> Shared -> Prop} (hh : A.handled = none) (hj : s.heap.IsTupleIter j t i) (ht : s.heap.IsTuple t xs) (hx : xs[i]? = none)
 (hE : ∀ h' e, Heap.ExtBut j s.heap h' -> (∃ o, h'.get? e = some o /\ o.cls = .type "StopIteration") -> E (.ref e) { s with heap := h' }) : wpAny (model prog w) A (Builtin.SmallTypes.nextOf (.ref j)) Q E s := by
 obtain ⟨oj, gj, cj, dj⟩ := id hj
 obtain ⟨ot, gt, _, nt, dt⟩ := ht
 unfold Builtin.SmallTypes.nextOf
 refine wpAny_bind (wpAny_callSpecial?_slot (name := Str.ofString "__next__") hj.typeIs F.slot_tuple_iterator_next (wpAny_call_entry F.slot_tuple_iterator_next hj.typeIs F.entry_tuple_iterator_next ?_ (F.args_tuple_iterator_next_1 _)))
 show wpAny _ _ (field (.ref j) 0 >>= _) _ _ s
 refine wpAny_bind (wpAny_field gj dj (x := .ref t) rfl ?_)
 show wpAny _ _ (if (Value.ref t == Value.none) = true then _ else _) _ _ _
 rw [if_neg (show ¬ (Value.ref t == Value.none) = true from fun z => Bool.false_ne_true z)]
 show wpAny _ _ (field (.ref j) 1 >>= _) _ _ s
 refine wpAny_bind (wpAny_field gj dj (x := .int i 0) rfl ?_)
 show wpAny _ _ (seqItems? (.ref t) >>= _) _ _ _
 refine wpAny_bind (wpAny_seqItems gt dt ?_)
 simp only [Int.toNat_natCast, hx]
 refine wpAny_bind (wpAny_rule (wpAny_bind (wpAny_setField gj dj (by simp) ?_)))
 show wpAny _ _ (newExc (.type "StopIteration") List.nil >>= _) _ _ _
 refine wpAny_bind ?_
 simp only [newExc, newTuple]
 refine wpAny_bind (wpAny_newObj_type (wpAny_bind (m := firstArgMember _ _) (wpAny_of_eq (a := Value.none) (by first | rfl | (simp only [firstArgMember]; rfl)) (wpAny_newObj_type ?_ (by size_fits)))) (by size_fits))
 simp only [raiseNew]
 refine wpAny_bind (wpAny_handled ?_)
 first | rw [show A.in1.handled = none from hh] | rw [hh]
 exact wpAny_bind (wpAny_pure (wpAny_throw (hE _ _ (((Heap.SameBut.update ..).extBut.push _).push _) ⟨_, Heap.get?_push_size _ rfl, rfl⟩)))
end
def IsQI (k : Bool) (h : Heap) (a l : Addr) (i : Nat) : Prop := match k with
 | true => h.IsTupleIter a l i
 | false => h.IsListIter a l i
def IsQ (k : Bool) (h : Heap) (l : Addr) (xs : Array Value) : Prop := match k with
 | true => h.IsTuple l xs
 | false => h.IsList l xs
theorem IsQI.get {k : Bool} {h : Heap} {a l : Addr} {i : Nat} (x : IsQI k h a l i) : ∃ o, h.get? a = some o /\ o.data = .fields #[.ref l, .int i 0] := by
 cases k with
 | true => obtain ⟨o, e, _, d⟩ := x; exact ⟨o, e, d⟩
 | false => obtain ⟨o, e, _, d⟩ := x; exact ⟨o, e, d⟩
theorem IsQI.at {k : Bool} {h h' : Heap} {a l : Addr} {i : Nat} (x : IsQI k h a l i) (f : ∀ o, h.get? a = some o -> h'.get? a = some o) : IsQI k h' a l i := by
 cases k with
 | true => obtain ⟨o, e, r⟩ := x; exact ⟨o, f o e, r⟩
 | false => obtain ⟨o, e, r⟩ := x; exact ⟨o, f o e, r⟩
theorem IsQI.ext {k : Bool} {h h' : Heap} {a b l : Addr} {i : Nat} (x : IsQI k h a l i) (hs : Heap.ExtBut b h h') (n : a ≠ b) : IsQI k h' a l i := x.at fun o e => hs a o n e
theorem IsQ.at {k : Bool} {h h' : Heap} {l : Addr} {xs : Array Value} (x : IsQ k h l xs) (f : ∀ o, h.get? l = some o -> h'.get? l = some o) : IsQ k h' l xs := by
 cases k with
 | true => obtain ⟨o, e, r⟩ := x; exact ⟨o, f o e, r⟩
 | false => obtain ⟨o, e, r⟩ := x; exact ⟨o, f o e, r⟩
theorem IsQ.ext {k : Bool} {h h' : Heap} {b l : Addr} {xs : Array Value} (x : IsQ k h l xs) (hs : Heap.ExtBut b h h') (n : l ≠ b) : IsQ k h' l xs := x.at fun o e => hs l o n e
theorem IsQ.lt {k : Bool} {h : Heap} {l : Addr} {xs : Array Value} (x : IsQ k h l xs) : l < h.objs.size := by
 cases k with
 | true => obtain ⟨o, e, _⟩ := x; exact Heap.lt_size e
 | false => obtain ⟨o, e, _⟩ := x; exact Heap.lt_size e
section
variable {prog : Program} {w : World} {A : Around} {E : Value -> Shared -> Prop} {s : Shared}
theorem JK {k : Bool} {j t : Addr} {i : Nat} {xs : Array Value} {x : Value} {Q : Value -> Shared -> Prop} (hj : IsQI k s.heap j t i) (ht : IsQ k s.heap t xs) (hx : xs[i]? = some x)
 (hQ : ∀ h', IsQI k h' j t (i + 1) -> Heap.SameBut j s.heap h' -> Q x { s with heap := h' }) : wpAny (model prog w) A (Builtin.SmallTypes.nextOf (.ref j)) Q E s := by
 cases k with
 | true => exact Za7 hj ht hx hQ
 | false => exact wpAny_nextOf_list_item hj ht hx hQ
theorem ZaN {k : Bool} {j t : Addr} {i : Nat} {xs : Array Value} {Q : Value -> Shared -> Prop} (hh : A.handled = none) (hj : IsQI k s.heap j t i) (ht : IsQ k s.heap t xs) (hx : xs[i]? = none)
 (hE : ∀ h' e, Heap.ExtBut j s.heap h' -> (∃ o, h'.get? e = some o /\ o.cls = .type "StopIteration") -> E (.ref e) { s with heap := h' }) : wpAny (model prog w) A (Builtin.SmallTypes.nextOf (.ref j)) Q E s := by
 cases k with
 | true => exact Za8 hh hj ht hx hE
 | false => exact wpAny_nextOf_list_end hh hj ht hx hE
theorem ZcK {p q : Bool} {z TI TO i1 i2 l1 l2 : Addr} {k1 k2 : Nat} {xs ys : Array Value} {x y a b : Value} {Q : Value -> Shared -> Prop} (D : ZipApart z TI TO i1 i2 l1 l2)
 (gz : IsZip s.heap z TI TO .none) (gI : IsPair s.heap TI (.ref i1) (.ref i2)) (gO : IsPair s.heap TO a b) (u1 : IsQI p s.heap i1 l1 k1) (u2 : IsQI q s.heap i2 l2 k2) (m1 : IsQ p s.heap l1 xs) (m2 : IsQ q s.heap l2 ys) (hx : xs[k1]? = some x) (hy : ys[k2]? = some y)
 (hQ : ∀ h', IsZip h' z TI TO (rawInt s.heap.objs.size) -> IsPair h' TO x y -> IsQI p h' i1 l1 (k1 + 1) -> IsQI q h' i2 l2 (k2 + 1) -> IsPair h' s.heap.objs.size x y -> h'.objs.size = s.heap.objs.size + 1 -> (∀ c o, c ≠ z -> c ≠ TO -> c ≠ i1 -> c ≠ i2 -> s.heap.get? c = some o -> h'.get? c = some o) -> Q (.ref s.heap.objs.size) { s with heap := h' }) :
 wpAny (model prog w) A (Builtin.«zip.__next__» ⟨[.ref z], []⟩) (fun fin s' => ∃ v, fin = .done (.ret v) /\ Q v s') E s := by
 show wpAny _ _ (field (.ref z) 2 >>= fun _ => _) _ _ _
 refine wpAny_bind (wpAny_field gz rfl (x := .bool false) rfl ?_)
 show wpAny _ _ (field (.ref z) 3 >>= fun _ => _) _ _ _
 refine wpAny_bind (wpAny_field gz rfl (x := .ref TI) rfl (wpAny_bind (wpAny_seqItems gI rfl ?_)))
 show wpAny _ _ (Builtin.SmallTypes.ownedTupleIsFree (.ref z) >>= fun _ => _) _ _ _
 unfold Builtin.SmallTypes.ownedTupleIsFree
 refine wpAny_bind (wpAny_bind (wpAny_field gz rfl (x := .none) rfl (wpAny_pure ?_)))
 simp only [if_true]
 refine wpAny_bind (wpAny_rule (wpAny_bind (wpAny_field gz rfl (x := .ref TO) rfl (wpAny_bind (wpAny_setField_rec gz (by simp) fun h₁ gz₁ s₁ => ?_)))))
 have gz₁ : IsZip h₁ z TI TO .ellipsis := gz₁
 refine wpAny_bind ?_
 simp only [List.zipIdx_cons, List.forIn_cons, List.zipIdx_nil, List.forIn_nil]
 refine wpAny_bind (wpAny_bind (wpAny_onRaise (wpAny_bind (m := Builtin.SmallTypes.nextOf (.ref i1)) (JK (u1.ext s₁.extBut D.i1z) (m1.ext s₁.extBut D.l1z) hx fun h₂ u1₂ s₂ => wpAny_pure ?_))))
 have gO₂ : IsPair h₂ TO a b := s₂.extBut _ _ D.TOi1 (s₁.extBut _ _ D.TOz gO)
 refine wpAny_bind (wpAny_seqItems gO₂ rfl (wpAny_bind (wpAny_updateSeq_pair gO₂ fun h₃ gO₃ s₃ => ?_)))
 have gO₃ : IsPair h₃ TO x b := gO₃
 refine wpAny_bind (wpAny_letGo (wpAny_pure ?_))
 refine wpAny_bind (wpAny_bind (wpAny_onRaise (wpAny_bind (m := Builtin.SmallTypes.nextOf (.ref i2)) (JK (((u2.ext s₁.extBut D.i2z).ext s₂.extBut D.i12.symm).ext s₃.extBut D.TOi2.symm) (((m2.ext s₁.extBut D.l2z).ext s₂.extBut D.l2i1).ext s₃.extBut D.l2TO) hy fun h₄ u2₄ s₄ => wpAny_pure ?_))))
 have gO₄ : IsPair h₄ TO x b := s₄.extBut _ _ D.TOi2 gO₃
 refine wpAny_bind (wpAny_seqItems gO₄ rfl (wpAny_bind (wpAny_updateSeq_pair gO₄ fun h₅ gO₅ s₅ => ?_)))
 have gO₅ : IsPair h₅ TO x y := gO₅
 refine wpAny_bind (wpAny_letGo (wpAny_pure (wpAny_pure (wpAny_bind (wpAny_seqItems gO₅ rfl (wpAny_bind (wpAny_newTuple ?_)))))))
 have ez : h₅.objs.size = s.heap.objs.size := by rw [s₅.1, s₄.1, s₃.1, s₂.1, s₁.1]
 have gz₅ : IsZip h₅ z TI TO .ellipsis := s₅.extBut _ _ D.TOz.symm (s₄.extBut _ _ D.i2z.symm (s₃.extBut _ _ D.TOz.symm (s₂.extBut _ _ D.i1z.symm gz₁)))
 have kp : ∀ c o, c ≠ z -> c ≠ TO -> c ≠ i1 -> c ≠ i2 -> s.heap.get? c = some o -> h₅.get? c = some o := fun c o c1 c2 c3 c4 e => s₅.extBut _ _ c2 (s₄.extBut _ _ c4 (s₃.extBut _ _ c2 (s₂.extBut _ _ c3 (s₁.extBut _ _ c1 e))))
 have u1₅ : IsQI p h₅ i1 l1 (k1 + 1) := ((u1₂.ext s₃.extBut D.TOi1.symm).ext s₄.extBut D.i12).ext s₅.extBut D.TOi1.symm
 have u2₅ : IsQI q h₅ i2 l2 (k2 + 1) := u2₄.ext s₅.extBut D.TOi2.symm
 have lz : z < h₅.objs.size := Heap.lt_size gz₅
 show wpAny _ _ (Builtin.SmallTypes.ownedTupleHandOut (.ref z) (.ref h₅.objs.size) >>= fun _ => _) _ _ _
 unfold Builtin.SmallTypes.ownedTupleHandOut
 have gz₆ : IsZip (h₅.push { cls := .type "tuple", data := .seq #[x, y] }) z TI TO .ellipsis := Heap.get?_push_of_some _ gz₅
 refine wpAny_bind (wpAny_bind (wpAny_setField_rec gz₆ (by simp) fun h₇ gz₇ s₇ => ?_))
 have gz₇ : IsZip h₇ z TI TO (rawInt h₅.objs.size) := gz₇
 refine wpAny_setField_rec gz₇ (by simp) fun h₈ gz₈ s₈ => ?_
 have gz₈ : IsZip h₈ z TI TO (rawInt h₅.objs.size) := gz₈
 have up : ∀ c o, c ≠ z -> h₅.get? c = some o -> h₈.get? c = some o := fun c o c1 e => s₈.extBut _ _ c1 (s₇.extBut _ _ c1 (Heap.get?_push_of_some _ e))
 have gT : IsPair h₈ h₅.objs.size x y := s₈.extBut _ _ (Nat.ne_of_gt lz) (s₇.extBut _ _ (Nat.ne_of_gt lz) (Heap.get?_push_size _ rfl))
 have e8 : h₈.objs.size = h₅.objs.size + 1 := by rw [s₈.1, s₇.1, Heap.size_push]
 rw [ez] at gz₈ gT e8
 refine wpAny_pure ⟨_, rfl, ?_⟩
 rw [ez]
 exact hQ h₈ gz₈ (up _ _ D.TOz gO₅) (u1₅.at fun o e => up _ o D.i1z e) (u2₅.at fun o e => up _ o D.i2z e) gT e8 fun c o c1 c2 c3 c4 e => up c o c1 (kp c o c1 c2 c3 c4 e)
theorem Zc8 {p q : Bool} {z TI TO i1 i2 l1 l2 : Addr} {k1 k2 : Nat} {xs ys : Array Value} {a b : Value} {Q : Fin -> Shared -> Prop} (hh : A.handled = none) (D : ZipApart z TI TO i1 i2 l1 l2)
 (gz : IsZip s.heap z TI TO .none) (gI : IsPair s.heap TI (.ref i1) (.ref i2)) (gO : IsPair s.heap TO a b) (u1 : IsQI p s.heap i1 l1 k1) (u2 : IsQI q s.heap i2 l2 k2) (m1 : IsQ p s.heap l1 xs) (m2 : IsQ q s.heap l2 ys) (hend : xs[k1]? = none \/ ys[k2]? = none)
 (hE : ∀ h' e, (∀ c o, c ≠ z -> c ≠ TO -> c ≠ i1 -> c ≠ i2 -> s.heap.get? c = some o -> h'.get? c = some o) -> (∃ o, h'.get? e = some o /\ o.cls = .type "StopIteration") -> E (.ref e) { s with heap := h' }) :
 wpAny (model prog w) A (Builtin.«zip.__next__» ⟨[.ref z], []⟩) Q E s := by
 show wpAny _ _ (field (.ref z) 2 >>= fun _ => _) _ _ _
 refine wpAny_bind (wpAny_field gz rfl (x := .bool false) rfl ?_)
 show wpAny _ _ (field (.ref z) 3 >>= fun _ => _) _ _ _
 refine wpAny_bind (wpAny_field gz rfl (x := .ref TI) rfl (wpAny_bind (wpAny_seqItems gI rfl ?_)))
 show wpAny _ _ (Builtin.SmallTypes.ownedTupleIsFree (.ref z) >>= fun _ => _) _ _ _
 unfold Builtin.SmallTypes.ownedTupleIsFree
 refine wpAny_bind (wpAny_bind (wpAny_field gz rfl (x := .none) rfl (wpAny_pure ?_)))
 simp only [if_true]
 refine wpAny_bind (wpAny_rule (wpAny_bind (wpAny_field gz rfl (x := .ref TO) rfl (wpAny_bind (wpAny_setField_rec gz (by simp) fun h₁ gz₁ s₁ => ?_)))))
 have gz₁ : IsZip h₁ z TI TO .ellipsis := gz₁
 refine wpAny_bind ?_
 simp only [List.zipIdx_cons, List.forIn_cons, List.zipIdx_nil, List.forIn_nil]
 cases hx : xs[k1]? with
 | none =>
  refine wpAny_bind (wpAny_bind (wpAny_onRaise (wpAny_bind (m := Builtin.SmallTypes.nextOf (.ref i1)) (ZaN hh (u1.ext s₁.extBut D.i1z) (m1.ext s₁.extBut D.l1z) hx fun h₂ e s₂ he => ?_))))
  obtain ⟨oe, ge, ce⟩ := he
  have gz₂ : IsZip h₂ z TI TO .ellipsis := s₂ _ _ D.i1z.symm gz₁
  have nez : e ≠ z := fun v => by rw [v, gz₂] at ge; cases ge; simp at ce
  exact wpAny_setField_rec gz₂ (by simp) fun h₃ _ s₃ => hE h₃ e (fun c o c1 _ c3 _ v => s₃.extBut _ _ c1 (s₂ _ _ c3 (s₁.extBut _ _ c1 v))) ⟨oe, s₃.extBut _ _ nez ge, ce⟩
 | some x =>
  have hy : ys[k2]? = none := hend.resolve_left (by rw [hx]; exact fun v => by cases v)
  refine wpAny_bind (wpAny_bind (wpAny_onRaise (wpAny_bind (m := Builtin.SmallTypes.nextOf (.ref i1)) (JK (u1.ext s₁.extBut D.i1z) (m1.ext s₁.extBut D.l1z) hx fun h₂ u1₂ s₂ => wpAny_pure ?_))))
  have gO₂ : IsPair h₂ TO a b := s₂.extBut _ _ D.TOi1 (s₁.extBut _ _ D.TOz gO)
  refine wpAny_bind (wpAny_seqItems gO₂ rfl (wpAny_bind (wpAny_updateSeq_pair gO₂ fun h₃ gO₃ s₃ => wpAny_bind (wpAny_letGo (wpAny_pure ?_)))))
  refine wpAny_bind (wpAny_bind (wpAny_onRaise (wpAny_bind (m := Builtin.SmallTypes.nextOf (.ref i2)) (ZaN hh (((u2.ext s₁.extBut D.i2z).ext s₂.extBut D.i12.symm).ext s₃.extBut D.TOi2.symm) (((m2.ext s₁.extBut D.l2z).ext s₂.extBut D.l2i1).ext s₃.extBut D.l2TO) hy fun h₄ e s₄ he => ?_))))
  obtain ⟨oe, ge, ce⟩ := he
  have gz₄ : IsZip h₄ z TI TO .ellipsis := s₄ _ _ D.i2z.symm (s₃.extBut _ _ D.TOz.symm (s₂.extBut _ _ D.i1z.symm gz₁))
  have nez : e ≠ z := fun v => by rw [v, gz₄] at ge; cases ge; simp at ce
  exact wpAny_setField_rec gz₄ (by simp) fun h₅ _ s₅ => hE h₅ e (fun c o c1 c2 c3 c4 v => s₅.extBut _ _ c1 (s₄ _ _ c4 (s₃.extBut _ _ c2 (s₂.extBut _ _ c3 (s₁.extBut _ _ c1 v))))) ⟨oe, s₅.extBut _ _ nez ge, ce⟩
theorem Za2 {p q : Bool} {z TI TO i1 i2 l1 l2 : Addr} {k1 k2 : Nat} {xs ys : Array Value} {x y a b : Value} {Q : Option Value -> Shared -> Prop} (D : ZipApart z TI TO i1 i2 l1 l2)
 (gz : IsZip s.heap z TI TO .none) (gI : IsPair s.heap TI (.ref i1) (.ref i2)) (gO : IsPair s.heap TO a b) (u1 : IsQI p s.heap i1 l1 k1) (u2 : IsQI q s.heap i2 l2 k2) (m1 : IsQ p s.heap l1 xs) (m2 : IsQ q s.heap l2 ys) (hx : xs[k1]? = some x) (hy : ys[k2]? = some y)
 (hQ : ∀ h', IsZip h' z TI TO (rawInt s.heap.objs.size) -> IsPair h' TO x y -> IsQI p h' i1 l1 (k1 + 1) -> IsQI q h' i2 l2 (k2 + 1) -> IsPair h' s.heap.objs.size x y -> h'.objs.size = s.heap.objs.size + 1 -> (∀ c o, c ≠ z -> c ≠ TO -> c ≠ i1 -> c ≠ i2 -> s.heap.get? c = some o -> h'.get? c = some o) -> Q (some (.ref s.heap.objs.size)) { s with heap := h' }) :
 wpAny (model prog w) A (pyNext (.ref z)) Q E s := by
 have tz : s.TypeIs (.ref z) "zip" := ⟨_, gz, rfl⟩
 unfold pyNext
 exact wpAny_bind (wpAny_attempt (wpAny_callSpecial?_slot (name := Str.ofString "__next__") tz F.slot_zip_next (wpAny_call_entry F.slot_zip_next tz F.entry_zip_next (ZcK D gz gI gO u1 u2 m1 m2 hx hy fun h' a1 a2 a3 a4 a5 a6 a7 => wpAny_pure (hQ h' a1 a2 a3 a4 a5 a6 a7)) (F.args_zip_next_1 _))))
theorem Za9 {p q : Bool} {z TI TO i1 i2 l1 l2 : Addr} {k1 k2 : Nat} {xs ys : Array Value} {a b : Value} {Q : Option Value -> Shared -> Prop} (hh : A.handled = none) (D : ZipApart z TI TO i1 i2 l1 l2)
 (gz : IsZip s.heap z TI TO .none) (gI : IsPair s.heap TI (.ref i1) (.ref i2)) (gO : IsPair s.heap TO a b) (u1 : IsQI p s.heap i1 l1 k1) (u2 : IsQI q s.heap i2 l2 k2) (m1 : IsQ p s.heap l1 xs) (m2 : IsQ q s.heap l2 ys) (hend : xs[k1]? = none \/ ys[k2]? = none)
 (hQ : ∀ h', (∀ c o, c ≠ z -> c ≠ TO -> c ≠ i1 -> c ≠ i2 -> s.heap.get? c = some o -> h'.get? c = some o) -> Q none { s with heap := h' }) : wpAny (model prog w) A (pyNext (.ref z)) Q E s := by
 have tz : s.TypeIs (.ref z) "zip" := ⟨_, gz, rfl⟩
 unfold pyNext
 refine wpAny_bind (wpAny_attempt (wpAny_callSpecial?_slot (name := Str.ofString "__next__") tz F.slot_zip_next (wpAny_call_entry F.slot_zip_next tz F.entry_zip_next (Zc8 hh D gz gI gO u1 u2 m1 m2 hend fun h' e hk he => ?_) (F.args_zip_next_1 _))))
 obtain ⟨o, go, co⟩ := he
 exact wpAny_bind (wpAny_isInstance (T := "StopIteration") (b := true) ⟨o, go, co⟩ isSubtype_stop (wpAny_pure (hQ _ hk)))
end
abbrev itO (k : Bool) (l : Addr) : Obj := { cls := .type (if k then "tuple_iterator" else "list_iterator"), data := .fields #[.ref l, .int 0 0] }
abbrev zq2 (p q : Bool) (h : Heap) (l1 l2 : Addr) : Heap := (h.push (itO p l1)).push (itO q l2)
abbrev zq3 (p q : Bool) (h : Heap) (l1 l2 : Addr) : Heap := (zq2 p q h l1 l2).push { cls := .type "tuple", data := .seq #[.ref h.objs.size, .ref (h.push (itO p l1)).objs.size] }
abbrev zq4 (p q : Bool) (h : Heap) (l1 l2 : Addr) : Heap := (zq3 p q h l1 l2).push { cls := .type "tuple", data := .seq #[.none, .none] }
abbrev zq5 (p q : Bool) (h : Heap) (l1 l2 : Addr) : Heap := (zq4 p q h l1 l2).push { cls := .type "zip", data := .fields #[.none, .bool false, .bool false, .ref (zq2 p q h l1 l2).objs.size, .ref (zq3 p q h l1 l2).objs.size] }
theorem ZbJ (p q : Bool) (l1 l2 : Addr) (xs ys : Array Value) : Meets (Builtin.«zip.__new__» ⟨[.type "zip", .ref l1, .ref l2], []⟩) (fun _ R s => IsQ p s.heap l1 xs /\ IsQ q s.heap l2 ys /\ R (.ok (.ret (.ref (zq4 p q s.heap l1 l2).objs.size))) { s with heap := zq5 p q s.heap l1 l2 }) :=
 .of_wp fun prog w A R s h => by
  obtain ⟨hp, g, d, tk, os⟩ := s; obtain ⟨m1, m2, h⟩ := h
  have hsub := sub_zip
  cases p <;> cases q
  · have e1 : Heap.IsList (Shared.heap ⟨hp, g, d, tk, os⟩) l1 xs := m1
    have e2 : Heap.IsList (Shared.heap ⟨hp.push { cls := .type "list_iterator", data := .fields #[.ref l1, .int 0 0] }, g, d, tk, os⟩) l2 ys := Heap.IsList.push m2 _
    wp_walk using wpAny_pyIter_list e1, wpAny_pyIter_list e2
    exact ⟨_, rfl, h⟩
  · have e1 : Heap.IsList (Shared.heap ⟨hp, g, d, tk, os⟩) l1 xs := m1
    have e2 : Heap.IsTuple (Shared.heap ⟨hp.push { cls := .type "list_iterator", data := .fields #[.ref l1, .int 0 0] }, g, d, tk, os⟩) l2 ys := Heap.IsTuple.push m2 _
    wp_walk using wpAny_pyIter_list e1, wpAny_pyIter_tuple e2
    exact ⟨_, rfl, h⟩
  · have e1 : Heap.IsTuple (Shared.heap ⟨hp, g, d, tk, os⟩) l1 xs := m1
    have e2 : Heap.IsList (Shared.heap ⟨hp.push { cls := .type "tuple_iterator", data := .fields #[.ref l1, .int 0 0] }, g, d, tk, os⟩) l2 ys := Heap.IsList.push m2 _
    wp_walk using wpAny_pyIter_tuple e1, wpAny_pyIter_list e2
    exact ⟨_, rfl, h⟩
  · have e1 : Heap.IsTuple (Shared.heap ⟨hp, g, d, tk, os⟩) l1 xs := m1
    have e2 : Heap.IsTuple (Shared.heap ⟨hp.push { cls := .type "tuple_iterator", data := .fields #[.ref l1, .int 0 0] }, g, d, tk, os⟩) l2 ys := Heap.IsTuple.push m2 _
    wp_walk using wpAny_pyIter_tuple e1, wpAny_pyIter_tuple e2
    exact ⟨_, rfl, h⟩
theorem ZdH (k : Bool) {h : Heap} {a l : Addr} (e : h.get? a = some (itO k l)) : IsQI k h a l 0 := by
 cases k with
 | true => exact ⟨_, e, rfl, rfl⟩
 | false => exact ⟨_, e, rfl, rfl⟩
section
variable {prog : Program} {w : World} {A : Around} {E : Value -> Shared -> Prop} {s : Shared}
theorem ZcL {p q : Bool} {l1 l2 : Addr} {xs ys : Array Value} {Q : Value -> Shared -> Prop} (m1 : IsQ p s.heap l1 xs) (m2 : IsQ q s.heap l2 ys)
 (h : ∀ h', IsZip h' (s.heap.objs.size + 4) (s.heap.objs.size + 2) (s.heap.objs.size + 3) .none -> IsPair h' (s.heap.objs.size + 2) (.ref s.heap.objs.size) (.ref (s.heap.objs.size + 1)) -> IsPair h' (s.heap.objs.size + 3) .none .none -> IsQI p h' s.heap.objs.size l1 0 -> IsQI q h' (s.heap.objs.size + 1) l2 0 -> (∀ c o, s.heap.get? c = some o -> h'.get? c = some o) -> Q (.ref (s.heap.objs.size + 4)) { s with heap := h' }) :
 wpAny (model prog w) A (call (.type "zip") [.ref l1, .ref l2]) Q E s := by
 refine callType_new F.called_zip (by decide) (F.typeCall_zip_2 _ _) (F.newCall_zip_2 _ _) (fun obj => F.args_object_init_3 obj _ _) F.entry_zip_new (ZbJ p q l1 l2 xs ys) ⟨m1, m2, ?_⟩
 have z1 : (s.heap.push (itO p l1)).objs.size = s.heap.objs.size + 1 := Heap.size_push ..
 have z2 : (zq2 p q s.heap l1 l2).objs.size = s.heap.objs.size + 2 := by rw [Heap.size_push, z1]
 have z3 : (zq3 p q s.heap l1 l2).objs.size = s.heap.objs.size + 3 := by rw [Heap.size_push, z2]
 have z4 : (zq4 p q s.heap l1 l2).objs.size = s.heap.objs.size + 4 := by rw [Heap.size_push, z3]
 have up := fun (h : Heap) (o o' : Obj) (a : Addr) (e : h.get? a = some o') => Heap.get?_push_of_some (h := h) o e
 have g5 : (zq5 p q s.heap l1 l2).get? (zq4 p q s.heap l1 l2).objs.size = some _ := Heap.get?_push_size _ rfl
 have g4 : (zq5 p q s.heap l1 l2).get? (zq3 p q s.heap l1 l2).objs.size = some _ := up _ _ _ _ (Heap.get?_push_size _ rfl)
 have g3 : (zq5 p q s.heap l1 l2).get? (zq2 p q s.heap l1 l2).objs.size = some _ := up _ _ _ _ (up _ _ _ _ (Heap.get?_push_size _ rfl))
 have g2 : (zq5 p q s.heap l1 l2).get? (s.heap.push (itO p l1)).objs.size = some (itO q l2) := up _ _ _ _ (up _ _ _ _ (up _ _ _ _ (Heap.get?_push_size _ (by cases q <;> rfl))))
 have g1 : (zq5 p q s.heap l1 l2).get? s.heap.objs.size = some (itO p l1) := up _ _ _ _ (up _ _ _ _ (up _ _ _ _ (up _ _ _ _ (Heap.get?_push_size _ (by cases p <;> rfl)))))
 show _ /\ _
 rw [z2, z3, z4] at g5
 rw [z1, z2] at g3
 rw [z3] at g4
 rw [z1] at g2
 rw [z4]
 exact ⟨⟨_, g5, rfl⟩, h _ g5 g3 g4 (ZdH p g1) (ZdH q g2) fun c o e => up _ _ _ _ (up _ _ _ _ (up _ _ _ _ (up _ _ _ _ (up _ _ _ _ e))))⟩
end
end PySem
namespace L2
open PySem PySem.Spec PyProof.Rows
def SqQ (k : Bool) (K : PySem.W.Frag) (H : Hp) (a : Addr) (xs : List V) : Prop := match k with
 | true => SqT K H a xs
 | false => SqL K H a xs
theorem Inv.seqQ {X : Cx} {pins : List (Addr × Obj)} {σ : St} {H : Hp} {s : Shared} {k : Bool} {a : Addr} {xs : List V} (I : Inv X pins σ H s) (h : SqQ k X.K H a xs) : ∃ its : List Value, Vals xs its /\ IsQ k s.heap a its.toArray /\ xs.length <= sizeLine := by
 cases k with
 | true => exact I.tuple h
 | false =>
  obtain ⟨its, r, p, z⟩ := I.list h
  exact ⟨its, r, p.isList, z⟩
theorem Inv.seqQ_inj {X : Cx} {pins : List (Addr × Obj)} {σ : St} {H : Hp} {s : Shared} {k : Bool} {a : Addr} {xs ys : List V} (I : Inv X pins σ H s) (h : SqQ k X.K H a xs) (h' : SqQ k X.K H a ys) : xs = ys := by
 cases k with
 | true => exact I.tuple_inj h h'
 | false => exact Inv.list_inj I h h'
def JL (kp kq : Bool) (K : PySem.W.Frag) (l1 l2 : Addr) : It :=
 ⟨fun i H => ∃ xs ys x y, SqQ kp K H l1 xs /\ SqQ kq K H l2 ys /\ xs[i]? = some x /\ ys[i]? = some y,
  fun i H v H' => ∃ x y p, (∀ xs, SqQ kp K H l1 xs -> xs[i]? = some x) /\ (∀ ys, SqQ kq K H l2 ys -> ys[i]? = some y) /\ H p = none /\ v = .ref p /\ H' = upd H p (.tup [x, y]),
  fun i H => ∃ xs ys, SqQ kp K H l1 xs /\ SqQ kq K H l2 ys /\ (xs.length <= i \/ ys.length <= i)⟩
theorem ZcM {p q : Bool} {P : Program} {w : World} {K : PySem.W.Frag} {elts : List Expr} {x1 : Nat} {tpos : Pos} (n l1 l2 : Nat) (hl1 : l1 < n) (hl2 : l2 < n) :
 Turn P w K (.Tuple elts x1 tpos) (JL p q K l1 l2) [n + 4, n + 2, n + 3, n, n + 1] (n + 4) (fun i h => IsZip h (n + 4) (n + 2) (n + 3) .none /\ IsPair h (n + 2) (.ref n) (.ref (n + 1)) /\ (∃ a b, IsPair h (n + 3) a b) /\ IsQI p h n l1 i /\ IsQI q h (n + 1) l2 i) where
 mem := by simp
 obj := fun i h st b hb => by
  obtain ⟨hz, hTI, ⟨a, b', hTO⟩, h1, h2⟩ := st
  obtain ⟨o1, ho1, hd1⟩ := h1.get
  obtain ⟨o2, ho2, hd2⟩ := h2.get
  simp at hb
  rcases hb with rfl | rfl | rfl | rfl | rfl
  · exact ⟨_, hz, fun v z => by
     have z' : Data.fields _ = Data.cell v := z
     cases z'⟩
  · exact ⟨_, hTI, fun v z => by
     have z' : Data.seq _ _ = Data.cell v := z
     cases z'⟩
  · exact ⟨_, hTO, fun v z => by
     have z' : Data.seq _ _ = Data.cell v := z
     cases z'⟩
  · exact ⟨o1, ho1, fun v z => by rw [hd1] at z; cases z⟩
  · exact ⟨o2, ho2, fun v z => by rw [hd2] at z; cases z⟩
 keep := fun i h h' st k => by
  obtain ⟨hz, hTI, ⟨a, b', hTO⟩, h1, h2⟩ := st
  exact ⟨k _ (by simp) _ hz, k _ (by simp) _ hTI, ⟨a, b', k _ (by simp) _ hTO⟩, h1.at fun o q => k n (by simp) o q, h2.at fun o q => k (n + 1) (by simp) o q⟩
 item := by
  intro X hP hw hK hc i pins s σ H E I hf st hg
  subst hP hw hK
  obtain ⟨hz, hTI, ⟨a, b', hTO⟩, h1, h2⟩ := st
  obtain ⟨xs, ys, x, y, hq1, hq2, hx, hy⟩ := hg
  obtain ⟨its1, rv1, p1, _⟩ := I.seqQ hq1
  obtain ⟨its2, rv2, p2, _⟩ := I.seqQ hq2
  obtain ⟨u, hu, ru⟩ := rv1.get hx
  obtain ⟨v, hv, rv⟩ := rv2.get hy
  have D : ZipApart (n + 4) (n + 2) (n + 3) n (n + 1) l1 l2 := zipApart_new hl1 hl2
  refine Za2 D hz hTI hTO h1 h2 p1 p2 (x := u) (y := v) (by simpa using hu) (by simpa using hv) fun h' a1 a2 a3 a4 a5 a6 hk => ?_
  refine ⟨_, rfl, wpAny_letOwnedTupleGo_zip a1 fun h2' hz2 hs2 => ?_⟩
  have hs2 : Heap.SameBut (n + 4) h' h2' := hs2
  have hzl : n + 4 < s.heap.objs.size := Heap.lt_size hz
  have hT2 : h2'.get? s.heap.objs.size = some { cls := .type "tuple", data := .seq #[u, v] } := (hs2.2 _ (Nat.ne_of_gt hzl)).trans a5
  have k2 : ∀ b o, b ≠ n + 4 -> b ≠ n + 3 -> b ≠ n -> b ≠ n + 1 -> s.heap.get? b = some o -> h2'.get? b = some o := fun b o b1 b2 b3 b4 q => (hs2.2 b b1).trans (hk b o b1 b2 b3 b4 q)
  have hTn : H s.heap.objs.size = none := I.hok.fresh (Nat.le_refl _)
  have neT : ∀ b o, s.heap.get? b = some o -> b ≠ s.heap.objs.size := fun b o q => Nat.ne_of_lt (Heap.lt_size q)
  have hF : ∀ b, b = n + 4 \/ b = n + 3 \/ b = n \/ b = n + 1 -> Yt X pins H b := fun b hb => hf b (by rcases hb with rfl | rfl | rfl | rfl <;> simp)
  have I2 : Inv X pins σ (upd H s.heap.objs.size (.tup [x, y])) { s with heap := h2' } := by
   refine I.step (g' := s.gens) (d' := s.drawn) (t' := s.toks) (ch := [n + 4, n + 3, n, n + 1]) (fun b hb => ?_) (fun b o _ _ hcb q _ => ?_) (fun b o _ _ hcb q _ => ?_) (fun b o hcb q m => ?_) (fun b o hcb q => ?_) (fun b xs q => ?_) (fun b o v q => ?_) (fun b ps q => ?_) (fun m hm => ?_) (fun b o q => ?_) I.bare
   · obtain ⟨e0, e1, e2, e3, e4, e5⟩ := hF b (by simpa using hb)
     exact ⟨e3, e1, e4, e5⟩
   · simp at hcb
     exact k2 b o hcb.1 hcb.2.1 hcb.2.2.1 hcb.2.2.2 q
   · simp at hcb
     exact ⟨o.slots, k2 b o hcb.1 hcb.2.1 hcb.2.2.1 hcb.2.2.2 q⟩
   · rw [Zx (neT b o q)]
     exact m
   · simp at hcb
     exact ⟨o, k2 b o hcb.1 hcb.2.1 hcb.2.2.1 hcb.2.2.2 q⟩
   · rw [Zx (Z1 q hTn)]
     exact q
   · rw [Zx (Z1 q hTn)]
     exact q
   · exact ⟨#[], by rw [Zx (Z1 q hTn), q]; simp⟩
   · obtain ⟨o, es, ep, q, r⟩ := hm
     exact ⟨o, es, ep, k2 _ o (Ne.symm (hF _ (.inl rfl)).2.1) (Ne.symm (hF _ (.inr (.inl rfl))).2.1) (Ne.symm (hF _ (.inr (.inr (.inl rfl)))).2.1) (Ne.symm (hF _ (.inr (.inr (.inr rfl)))).2.1) q, r⟩
   · by_cases hb : b = s.heap.objs.size
     · subst hb
       rw [Z7] at q
       cases q
       refine ⟨by show 2 <= sizeLine; decide, [u, v], .cons ru (.cons rv .nil), ?_⟩
       exact ⟨_, hT2, rfl, ⟨_, rfl⟩, rfl⟩
     · rw [Zx hb] at q
       have nn : ∀ (b : Addr) (o : HO), H b = some o -> b ≠ n + 4 /\ b ≠ n + 3 /\ b ≠ n /\ b ≠ n + 1 := fun b o q => by
        refine ⟨fun z => ?_, fun z => ?_, fun z => ?_, fun z => ?_⟩
        · rw [z, (hF _ (.inl rfl)).1] at q; cases q
        · rw [z, (hF _ (.inr (.inl rfl))).1] at q; cases q
        · rw [z, (hF _ (.inr (.inr (.inl rfl)))).1] at q; cases q
        · rw [z, (hF _ (.inr (.inr (.inr rfl)))).1] at q; cases q
       refine (I.hok b o q).stay (fun d v hd q' => ?_) (fun d q' => by rw [Zx (Z1 q' hTn)]; exact q') fun d xs q' => by rw [Zx (Z1 q' hTn)]; exact q'
       rcases hd with rfl | hd
       · exact k2 d v (nn d o q).1 (nn d o q).2.1 (nn d o q).2.2.1 (nn d o q).2.2.2 q'
       · exact k2 d v (nn d _ hd).1 (nn d _ hd).2.1 (nn d _ hd).2.2.1 (nn d _ hd).2.2.2 q'
  refine ⟨.ref s.heap.objs.size, _, I2, rfl, ⟨x, y, s.heap.objs.size, fun zs hz => by rw [I.seqQ_inj hz hq1]; exact hx, fun zs hz => by rw [I.seqQ_inj hz hq2]; exact hy, hTn, rfl, rfl⟩, ⟨hz2, ?_, ⟨u, v, ?_⟩, ?_, ?_⟩, fun b hb => ?_⟩
  · exact hs2.extBut _ _ D.TIz (hk _ _ D.TIz D.TITO D.TIi1 D.TIi2 hTI)
  · exact hs2.extBut _ _ D.TOz a2
  · exact a3.ext hs2.extBut D.i1z
  · exact a4.ext hs2.extBut D.i2z
  · have hb0 : H b = none := (hf b hb).1
    have hbl : b < s.heap.objs.size := by
     simp at hb
     have hzl' : n + 4 < s.heap.objs.size := hzl
     rcases hb with rfl | rfl | rfl | rfl | rfl
     · exact hzl'
     · exact Nat.lt_of_le_of_lt (Nat.add_le_add_left (by decide) n) hzl'
     · exact Nat.lt_of_le_of_lt (Nat.add_le_add_left (by decide) n) hzl'
     · exact Nat.lt_of_le_of_lt (Nat.le_add_right b 4) hzl'
     · exact Nat.lt_of_le_of_lt (Nat.add_le_add_left (by decide) n) hzl'
    rw [Zx (Nat.ne_of_lt hbl)]
    exact hb0
 done := by
  intro X hP hw hK hc i pins s σ H E I hf st hg
  subst hP hw hK
  obtain ⟨hz, hTI, ⟨a, b', hTO⟩, h1, h2⟩ := st
  obtain ⟨xs, ys, hq1, hq2, hx⟩ := hg
  obtain ⟨its1, rv1, p1, _⟩ := I.seqQ hq1
  obtain ⟨its2, rv2, p2, _⟩ := I.seqQ hq2
  have e1 := rv1.length
  have e2 := rv2.length
  have D : ZipApart (n + 4) (n + 2) (n + 3) n (n + 1) l1 l2 := zipApart_new hl1 hl2
  have hF : ∀ b, b = n + 4 \/ b = n + 3 \/ b = n \/ b = n + 1 -> Yt X pins H b := fun b hb => hf b (by rcases hb with rfl | rfl | rfl | rfl <;> simp)
  refine Za9 (I.ok.hd hc) D hz hTI hTO h1 h2 p1 p2 (by
   rcases hx with hx | hx
   · exact .inl (by simp; omega)
   · exact .inr (by simp; omega)) fun h' k2 => ⟨rfl, ?_⟩
  have nn : ∀ (b : Addr) (o : HO), H b = some o -> b ≠ n + 4 /\ b ≠ n + 3 /\ b ≠ n /\ b ≠ n + 1 := fun b o q => by
   refine ⟨fun z => ?_, fun z => ?_, fun z => ?_, fun z => ?_⟩
   · rw [z, (hF _ (.inl rfl)).1] at q; cases q
   · rw [z, (hF _ (.inr (.inl rfl))).1] at q; cases q
   · rw [z, (hF _ (.inr (.inr (.inl rfl)))).1] at q; cases q
   · rw [z, (hF _ (.inr (.inr (.inr rfl)))).1] at q; cases q
  refine I.step (g' := s.gens) (d' := s.drawn) (t' := s.toks) (ch := [n + 4, n + 3, n, n + 1]) (fun b hb => ?_) (fun b o _ _ hcb q _ => ?_) (fun b o _ _ hcb q _ => ?_) (fun _ _ _ _ m => m) (fun b o hcb q => ?_) (fun _ _ e => e) (fun _ _ _ e => e) (fun b ps e => ⟨#[], by rw [e]; simp⟩) (fun m hm => ?_) (fun b o q => ?_) I.bare
  · obtain ⟨e0, e1, e2, e3, e4, e5⟩ := hF b (by simpa using hb)
    exact ⟨e3, e1, e4, e5⟩
  · simp at hcb
    exact k2 b o hcb.1 hcb.2.1 hcb.2.2.1 hcb.2.2.2 q
  · simp at hcb
    exact ⟨o.slots, k2 b o hcb.1 hcb.2.1 hcb.2.2.1 hcb.2.2.2 q⟩
  · simp at hcb
    exact ⟨o, k2 b o hcb.1 hcb.2.1 hcb.2.2.1 hcb.2.2.2 q⟩
  · obtain ⟨o, es, ep, q, r⟩ := hm
    exact ⟨o, es, ep, k2 _ o (Ne.symm (hF _ (.inl rfl)).2.1) (Ne.symm (hF _ (.inr (.inl rfl))).2.1) (Ne.symm (hF _ (.inr (.inr (.inl rfl)))).2.1) (Ne.symm (hF _ (.inr (.inr (.inr rfl)))).2.1) q, r⟩
  · refine (I.hok b o q).stay (fun d v hd q' => ?_) (fun _ q => q) fun _ _ q => q
    rcases hd with rfl | hd
    · exact k2 d v (nn d o q).1 (nn d o q).2.1 (nn d o q).2.2.1 (nn d o q).2.2.2 q'
    · exact k2 d v (nn d _ hd).1 (nn d _ hd).2.1 (nn d _ hd).2.2.1 (nn d _ hd).2.2.2 q'
 self := fun _ _ _ _ _ st h => wpAny_pyIter_zip st.1 h
section
variable {X : Cx} {elts : List Expr} {x1 : Nat} {tpos : Pos}
def ZeR (K : PySem.W.Frag) (ta : TA) : TI := fun σ H R => ta σ H fun vs H1 => ∃ p q l1 l2 xs ys, vs = [.ref l1, .ref l2] /\ SqQ p K H1 l1 xs /\ SqQ q K H1 l2 ys /\ R (JL p q K l1 l2) H1
theorem Zef {K : PySem.W.Frag} {a b : Expr} {ta tb : TE} {po pos : Pos} (hg : Gl X "zip") (hm : X.mg "zip" = none) (ha : PE X a ta) (hb : PE X b tb) (hs : starEach [a, b] X.env = (false, eval a X.env) :: starEach [b] X.env := by rfl) (hs2 : starEach [b] X.env = [(false, eval b X.env)] := by rfl) (hK : X.K = K := by rfl) :
 PI X (.Tuple elts x1 tpos) (.Call (.Name "zip" po) [a, b] [] pos) (ZeR K (Yu ta (Yu tb tNil))) := by
 subst hK
 intro pins s σ H R I h
 refine Call_ (YX I hg hm boot_zip (PyProof.Rows.callWith_type1 (thn ((Ze ha (Ze hb Zk hs2) hs) pos pins s σ H _ I h) fun us s1 ⟨vs, H1, I1, r1, q1⟩ => ?_) (by rw [hs, hs2]) (by rw [hs2]; rfl)))
 obtain ⟨p, q0, l1, l2, xs, ys, e, hq1, hq2, q⟩ := q1
 subst e
 cases r1 with
 | cons r rr =>
  cases rr with
  | cons r' rr' =>
   cases rr'
   cases r
   cases r'
   obtain ⟨its1, rv1, p1, _⟩ := I1.seqQ hq1
   obtain ⟨its2, rv2, p2, _⟩ := I1.seqQ hq2
   have lt1 : l1 < s1.heap.objs.size := p1.lt
   have lt2 : l2 < s1.heap.objs.size := p2.lt
   refine ZcL p1 p2 fun h' hz hTI hTO h1 h2 k => ?_
   refine wpAny_pyIter_zip hz ?_
   have I2 : Inv X pins σ H1 { s1 with heap := h' } := I1.kept (t' := s1.toks) k
   refine ⟨s1.heap.objs.size + 4, [s1.heap.objs.size + 4, s1.heap.objs.size + 2, s1.heap.objs.size + 3, s1.heap.objs.size, s1.heap.objs.size + 1], _, _, H1, rfl, I2, ZcM s1.heap.objs.size l1 l2 lt1 lt2, ⟨hz, hTI, ⟨_, _, hTO⟩, h1, h2⟩, fun b hb => ?_, q⟩
   have hb' : s1.heap.objs.size <= b := by
    simp at hb
    rcases hb with rfl | rfl | rfl | rfl | rfl
    · exact Nat.le_add_right _ _
    · exact Nat.le_add_right _ _
    · exact Nat.le_add_right _ _
    · exact Nat.le_refl _
    · exact Nat.le_add_right _ _
   exact I1.fpOk hb' (I1.hok.fresh hb')
def ZdI (K : PySem.W.Frag) (ta : TA) : TI := fun σ H R => ta σ H fun vs H1 => ∃ l xs, vs = [.ref l] /\ SqL K H1 l xs /\ R (JH K 0 l) H1
theorem Zc9 {K : PySem.W.Frag} {a : Expr} {ta : TE} {po pos : Pos} (hg : Gl X "enumerate") (hm : X.mg "enumerate" = none) (ha : PE X a ta) (hs : starEach [a] X.env = [(false, eval a X.env)] := by rfl) (hK : X.K = K := by rfl) :
 PI X (.Tuple elts x1 tpos) (.Call (.Name "enumerate" po) [a] [] pos) (ZdI K (Yu ta tNil)) := by
 subst hK
 intro pins s σ H R I h
 refine Call_ (YX I hg hm boot_enumerate (PyProof.Rows.callWith_type1 (thn ((Ze ha Zk hs) pos pins s σ H _ I h) fun us s1 ⟨vs, H1, I1, r1, q1⟩ => ?_) (by rw [hs]; rfl) (by rfl)))
 obtain ⟨l, xs, ev, hq, q⟩ := q1
 subst ev
 obtain ⟨w1, rfl, rx⟩ := YL r1
 cases rx
 obtain ⟨its, rv, pl, hz⟩ := I1.list hq
 refine call_enumerate_list pl.isList fun h' he st _ k => ?_
 refine wpAny_pyIter_enum he ?_
 have I3 : Inv X pins σ H1 { s1 with heap := h' } := I1.kept (t' := s1.toks) k
 refine ⟨s1.heap.objs.size + 1, [s1.heap.objs.size + 1, s1.heap.objs.size], _, _, H1, rfl, I3, ZbI (s1.heap.objs.size + 1) s1.heap.objs.size l (Nat.succ_ne_self _) 0, ⟨⟨_, he⟩, st⟩, fun b hb => ?_, q⟩
 have hb' : s1.heap.objs.size <= b := by
  simp at hb
  rcases hb with rfl | rfl
  · exact Nat.le_succ _
  · exact Nat.le_refl _
 exact I1.fpOk hb' (I1.hok.fresh hb')
end
end L2
namespace DL
open PySem PySem.Spec L2
section
variable {cA : Kn} {G : Cn} {ow : List Nat}
theorem Zbr {k : Bool} {K : PySem.W.Frag} {H H' : Hp} {a : Addr} {xs : List V} (e : Same H H') (h : SqQ k K H a xs) : SqQ k K H' a xs := by
 cases k with
 | false => exact Same.seq e h
 | true =>
  rcases h with (h | ⟨o, h⟩) | h
  · exact .inl (.inl (e _ _ h))
  · exact .inl (.inr ⟨o, e _ _ h⟩)
  · exact .inr h
theorem ZbK {p0 q0 : Bool} {iv : Addr -> Prop} {H0 : Hp} {a b : Addr} {vs ws : List V} {xs ys : List D} (rd : SqQ p0 cA.K H0 a vs) (l : RepL cA iv H0 xs vs) (rd2 : SqQ q0 cA.K H0 b ws) (l2 : RepL cA iv H0 ys ws) : Vj cA iv (JL p0 q0 cA.K a b) (Yb xs ys) H0 := fun H s => by
 have rd' : SqQ p0 cA.K H a vs := Zbr s rd
 have rd2' : SqQ q0 cA.K H b ws := Zbr s rd2
 refine ⟨fun i hi => ?_, fun i x v H' hx y => ?_, fun i hi => ⟨vs, ws, rd', rd2', ?_⟩⟩
 · rw [Qw] at hi
   obtain ⟨v, hv, _⟩ := l.get (List.getElem?_eq_getElem (show i < xs.length by omega))
   obtain ⟨u, hu, _⟩ := l2.get (List.getElem?_eq_getElem (show i < ys.length by omega))
   exact ⟨vs, ws, v, u, rd', rd2', hv, hu⟩
 · obtain ⟨z1, z2, p, hz1, hz2, hp, rfl, rfl⟩ := y
   have hi : i < (Yb xs ys).length := (List.getElem?_eq_some_iff.mp hx).1
   rw [Qw] at hi
   have e1 := List.getElem?_eq_getElem (show i < xs.length by omega)
   have e2 := List.getElem?_eq_getElem (show i < ys.length by omega)
   rw [Zbq xs ys i _ _ e1 e2] at hx
   cases hx
   obtain ⟨v1, hv1, r1⟩ := l.get e1
   obtain ⟨v2, hv2, r2⟩ := l2.get e2
   rw [hz1 vs rd'] at hv1
   rw [hz2 ws rd2'] at hv2
   cases hv1
   cases hv2
   refine ⟨Z8 hp, fun av' h1 h2 => ?_⟩
   unfold Rep
   exact ⟨p, _, rfl, fun z => h1 p z hp, Z7, .cons (((r1.av h2).same s).same (Z8 hp)) (.cons (((r2.av h2).same s).same (Z8 hp)) .nil)⟩
 · rw [Qw] at hi
   rw [<- l.length, <- l2.length]
   omega
def Uu : D -> Option (List D)
 | .lst xs => some xs
 | .tup xs => some xs
 | _ => none
def Uv (ε1 ε2 : Env -> Option D) (δ : Env) : Option (List D) := match ε1 δ, ε2 δ with
 | some x, some y => match Uu x, Uu y with
  | some xs, some ys => some (Yb xs ys)
  | _, _ => none
 | _, _ => none
theorem ZaO {av : Addr -> Prop} {A : Nat -> Option Addr} {H : Hp} {d : D} {xs : List D} {v : V} (h : Uu d = some xs) (r : Rep cA (AV av A) H d v) : ∃ k a vs, v = .ref a /\ SqQ k cA.K H a vs /\ SqQ k cA.K (cut A H) a vs /\ RepL cA (AV av A) H xs vs := by
 cases d <;> first | (cases h; done) | skip
 · cases h
   obtain ⟨a, vs, rfl, na, rd, l⟩ := r
   exact ⟨false, a, vs, rfl, rd, Qd na rd fun b o n e => by rw [Xx fun ⟨i, z⟩ => n (.inr ⟨i, z⟩)]; exact e, l⟩
 · cases h
   obtain ⟨a, vs, rfl, na, rd, l⟩ := r
   exact ⟨true, a, vs, rfl, SqT.of rd, SqT.of (by rw [Xx fun ⟨i, z⟩ => na (.inr ⟨i, z⟩)]; exact rd), l⟩
theorem Zeg {ta tb : TE} {ε1 ε2 : Env -> Option D} (h1 : VE G ow ta .cl ε1) (h2 : VE G ow tb .cl ε2) : VI G ow (ZeR G.1.K (Yu ta (Yu tb tNil))) (Uv ε1 ε2) := fun H0 av A σ H δ E xs e R k => by
 unfold Uv at e
 cases he1 : ε1 δ with
 | none => rw [he1] at e; cases e
 | some d1 =>
  cases he2 : ε2 δ with
  | none => rw [he1, he2] at e; cases e
  | some d2 =>
   rw [he1, he2] at e
   dsimp only at e
   cases hs1 : Uu d1 with
   | none => rw [hs1] at e; cases e
   | some x1 =>
    cases hs2 : Uu d2 with
    | none => rw [hs1, hs2] at e; cases e
    | some x2 =>
     rw [hs1, hs2] at e
     cases e
     refine h1 H0 av A σ H δ E _ he1 _ fun v H1 s1 r1 => ?_
     refine h2 H0 av A σ H1 δ (E.mono s1) _ he2 _ fun v2 H2 s2 r2 => ?_
     obtain ⟨p, a, vs, rfl, rd, rdc, l⟩ := ZaO hs1 (RepT.r (r1.same s2))
     obtain ⟨q, b, ws, rfl, rd2, rdc2, l2⟩ := ZaO hs2 (RepT.r r2)
     exact ⟨p, q, a, b, vs, ws, rfl, rd, rd2, k _ H2 (s1.trans s2) (ZbK rdc l.cut rdc2 l2.cut)⟩
theorem Zda {ta : TE} {ε : Env -> Option D} (h : VE G ow ta .cl ε) : VI G ow (ZdI G.1.K (Yu ta tNil)) (Us 0 ε) := fun H0 av A σ H δ E xs e R k => by
 unfold Us at e
 cases he : ε δ with
 | none => rw [he] at e; cases e
 | some d =>
  rw [he] at e
  cases d <;> first | (cases e; done) | skip
  cases e
  refine h H0 av A σ H δ E _ he _ fun v H1 s r => ?_
  obtain ⟨a, vs, rfl, na, rd, l⟩ := r
  exact ⟨a, vs, rfl, rd, k _ H1 s (Za6 (Qd na rd fun b o n e => by rw [Xx fun ⟨i, z⟩ => n (.inr ⟨i, z⟩)]; exact e) l.cut)⟩
end
end DL
namespace DL
open PySem PySem.Spec PyProof.Rows L2
def Xj : List Int -> Int
 | [] => 0
 | n :: ns => ns.foldl min n
theorem Zac : ∀ (ns : List Int) (n : Int), (ns.foldl min n = n \/ ns.foldl min n ∈ ns) /\ ns.foldl min n <= n /\ ∀ a ∈ ns, ns.foldl min n <= a
 | [], n => ⟨.inl rfl, Int.le_refl _, fun _ z => nomatch z⟩
 | m :: ns, n => by
  obtain ⟨h1, h2, h3⟩ := Zac ns (min n m)
  rw [List.foldl_cons]
  refine ⟨?_, by omega, fun a ha => ?_⟩
  · rcases h1 with h | h
    · by_cases hm : n <= m
      · exact .inl (by rw [h, Int.min_eq_left hm])
      · exact .inr (by rw [h, Int.min_eq_right (by omega)]; exact List.mem_cons_self)
    · exact .inr (List.mem_cons_of_mem _ h)
  · rcases List.mem_cons.mp ha with rfl | ha
    · omega
    · exact h3 a ha
theorem JM {ns : List Int} (h : 0 < ns.length) : Xj ns ∈ ns /\ ∀ a ∈ ns, Xj ns <= a := by
 cases ns with
 | nil => cases h
 | cons n ns =>
  obtain ⟨h1, h2, h3⟩ := Zac ns n
  refine ⟨?_, fun a ha => ?_⟩
  · rcases h1 with h | h
    · show ns.foldl min n ∈ _
      rw [h]; exact List.mem_cons_self
    · exact List.mem_cons_of_mem _ h
  · rcases List.mem_cons.mp ha with rfl | ha
    · exact h2
    · exact h3 a ha
theorem ZcN {ns : List Int} {M : Int} (h1 : M ∈ ns) (h2 : ∀ a ∈ ns, M <= a) : M = Xj ns := by
 obtain ⟨h3, h4⟩ := JM (List.length_pos_of_mem h1)
 exact Int.le_antisymm (h2 _ h3) (h4 M h1)
def JN (K : PySem.W.Frag) : List V -> Hp -> VK -> Prop := fun xs H Q => ∃ (p : Addr) (ns : List Int), xs = [.ref p] /\ SqL K H p (ns.map V.int) /\ 0 < ns.length /\ Q (.int (Xj ns)) H
section
variable {X : Cx} {K : PySem.W.Frag} {cA : Kn}
theorem ZcO (hc : X.calm = true) : Ye X (.builtin "min") (JN X.K) := by
 intro pins s σ H xs us Q I rs h
 obtain ⟨p, ns, rfl, hq, hne, q⟩ := h
 obtain ⟨u, rfl, rx⟩ := YL rs
 cases rx
 obtain ⟨its, rv, pl, hz⟩ := I.list hq
 have hi := Qq ns its rv
 obtain ⟨ys, e⟩ := hi.allInts.items
 have hns : ns = ys.toList.map (·.1) := by
  rw [<- hi.numsOf, <- nums_intItems, <- e]
 have hsz : 0 < ys.size := by
  have h3 := hne; rw [hns, List.length_map, Array.length_toList] at h3; exact h3
 have hl := pl.isList
 rw [e] at hl
 refine min_intList (I.ok.hd hc) hl hsz fun v h' tk hv hk => ?_
 obtain ⟨t, rfl⟩ := intItems_at hv
 obtain ⟨h1, h2⟩ := argBest_lt (numAt ys) (ys.size - 1)
 have hM := ZcN (ns := ns) (M := numAt ys (argBest (fun i j => decide (numAt ys i < numAt ys j)) (ys.size - 1))) (by
  rw [hns, numAt_eq]; exact getD_mem (by rw [List.length_map, Array.length_toList]; omega)) (fun a ha => by
  rw [hns] at ha
  obtain ⟨j, hj, rfl⟩ := mem_getD ha
  rw [List.length_map, Array.length_toList] at hj
  rw [<- numAt_eq]; exact h2 j (by omega))
 exact ⟨.int (Xj ns), H, I.kept hk, ⟨t, by rw [hM]⟩, q⟩
theorem ZdJ (hc : X.calm = true := by rfl) (hK : X.K = K := by rfl) : Ye X (.builtin "min") (JN K) := hK ▸ ZcO hc
def minLD : List D -> Option D
 | [.lst xs] => match YQ xs with
  | some ns => if 0 < ns.length then some (.int (Xj ns)) else none
  | none => none
 | _ => none
theorem Zca : Vh cA (JN cA.K) minLD := fun i H ds vs d _ h e Q k => by
 unfold minLD at e
 split at e
 · rename_i xs
   cases hb : YQ xs with
   | none => rw [hb] at e; cases e
   | some bs =>
    rw [hb] at e
    dsimp only at e
    by_cases hz : 0 < bs.length
    · rw [if_pos hz] at e
      cases e
      obtain ⟨v, t, rfl, a, ws, rfl, _, rd, l⟩ := il1 h
      have ex := Qo hb
      subst ex
      have ev := l.vals (by rw [List.all_map]; exact List.all_eq_true.mpr fun _ _ => rfl)
      rw [List.map_map] at ev
      subst ev
      exact ⟨a, bs, rfl, rd, hz, k _ H (Same.refl H) rfl⟩
    · rw [if_neg hz] at e; cases e
 · cases e
variable {G : Cn} {ow : List Nat}
open Classical in
end
end DL
namespace DL
open PySem PySem.Spec L2
section
variable {cA : Kn} {av : Addr -> Prop} {H : Hp}
end
section
variable {G : Cn} {ow owN owB owC ow1 : List Nat} {H0 H : Hp} {av : Addr -> Prop} {A : Nat -> Option Addr} {σ : L2.St} {δ : Env}
end
end DL
namespace L2
open PySem PySem.Spec PyProof.Rows
section
variable {X : Cx}
end
end L2
namespace DL
open PySem PySem.Spec L2
section
variable {G : Cn} {ow owN owB owC ow1 : List Nat}
open Classical in
end
end DL
namespace L2
open PySem PySem.Spec PyProof.Rows
section
variable {X : Cx}
end
end L2
namespace DL
open PySem PySem.Spec L2
section
variable {G : Cn} {ow owN owB owC ow1 : List Nat}
end
end DL
namespace DL
open PySem PySem.Spec L2
section
variable {cA : Kn} {G : Cn} {ow owN owB owC : List Nat}
end
end DL
namespace DL
open PySem PySem.Spec L2
section
variable {X : Cx} {cA : Kn}
open Classical in
end
end DL
namespace DL
open PySem PySem.Spec L2
section
variable {cA : Kn} {G : Cn} {ow owN owB owC ow1 : List Nat} {i : Nat} {H0 H H' : Hp} {av : Addr -> Prop} {A : Nat -> Option Addr} {σ : L2.St} {δ : Env}
open Classical in
end
end DL
namespace DL
open PySem PySem.Spec L2
section
variable {cA : Kn} {G : Cn} {ow owN owB owC ow1 : List Nat} {i : Nat} {H0 H H' : Hp} {av : Addr -> Prop} {A A' : Nat -> Option Addr} {σ σ' : L2.St} {δ δ1 : Env}
end
end DL
namespace DL
open PySem PySem.Spec L2
section
variable {cA : Kn} {G : Cn} {ow owN owB owC ow1 : List Nat} {i : Nat}
open Classical in
end
end DL
namespace DL
open PySem PySem.Spec L2
section
variable {G : Cn} {ow ow1 : List Nat}
end
end DL
namespace L2
open PySem PySem.Spec PyProof.Rows
structure CompSd (X : Cx) (scope : Scope) (tn cn : List Str) (js : List Nat) : Prop where
 kind : scope.kind = .function
 own : ∀ y ∈ scope.names, y.2 = .cell -> scope.names.lookup y.1 = some .cell
 names : ∀ y ∈ scope.names, y.2 = .local -> scope.names.lookup y.1 = some .local
 free : ∀ y ∈ scope.names, y.2 = .free -> X.env.kindOf y.1 = some .cell \/ X.env.kindOf y.1 = some .free
 cap : ∀ (k : Nat) (x : Str), cn[k]? = some x -> ∃ j, js[k]? = some j /\ X.N[j]? = some x /\ (X.env.kindOf x = some .cell \/ X.env.kindOf x = some .free) /\ scope.names.lookup x = some .free
 len : cn.length = js.length
section
variable {X : Cx} {pins : List (Addr × Obj)} {σ : St} {H₂ : Hp} {s₂ : Shared} {scope : Scope} {tn cn : List Str} {js : List Nat}
end
section
variable {X : Cx} {tg iter elt : Expr} {ifs : List Expr} {scope : Scope} {pos : Pos} {wi : TI} {g : TG} {tt : TT} {te : TE} {tn cn : List Str} {js : List Nat}
end
end L2
namespace PySem
abbrev Vl (h : Heap) (z TI TO : Addr) (f0 f1 : Value) : Prop :=
 h.get? z = some { cls := .type "zip", dict := none, data := .fields #[f0, f1, .bool false, .ref TI, .ref TO], slots := #[] }
section
variable {prog : Program} {w : World} {A : Around} {E : Value -> Shared -> Prop} {s : Shared}
theorem Zag {M : Model} {a : Addr} {Q : Option Obj -> Shared -> Prop} (h : Q (s.heap.get? a) s) : wpAny M A (loadIfAlive a) Q E s := fun Γ p hΓ => by
 show Sem.wp M Γ (Sem.loadIfAlive a Sem.pure) _ _ p s
 rw [Sem.wp_loadIfAlive]
 exact h
theorem Zad {z TI TO T : Addr} {b : Bool} {o : Obj} {Q : Bool -> Shared -> Prop} (hz : Vl s.heap z TI TO (rawInt T) (.bool b)) (hT : s.heap.get? T = some o)
 (h : ∀ h' b', Vl h' z TI TO (rawInt T) (.bool b') -> Heap.SameBut z s.heap h' -> Q false { s with heap := h' }) : wpAny (model prog w) A (Builtin.SmallTypes.ownedTupleIsFree (.ref z)) Q E s := by
 unfold Builtin.SmallTypes.ownedTupleIsFree
 refine wpAny_bind (wpAny_field hz rfl (x := rawInt T) rfl ?_)
 show wpAny _ _ (loadIfAlive _ >>= _) _ _ _
 refine wpAny_bind (Zag ?_)
 have e : ((T : Int)).toNat = T := Int.toNat_natCast T
 rw [e, hT]
 show wpAny _ _ (field (.ref z) 1 >>= _) _ _ _
 refine wpAny_bind (wpAny_field hz rfl (x := .bool b) rfl ?_)
 cases b with
 | true => exact wpAny_pure (h _ true hz (Heap.SameBut.refl ..))
 | false =>
  show wpAny _ _ (setField (.ref z) 1 (.bool true) >>= _) _ _ _
  refine wpAny_bind (wpAny_setField_rec hz (by simp) fun h₁ hz₁ hs₁ => ?_)
  exact wpAny_pure (h h₁ true hz₁ hs₁)
theorem Zao {z TI TO i1 i2 l1 l2 T : Addr} {bb : Bool} {o : Obj} {k1 k2 : Nat} {xs ys : Array Value} {x y : Value} {Q : Value -> Shared -> Prop} (D : ZipApart z TI TO i1 i2 l1 l2)
 (hz : Vl s.heap z TI TO (rawInt T) (.bool bb)) (hT : s.heap.get? T = some o) (hTI : IsPair s.heap TI (.ref i1) (.ref i2))
 (h1 : s.heap.IsListIter i1 l1 k1) (h2 : s.heap.IsListIter i2 l2 k2) (hl1 : s.heap.IsList l1 xs) (hl2 : s.heap.IsList l2 ys) (hx : xs[k1]? = some x) (hy : ys[k2]? = some y)
 (hQ : ∀ h' b', Vl h' z TI TO (rawInt T) (.bool b') -> h'.IsListIter i1 l1 (k1 + 1) -> h'.IsListIter i2 l2 (k2 + 1) -> IsPair h' s.heap.objs.size x y -> h'.objs.size = s.heap.objs.size + 1 ->
   (∀ c o, c ≠ z -> c ≠ i1 -> c ≠ i2 -> s.heap.get? c = some o -> h'.get? c = some o) -> Q (.ref s.heap.objs.size) { s with heap := h' }) :
 wpAny (model prog w) A (Builtin.«zip.__next__» ⟨[.ref z], []⟩) (fun fin s' => ∃ v, fin = .done (.ret v) /\ Q v s') E s := by
 show wpAny _ _ (field (.ref z) 2 >>= _) _ _ _
 refine wpAny_bind (wpAny_field hz rfl (x := .bool false) rfl ?_)
 show wpAny _ _ (field (.ref z) 3 >>= _) _ _ _
 refine wpAny_bind (wpAny_field hz rfl (x := .ref TI) rfl ?_)
 refine wpAny_bind (wpAny_seqItems hTI rfl ?_)
 show wpAny _ _ (Builtin.SmallTypes.ownedTupleIsFree (.ref z) >>= _) _ _ _
 refine wpAny_bind (Zad hz hT fun h₀ b₀ hz₀ hs₀ => ?_)
 simp only [Bool.false_eq_true, if_false]
 simp only [List.forIn_toArray, List.forIn_cons, List.forIn_nil]
 refine wpAny_bind (wpAny_bind (wpAny_bind (wpAny_holding ?_)))
 show wpAny _ _ (Builtin.SmallTypes.nextOf (.ref i1) >>= _) _ _ _
 refine wpAny_bind (wpAny_nextOf_list_item (h1.extBut hs₀.extBut D.i1z) (hl1.extBut hs₀.extBut D.l1z) hx fun h₁ h1₁ hs₁ => wpAny_pure (wpAny_pure ?_))
 refine wpAny_bind (wpAny_bind (wpAny_holding ?_))
 show wpAny _ _ (Builtin.SmallTypes.nextOf (.ref i2) >>= _) _ _ _
 refine wpAny_bind (wpAny_nextOf_list_item ((h2.extBut hs₀.extBut D.i2z).extBut hs₁.extBut D.i12.symm) ((hl2.extBut hs₀.extBut D.l2z).extBut hs₁.extBut D.l2i1) hy fun h₂ h2₂ hs₂ => wpAny_pure (wpAny_pure (wpAny_pure ?_)))
 refine wpAny_bind (wpAny_newTuple (hsz := by show 2 <= sizeLine; decide) ?_)
 have hsz : h₂.objs.size = s.heap.objs.size := by rw [hs₂.1, hs₁.1, hs₀.1]
 have hz₂ : Vl h₂ z TI TO (rawInt T) (.bool b₀) := hs₂.extBut _ _ D.i2z.symm (hs₁.extBut _ _ D.i1z.symm hz₀)
 have up : ∀ c o, h₂.get? c = some o -> (h₂.push { cls := .type "tuple", data := .seq #[x, y] }).get? c = some o := fun c o e => Heap.get?_push_of_some _ e
 refine wpAny_pure ⟨_, rfl, ?_⟩
 show Q (.ref h₂.objs.size) _
 have hp : IsPair (h₂.push { cls := .type "tuple", data := .seq #[x, y] }) h₂.objs.size x y := Heap.get?_push_size _ rfl
 rw [hsz] at hp ⊢
 refine hQ _ b₀ (up _ _ hz₂) ((h1₁.extBut hs₂.extBut D.i12).at fun o e => up _ o e) (h2₂.at fun o e => up _ o e) hp (by rw [Heap.size_push, hsz]) fun c o c1 c3 c4 e => up c o (hs₂.extBut _ _ c4 (hs₁.extBut _ _ c3 (hs₀.extBut _ _ c1 e)))
theorem Zay {z TI TO i1 i2 l1 l2 T : Addr} {bb : Bool} {o : Obj} {k1 k2 : Nat} {xs ys : Array Value} {Q : Fin -> Shared -> Prop} (hh : A.handled = none) (D : ZipApart z TI TO i1 i2 l1 l2)
 (hz : Vl s.heap z TI TO (rawInt T) (.bool bb)) (hT : s.heap.get? T = some o) (hTI : IsPair s.heap TI (.ref i1) (.ref i2))
 (h1 : s.heap.IsListIter i1 l1 k1) (h2 : s.heap.IsListIter i2 l2 k2) (hl1 : s.heap.IsList l1 xs) (hl2 : s.heap.IsList l2 ys) (hend : xs[k1]? = none \/ ys[k2]? = none)
 (hE : ∀ h' e, (∀ c o, c ≠ z -> c ≠ TO -> c ≠ i1 -> c ≠ i2 -> s.heap.get? c = some o -> h'.get? c = some o) -> (∃ o, h'.get? e = some o /\ o.cls = .type "StopIteration") -> E (.ref e) { s with heap := h' }) :
 wpAny (model prog w) A (Builtin.«zip.__next__» ⟨[.ref z], []⟩) Q E s := by
 show wpAny _ _ (field (.ref z) 2 >>= _) _ _ _
 refine wpAny_bind (wpAny_field hz rfl (x := .bool false) rfl ?_)
 show wpAny _ _ (field (.ref z) 3 >>= _) _ _ _
 refine wpAny_bind (wpAny_field hz rfl (x := .ref TI) rfl ?_)
 refine wpAny_bind (wpAny_seqItems hTI rfl ?_)
 show wpAny _ _ (Builtin.SmallTypes.ownedTupleIsFree (.ref z) >>= _) _ _ _
 refine wpAny_bind (Zad hz hT fun h₀ b₀ hz₀ hs₀ => ?_)
 simp only [Bool.false_eq_true, if_false]
 simp only [List.forIn_toArray, List.forIn_cons, List.forIn_nil]
 refine wpAny_bind (wpAny_bind (wpAny_bind (wpAny_holding ?_)))
 show wpAny _ _ (Builtin.SmallTypes.nextOf (.ref i1) >>= _) _ _ _
 cases hx : xs[k1]? with
 | none =>
  refine wpAny_bind (wpAny_nextOf_list_end hh (h1.extBut hs₀.extBut D.i1z) (hl1.extBut hs₀.extBut D.l1z) hx fun h₂ e hs₂ he => ?_)
  exact hE h₂ e (fun c o c1 _ c3 _ x => hs₂ _ _ c3 (hs₀.extBut _ _ c1 x)) he
 | some x =>
  have hy : ys[k2]? = none := by rcases hend with h | h; rw [hx] at h; cases h; exact h
  refine wpAny_bind (wpAny_nextOf_list_item (h1.extBut hs₀.extBut D.i1z) (hl1.extBut hs₀.extBut D.l1z) hx fun h₁ h1₁ hs₁ => wpAny_pure (wpAny_pure ?_))
  refine wpAny_bind (wpAny_bind (wpAny_holding ?_))
  show wpAny _ _ (Builtin.SmallTypes.nextOf (.ref i2) >>= _) _ _ _
  refine wpAny_bind (wpAny_nextOf_list_end hh ((h2.extBut hs₀.extBut D.i2z).extBut hs₁.extBut D.i12.symm) ((hl2.extBut hs₀.extBut D.l2z).extBut hs₁.extBut D.l2i1) hy fun h₂ e hs₂ he => ?_)
  exact hE h₂ e (fun c o c1 _ c3 c4 x => hs₂ _ _ c4 (hs₁.extBut _ _ c3 (hs₀.extBut _ _ c1 x))) he
structure ZipSt (h : Heap) (z TI TO i1 i2 l1 l2 : Addr) (i : Nat) : Prop where
 zip : ∃ f0 b, Vl h z TI TO f0 (.bool b) /\ ((f0 = .none /\ b = false) \/ ∃ T o, f0 = rawInt (T : Nat) /\ h.get? T = some o)
 TI : IsPair h TI (.ref i1) (.ref i2)
 TO : ∃ a b, IsPair h TO a b
 it1 : h.IsListIter i1 l1 i
 it2 : h.IsListIter i2 l2 i
theorem Zaj {z TI TO i1 i2 l1 l2 : Addr} {i : Nat} {xs ys : Array Value} {x y : Value} {Q : Option Value -> Shared -> Prop} (D : ZipApart z TI TO i1 i2 l1 l2) (st : ZipSt s.heap z TI TO i1 i2 l1 l2 i)
 (hl1 : s.heap.IsList l1 xs) (hl2 : s.heap.IsList l2 ys) (hx : xs[i]? = some x) (hy : ys[i]? = some y)
 (hQ : ∀ h', ZipSt h' z TI TO i1 i2 l1 l2 (i + 1) -> IsPair h' s.heap.objs.size x y -> h'.objs.size = s.heap.objs.size + 1 ->
   (∀ c o, c ≠ z -> c ≠ TO -> c ≠ i1 -> c ≠ i2 -> s.heap.get? c = some o -> h'.get? c = some o) -> Q (some (.ref s.heap.objs.size)) { s with heap := h' }) :
 wpAny (model prog w) A (pyNext (.ref z)) Q E s := by
 obtain ⟨f0, b, hz, hf⟩ := st.zip
 obtain ⟨a, b', hTO⟩ := st.TO
 rcases hf with ⟨rfl, rfl⟩ | ⟨T, o, rfl, hT⟩
 · refine wpAny_pyNext_zip_item D hz st.TI hTO st.it1 st.it2 hl1 hl2 hx hy fun h' a1 a2 a3 a4 a5 a6 a7 => hQ h' ⟨⟨_, false, a1, .inr ⟨_, _, rfl, a5⟩⟩, a7 _ _ D.TIz D.TITO D.TIi1 D.TIi2 st.TI, ⟨_, _, a2⟩, a3, a4⟩ a5 a6 a7
 · have hTy : s.TypeIs (.ref z) "zip" := ⟨_, hz, rfl⟩
   unfold pyNext
   refine wpAny_bind (wpAny_attempt (wpAny_callSpecial?_slot (name := Str.ofString "__next__") hTy F.slot_zip_next
    (wpAny_call_entry F.slot_zip_next hTy F.entry_zip_next
      (Zao D hz hT st.TI st.it1 st.it2 hl1 hl2 hx hy fun h' b2 a1 a3 a4 a5 a6 a7 => wpAny_pure ?_) (F.args_zip_next_1 _))))
   refine hQ h' ⟨⟨_, b2, a1, ?_⟩, a7 _ _ D.TIz D.TIi1 D.TIi2 st.TI, ⟨a, b', a7 _ _ D.TOz D.TOi1 D.TOi2 hTO⟩, a3, a4⟩ a5 a6 fun c o c1 _ c3 c4 e => a7 c o c1 c3 c4 e
   have key : ∃ o', h'.get? T = some o' := by
    by_cases e1 : T = z
    · exact ⟨_, by rw [e1]; exact a1⟩
    · by_cases e2 : T = i1
      · obtain ⟨o', q, _⟩ := a3
        exact ⟨o', e2 ▸ q⟩
      · by_cases e3 : T = i2
        · obtain ⟨o', q, _⟩ := a4
          exact ⟨o', e3 ▸ q⟩
        · exact ⟨o, a7 T o e1 e2 e3 hT⟩
   obtain ⟨o', ho'⟩ := key
   exact .inr ⟨T, o', rfl, ho'⟩
theorem Zan {z TI TO i1 i2 l1 l2 : Addr} {i : Nat} {xs ys : Array Value} {Q : Option Value -> Shared -> Prop} (hh : A.handled = none) (D : ZipApart z TI TO i1 i2 l1 l2) (st : ZipSt s.heap z TI TO i1 i2 l1 l2 i)
 (hl1 : s.heap.IsList l1 xs) (hl2 : s.heap.IsList l2 ys) (hend : xs[i]? = none \/ ys[i]? = none)
 (hQ : ∀ h', (∀ c o, c ≠ z -> c ≠ TO -> c ≠ i1 -> c ≠ i2 -> s.heap.get? c = some o -> h'.get? c = some o) -> Q none { s with heap := h' }) :
 wpAny (model prog w) A (pyNext (.ref z)) Q E s := by
 obtain ⟨f0, b, hz, hf⟩ := st.zip
 obtain ⟨a, b', hTO⟩ := st.TO
 rcases hf with ⟨rfl, rfl⟩ | ⟨T, o, rfl, hT⟩
 · exact wpAny_pyNext_zip_end hh D hz st.TI hTO st.it1 st.it2 hl1 hl2 hend hQ
 · have hTy : s.TypeIs (.ref z) "zip" := ⟨_, hz, rfl⟩
   unfold pyNext
   refine wpAny_bind (wpAny_attempt (wpAny_callSpecial?_slot (name := Str.ofString "__next__") hTy F.slot_zip_next
    (wpAny_call_entry F.slot_zip_next hTy F.entry_zip_next (Zay hh D hz hT st.TI st.it1 st.it2 hl1 hl2 hend fun h' e hk he => ?_) (F.args_zip_next_1 _))))
   obtain ⟨o, ho, hc⟩ := he
   refine wpAny_bind (wpAny_isInstance (T := "StopIteration") (b := true) ⟨o, ho, hc⟩ isSubtype_stop ?_)
   exact wpAny_pure (hQ _ hk)
def Qx (h : Heap) (lo : Nat) (xs ys acc : Array Value) (i : Nat) : Prop := acc.size = i /\ (∀ (j : Nat) (v : Value), acc[j]? = some v -> ∃ (T : Nat) (x y : Value), v = Value.ref T /\ lo <= T /\ xs[j]? = some x /\ ys[j]? = some y /\ IsPair h T x y) /\ ∀ (j k : Nat) (v : Value), acc[j]? = some v -> acc[k]? = some v -> j = k
theorem Zaf {R : Result -> Shared -> Prop} {z TI TO i1 i2 l1 l2 S : Addr} {lo n : Nat} {xs ys : Array Value} {res : Value} (hh : A.handled = none) (D : ZipApart z TI TO i1 i2 l1 l2)
 (hn : n = min xs.size ys.size) (hns : n <= sizeLine) (hSz : S ≠ z) (hSTI : S ≠ TI) (hSTO : S ≠ TO) (hS1 : S ≠ i1) (hS2 : S ≠ i2) (hSl1 : S ≠ l1) (hSl2 : S ≠ l2) (hlo : S < lo /\ z < lo /\ TO < lo /\ i1 < lo /\ i2 < lo) :
 ∀ (k i : Nat) (s : Shared) (acc : Array Value) (c : Nat), n - i = k -> i <= n -> lo <= s.heap.objs.size -> ZipSt s.heap z TI TO i1 i2 l1 l2 i -> s.heap.IsList l1 xs -> s.heap.IsList l2 ys ->
 s.heap.get? S = some { cls := .type "list", dict := none, data := .seq acc c, slots := #[] } -> Qx s.heap lo xs ys acc i ->
 (∀ h' acc' c', (∀ b o, b ≠ S -> b ≠ z -> b ≠ TO -> b ≠ i1 -> b ≠ i2 -> s.heap.get? b = some o -> h'.get? b = some o) -> h'.get? S = some { cls := .type "list", dict := none, data := .seq acc' c', slots := #[] } -> Qx h' lo xs ys acc' n -> R (.ok (.ret res)) { s with heap := h' }) ->
 codeAny (model prog w) A (.builtin "list.extend.loop" ⟨[.ref S, .ref z, res], []⟩) R s := by
 have far : ∀ T : Nat, lo <= T -> T ≠ S /\ T ≠ z /\ T ≠ TO /\ T ≠ i1 /\ T ≠ i2 := fun T hT => by
  obtain ⟨q1, q2, q3, q4, q5⟩ := hlo
  exact ⟨Nat.ne_of_gt (Nat.lt_of_lt_of_le q1 hT), Nat.ne_of_gt (Nat.lt_of_lt_of_le q2 hT), Nat.ne_of_gt (Nat.lt_of_lt_of_le q3 hT), Nat.ne_of_gt (Nat.lt_of_lt_of_le q4 hT), Nat.ne_of_gt (Nat.lt_of_lt_of_le q5 hT)⟩
 intro k
 induction k with
 | zero =>
  intro i s acc c hk hi hlo' st hl1 hl2 hS hacc hR
  have hin : i = n := by omega
  refine codeAny_builtin F.entry_extend_loop ?_
  rw [Around.under_plainId F.plain_extend_loop _]
  show wpAny _ A.in1 (pyNext (.ref z) >>= _) _ _ s
  refine wpAny_bind (Zan hh D st hl1 hl2 ?_ fun h' k2 => ?_)
  · rcases Nat.le_total xs.size ys.size with h | h
    · exact .inl (by rw [Array.getElem?_eq_none_iff]; omega)
    · exact .inr (by rw [Array.getElem?_eq_none_iff]; omega)
  · refine wpAny_pure (hR h' acc c (fun b o _ b1 b2 b3 b4 e => k2 b o b1 b2 b3 b4 e) (k2 S _ hSz hSTO hS1 hS2 hS) ?_)
    rw [<- hin]
    refine ⟨hacc.1, fun j v hj => ?_, hacc.2.2⟩
    obtain ⟨T, x, y, e1, e2, e3, e4, e5⟩ := hacc.2.1 j v hj
    obtain ⟨_, f2, f3, f4, f5⟩ := far T e2
    exact ⟨T, x, y, e1, e2, e3, e4, k2 T _ f2 f3 f4 f5 e5⟩
 | succ k ih =>
  intro i s acc c hk hi hlo' st hl1 hl2 hS hacc hR
  have hlt : i < n := by omega
  have hx : xs[i]? = some xs[i] := Array.getElem?_eq_getElem (by omega)
  have hy : ys[i]? = some ys[i] := Array.getElem?_eq_getElem (by omega)
  refine codeAny_builtin F.entry_extend_loop ?_
  rw [Around.under_plainId F.plain_extend_loop _]
  show wpAny _ A.in1 (pyNext (.ref z) >>= _) _ _ s
  refine wpAny_bind (Zaj D st hl1 hl2 hx hy fun h' st' hp hsz k2 => ?_)
  have hS' := k2 S _ hSz hSTO hS1 hS2 hS
  show wpAny _ A.in1 (updateSeq S (·.push (.ref s.heap.objs.size)) >>= _) _ _ _
  refine wpAny_bind ?_
  have oth : ∀ b o, b ≠ S -> h'.get? b = some o -> (h'.update S (Obj.mapSeq (·.push (Value.ref s.heap.objs.size)))).get? b = some o := fun b o hb e => (Heap.get?_update_other _ _ (Ne.symm hb)).trans e
  have hszS : s.heap.objs.size ≠ S := (far _ hlo').1
  refine wpAny_updateSeq hS' rfl (wpAny_pure ⟨plainId_quiet F.plain_extend_loop _, ih (i + 1) _ (acc.push (.ref s.heap.objs.size)) _ (by omega) hlt ?_ ?_ ?_ ?_ (Heap.get?_update_self _ hS' rfl) ?_ fun h'' acc' c' k3 hS'' hacc' => ?_⟩)
   (by rw [hacc.1]; omega) (by show (acc.push _).size <= sizeLine + 1; rw [Array.size_push, hacc.1]; omega)
  · show lo <= (h'.update S _).objs.size
    rw [Heap.size_update, hsz]
    exact Nat.le_trans hlo' (Nat.le_succ _)
  · obtain ⟨f0, b, q1, q2⟩ := st'.zip
    obtain ⟨a1, a2, q3⟩ := st'.TO
    refine ⟨⟨f0, b, oth _ _ (Ne.symm hSz) q1, ?_⟩, oth _ _ (Ne.symm hSTI) st'.TI, ⟨a1, a2, oth _ _ (Ne.symm hSTO) q3⟩, st'.it1.at fun o e => oth _ o (Ne.symm hS1) e, st'.it2.at fun o e => oth _ o (Ne.symm hS2) e⟩
    rcases q2 with q2 | ⟨T, o, q4, q5⟩
    · exact .inl q2
    · by_cases hT : T = S
      · exact .inr ⟨T, _, q4, by rw [hT]; exact Heap.get?_update_self _ hS' rfl⟩
      · exact .inr ⟨T, o, q4, oth T o hT q5⟩
  · exact Heap.IsList.at (hl1.at fun o e => k2 l1 o D.l1z D.l1TO D.l1i1 D.l1i2 e) fun o e => oth l1 o (Ne.symm hSl1) e
  · exact Heap.IsList.at (hl2.at fun o e => k2 l2 o D.l2z D.l2TO D.l2i1 D.l2i2 e) fun o e => oth l2 o (Ne.symm hSl2) e
  · have old : ∀ (j : Nat), acc[j]? ≠ some (Value.ref s.heap.objs.size) := fun j z => by
     obtain ⟨T, x, y, e1, e2, e3, e4, e5⟩ := hacc.2.1 j _ z
     cases e1
     exact absurd (Heap.lt_size e5) (Nat.lt_irrefl _)
    refine ⟨by rw [Array.size_push, hacc.1], fun j v hj => ?_, fun j k v hj hk => ?_⟩
    · rw [Array.getElem?_push] at hj
      split at hj
      · rename_i e
        rw [hacc.1] at e
        cases hj
        exact ⟨_, _, _, rfl, hlo', e ▸ hx, e ▸ hy, oth _ _ hszS hp⟩
      · obtain ⟨T, x, y, e1, e2, e3, e4, e5⟩ := hacc.2.1 j v hj
        obtain ⟨f1, f2, f3, f4, f5⟩ := far T e2
        exact ⟨T, x, y, e1, e2, e3, e4, oth _ _ f1 (k2 T _ f2 f3 f4 f5 e5)⟩
    · rw [Array.getElem?_push] at hj hk
      split at hj
      · rename_i ej
        split at hk
        · rename_i ek
          rw [ej, ek]
        · cases hj
          exact absurd hk (old k)
      · split at hk
        · cases hk
          exact absurd hj (old j)
        · exact hacc.2.2 j k v hj hk
  · exact hR h'' acc' c' (fun b o b0 b1 b2 b3 b4 e => k3 b o b0 b1 b2 b3 b4 (oth b o b0 (k2 b o b1 b2 b3 b4 e))) hS'' hacc'
theorem ZbL : typeLookup (.type "zip") "__len__" = pure none := by rw [typeLookup_type, builtinLookup_eq_fast]; kernel_rfl
theorem Zba : typeLookup (.type "zip") "__length_hint__" = pure none := by rw [typeLookup_type, builtinLookup_eq_fast]; kernel_rfl
theorem Zak {R : Result -> Shared -> Prop} {z TI TO i1 i2 l1 l2 S : Addr} {lo n c₀ : Nat} {xs ys : Array Value} {res a0 b0 : Value} (hh : A.handled = none) (D : ZipApart z TI TO i1 i2 l1 l2)
 (hn : n = min xs.size ys.size) (hns : n <= sizeLine) (hSz : S ≠ z) (hSTI : S ≠ TI) (hSTO : S ≠ TO) (hS1 : S ≠ i1) (hS2 : S ≠ i2) (hSl1 : S ≠ l1) (hSl2 : S ≠ l2) (hlo : S < lo /\ z < lo /\ TO < lo /\ i1 < lo /\ i2 < lo) (hlo' : lo <= s.heap.objs.size)
 (hz : IsZip s.heap z TI TO .none) (hTI : IsPair s.heap TI (.ref i1) (.ref i2)) (hTO : IsPair s.heap TO a0 b0) (h1 : s.heap.IsListIter i1 l1 0) (h2 : s.heap.IsListIter i2 l2 0) (hl1 : s.heap.IsList l1 xs) (hl2 : s.heap.IsList l2 ys)
 (hS : s.heap.get? S = some { cls := .type "list", data := .seq #[] c₀ })
 (hR : ∀ h' acc' c', (∀ b o, b ≠ S -> b ≠ z -> b ≠ TO -> b ≠ i1 -> b ≠ i2 -> s.heap.get? b = some o -> h'.get? b = some o) -> h'.get? S = some { cls := .type "list", dict := none, data := .seq acc' c', slots := #[] } -> Qx h' lo xs ys acc' n -> R (.ok (.ret res)) { s with heap := h' }) :
 wpAny (model prog w) A.in1 (Builtin.List.listExtendWith (.ref S) (.ref z) res)
  (fun fin s' => match fin with | .done f => R (.ok f) s' | .again c' => c'.quiet = true /\ codeAny (model prog w) A c' R s') (fun e s' => R (.error e) s') s := by
 have hTy : s.TypeIs (.ref z) "zip" := ⟨_, hz, rfl⟩
 unfold Builtin.List.listExtendWith
 refine wpAny_bind (wpAny_typeOf hTy ?_)
 have g1 : Builtin.List.listSameRef (.ref S) (.ref z) = false := by simp [Builtin.List.listSameRef, hSz]
 have g2 : (Value.type "zip" == Value.type "list") = false := by decide
 have g3 : (Value.type "zip" == Value.type "tuple") = false := by decide
 simp only [g1, g2, g3, Bool.or_false, Bool.false_eq_true, if_false]
 refine wpAny_bind (wpAny_pyIter_zip hz ?_)
 refine wpAny_bind (wpAny_holding ?_)
 unfold Builtin.List.listLengthHint
 refine wpAny_bind (wpAny_specialOf hTy ZbL ?_)
 show wpAny _ A.in1 (specialOf (Value.ref z) (Str.ofString "__length_hint__") >>= _) _ _ _
 refine wpAny_bind (wpAny_specialOf hTy Zba ?_)
 refine wpAny_pure ?_
 show wpAny _ A.in1 (rule "list.extend.makes-room" >>= fun _ => Builtin.List.listTouch (.ref S) >>= fun _ =>
  again (.builtin "list.extend.loop" ⟨[.ref S, .ref z, res], []⟩)) _ _ _
 refine wpAny_bind (wpAny_rule ?_)
 refine wpAny_bind ?_
 show wpAny _ A.in1 (updateSeq S (·.push .none) >>= fun _ => updateSeq S (·.pop)) _ _ _
 refine wpAny_bind (wpAny_updateSeq hS rfl ?_)
 have hS₂ := Heap.get?_update_self (Obj.mapSeq (·.push Value.none)) hS rfl
 refine wpAny_updateSeq hS₂ rfl ?_
 have hS₃ := Heap.get?_update_self (Obj.mapSeq (·.pop)) hS₂ rfl
 have oth : ∀ b o, b ≠ S -> s.heap.get? b = some o -> ((s.heap.update S (Obj.mapSeq (·.push Value.none))).update S (Obj.mapSeq (·.pop))).get? b = some o :=
  fun b o hb e => (Heap.get?_update_other _ _ (Ne.symm hb)).trans ((Heap.get?_update_other _ _ (Ne.symm hb)).trans e)
 refine wpAny_pure ⟨plainId_quiet F.plain_extend_loop _, Zaf hh D hn hns hSz hSTI hSTO hS1 hS2 hSl1 hSl2 hlo n 0 _ #[] _ rfl (Nat.zero_le _) ?_ ⟨⟨_, false, oth _ _ (Ne.symm hSz) hz, .inl ⟨rfl, rfl⟩⟩, oth _ _ (Ne.symm hSTI) hTI, ⟨a0, b0, oth _ _ (Ne.symm hSTO) hTO⟩, h1.at fun o e => oth _ o (Ne.symm hS1) e, h2.at fun o e => oth _ o (Ne.symm hS2) e⟩ (hl1.at fun o e => oth _ o (Ne.symm hSl1) e) (hl2.at fun o e => oth _ o (Ne.symm hSl2) e) hS₃ ⟨rfl, (fun j v h => by simp at h), fun j k v h => by simp at h⟩ fun h' acc' c' k3 hS' hacc => ?_⟩
 · show lo <= ((s.heap.update S _).update S _).objs.size
   rw [Heap.size_update, Heap.size_update]
   exact hlo'
 · exact hR h' acc' c' (fun b o b0 b1 b2 b3 b4 e => k3 b o b0 b1 b2 b3 b4 (oth b o b0 e)) hS' hacc
theorem Zaz {Q : Value -> Shared -> Prop} {z TI TO i1 i2 l1 l2 : Addr} {n : Nat} {xs ys : Array Value} {a0 b0 : Value} (hh : A.handled = none) (D : ZipApart z TI TO i1 i2 l1 l2)
 (hn : n = min xs.size ys.size) (hns : n <= sizeLine)
 (hz : IsZip s.heap z TI TO .none) (hTI : IsPair s.heap TI (.ref i1) (.ref i2)) (hTO : IsPair s.heap TO a0 b0) (h1 : s.heap.IsListIter i1 l1 0) (h2 : s.heap.IsListIter i2 l2 0) (hl1 : s.heap.IsList l1 xs) (hl2 : s.heap.IsList l2 ys)
 (hQ : ∀ h' acc' c', (∀ b o, b ≠ z -> b ≠ TO -> b ≠ i1 -> b ≠ i2 -> s.heap.get? b = some o -> h'.get? b = some o) -> h'.get? s.heap.objs.size = some { cls := .type "list", dict := none, data := .seq acc' c', slots := #[] } -> Qx h' (s.heap.objs.size + 1) xs ys acc' n -> Q (.ref s.heap.objs.size) { s with heap := h' }) :
 wpAny (model prog w) A (call (.type "list") [.ref z]) Q E s := by
 refine callType_codes (Q₁ := fun obj s₁ => obj = .ref s.heap.objs.size /\ s₁ = { s with heap := s.heap.push { cls := .type "list", data := .seq #[] } }) F.called_list (F.typeCall_list_1 _) F.entry_list_init
  (code_list_new _ ⟨rfl, rfl⟩) fun obj s₁ h₁ => ?_
 obtain ⟨rfl, rfl⟩ := h₁
 have hS : (s.heap.push { cls := .type "list", data := .seq #[] }).get? s.heap.objs.size = some { cls := .type "list", data := .seq #[] } := Heap.get?_push_size _ rfl
 have up : ∀ b o, s.heap.get? b = some o -> (s.heap.push { cls := .type "list", data := .seq #[] }).get? b = some o := fun b o e => Heap.get?_push_of_some _ e
 have lt : ∀ {b o}, s.heap.get? b = some o -> b < s.heap.objs.size := fun e => Heap.lt_size e
 have lz := lt hz
 have lTI := lt hTI
 have lTO := lt hTO
 have l1' : i1 < s.heap.objs.size := by obtain ⟨o, q, _⟩ := h1; exact lt q
 have l2' : i2 < s.heap.objs.size := by obtain ⟨o, q, _⟩ := h2; exact lt q
 have ll1 : l1 < s.heap.objs.size := by obtain ⟨o, q, _⟩ := hl1; exact lt q
 have ll2 : l2 < s.heap.objs.size := by obtain ⟨o, q, _⟩ := hl2; exact lt q
 refine ⟨⟨_, hS, rfl⟩, F.args_list_init_2 _ _, ?_⟩
 show wpAny _ _ (do let old <- Builtin.List.listItems (.ref s.heap.objs.size); Builtin.List.listUpdate (.ref s.heap.objs.size) (fun _ => #[]); letGo old.toList.reverse; Builtin.List.listExtendWith (.ref s.heap.objs.size) (.ref z) .none) _ _ _
 refine wpAny_bind ?_
 unfold Builtin.List.listItems
 refine wpAny_bind (wpAny_seqItems hS rfl (wpAny_pure ?_))
 show wpAny _ _ (updateSeq s.heap.objs.size (fun _ => #[]) >>= fun _ => letGo (#[] : Array Value).toList.reverse >>= fun _ => Builtin.List.listExtendWith (.ref s.heap.objs.size) (.ref z) .none) _ _ _
 refine wpAny_bind (wpAny_updateSeq hS rfl ?_)
 obtain ⟨c1, hS₂⟩ : ∃ c1, ((s.heap.push { cls := .type "list", data := .seq #[] }).update s.heap.objs.size (Obj.mapSeq (fun _ => (#[] : Array Value)))).get? s.heap.objs.size = some { cls := .type "list", data := .seq #[] c1 } := ⟨_, Heap.get?_update_self (Obj.mapSeq (fun _ => (#[] : Array Value))) hS rfl⟩
 have oth : ∀ b o, s.heap.get? b = some o -> ((s.heap.push { cls := .type "list", data := .seq #[] }).update s.heap.objs.size (Obj.mapSeq (fun _ => (#[] : Array Value)))).get? b = some o :=
  fun b o e => (Heap.get?_update_other _ _ (Nat.ne_of_gt (lt e))).trans (up b o e)
 refine wpAny_bind (wpAny_letGo ?_)
 refine Zak (A := A.in1) (s := { s with heap := (s.heap.push { cls := .type "list", data := .seq #[] }).update s.heap.objs.size (Obj.mapSeq (fun _ => (#[] : Array Value))) }) (lo := s.heap.objs.size + 1) hh D hn hns (Nat.ne_of_gt lz) (Nat.ne_of_gt lTI) (Nat.ne_of_gt lTO) (Nat.ne_of_gt l1') (Nat.ne_of_gt l2') (Nat.ne_of_gt ll1) (Nat.ne_of_gt ll2) ⟨Nat.lt_succ_self _, Nat.lt_succ_of_lt lz, Nat.lt_succ_of_lt lTO, Nat.lt_succ_of_lt l1', Nat.lt_succ_of_lt l2'⟩ ?_ (oth _ _ hz) (oth _ _ hTI) (oth _ _ hTO) (h1.at fun o e => oth _ o e) (h2.at fun o e => oth _ o e) (hl1.at fun o e => oth _ o e) (hl2.at fun o e => oth _ o e) hS₂ fun h' acc' c' k3 hS' hacc => ?_
 · show s.heap.objs.size + 1 <= ((s.heap.push _).update _ _).objs.size
   rw [Heap.size_update, Heap.size_push]
   exact Nat.le_refl _
 · exact ⟨rfl, hQ h' acc' c' (fun b o b1 b2 b3 b4 e => k3 b o (Nat.ne_of_lt (lt e)) b1 b2 b3 b4 (oth b o e)) hS' hacc⟩
end
end PySem
namespace L2
open PySem PySem.Spec PyProof.Rows
def Zbs (K : PySem.W.Frag) (ta : TA) : TE := fun σ H Q => ta σ H fun vs H1 => ∃ l1 l2 xs ys, vs = [.ref l1, .ref l2] /\ SqL K H1 l1 xs /\ SqL K H1 l2 ys /\ xs.length <= sizeLine /\
 ∀ (H2 : Hp) (ps : List Addr), Same H1 H2 -> ps.length = min xs.length ys.length -> (∀ (k : Nat) (p : Addr), ps[k]? = some p -> ∃ x y, xs[k]? = some x /\ ys[k]? = some y /\ H1 p = none /\ H2 p = some (.tup [x, y])) -> ∀ l, H2 l = none -> H1 l = none -> Q (.ref l) (upd H2 l (.lst (ps.map V.ref)))
end L2
namespace L2
open PySem PySem.Spec PyProof.Rows
theorem ZaP : ∀ ps : List Addr, Vals (ps.map V.ref) (ps.map Value.ref)
 | [] => .nil
 | p :: ps => .cons rfl (ZaP ps)
def Qy : Value -> Addr
 | .ref a => a
 | _ => 0
section
variable {X : Cx}
open Classical in
theorem ZbM {K : PySem.W.Frag} {a b : Expr} {ta tb : TE} {p p2 pos pos2 : Pos} (hcm : X.calm = true) (hg : Gl X "list") (hm : X.mg "list" = none) (hgz : Gl X "zip") (hmz : X.mg "zip" = none) (ha : PE X a ta) (hb : PE X b tb) (hs : starEach [a, b] X.env = (false, eval a X.env) :: starEach [b] X.env := by rfl) (hs2 : starEach [b] X.env = [(false, eval b X.env)] := by rfl)
 (ho : starEach [.Call (.Name "zip" p2) [a, b] [] pos2] X.env = [(false, eval (.Call (.Name "zip" p2) [a, b] [] pos2) X.env)] := by rfl) (hK : X.K = K := by rfl) :
 PE X (.Call (.Name "list" p) [.Call (.Name "zip" p2) [a, b] [] pos2] [] pos) (Zbs K (Yu ta (Yu tb tNil))) := by
 subst hK
 intro pins s σ H Q I h
 refine wpAny_Call_Name_kw (YX I hg hm boot_list ?_ (by decide) (by decide))
 refine PyProof.Rows.callWith_type1 ?_ ho rfl
 rw [ho]
 refine Calls.spliced_cons ?_
 refine Call_ (YX I hgz hmz boot_zip (PyProof.Rows.callWith_type1 (thn ((Ze ha (Ze hb Zk hs2) hs) pos2 pins s σ H _ I h) fun us s1 ⟨vs, H1, I1, r1, q1⟩ => ?_) (by rw [hs, hs2]) (by rw [hs2]; rfl)))
 obtain ⟨l1, l2, xs, ys, e, hq1, hq2, hzz, q⟩ := q1
 subst e
 cases r1 with
 | cons r rr =>
  cases rr with
  | cons r' rr' =>
   cases rr'
   cases r
   cases r'
   obtain ⟨its1, rv1, p1, _⟩ := I1.list hq1
   obtain ⟨its2, rv2, p2', _⟩ := I1.list hq2
   have lt1 : l1 < s1.heap.objs.size := by obtain ⟨o, ho, _⟩ := p1.isList; exact Heap.lt_size ho
   have lt2 : l2 < s1.heap.objs.size := by obtain ⟨o, ho, _⟩ := p2'.isList; exact Heap.lt_size ho
   have el1 := rv1.length
   have el2 := rv2.length
   refine call_zip_2 p1.isList p2'.isList fun h' hz hTI hTO h1 h2 hsz k => ?_
   refine Calls.spliced_nil ?_
   have D : ZipApart (s1.heap.objs.size + 4) (s1.heap.objs.size + 2) (s1.heap.objs.size + 3) s1.heap.objs.size (s1.heap.objs.size + 1) l1 l2 := zipApart_new lt1 lt2
   refine Zaz (s := { s1 with heap := h' }) (n := min xs.length ys.length) (I1.ok.hd hcm) D (by simp [el1, el2]) (Nat.le_trans (Nat.min_le_left _ _) hzz) hz hTI hTO h1 h2 (p1.isList.at fun o e => k _ o e) (p2'.isList.at fun o e => k _ o e) fun h'' acc c k3 hS hacc => ?_
   have hsz : h'.objs.size = s1.heap.objs.size + 5 := hsz
   have old : ∀ b o, s1.heap.get? b = some o -> h''.get? b = some o := fun b o e => by
    have hb := Heap.lt_size e
    exact k3 b o (Nat.ne_of_lt (Nat.lt_of_lt_of_le hb (Nat.le_add_right _ _))) (Nat.ne_of_lt (Nat.lt_of_lt_of_le hb (Nat.le_add_right _ _))) (Nat.ne_of_lt hb) (Nat.ne_of_lt (Nat.lt_of_lt_of_le hb (Nat.le_add_right _ _))) (k b o e)
   obtain ⟨hac, hit, hinj⟩ := hacc
   let ps : List Addr := acc.toList.map Qy
   have hps : ∀ (j : Nat) (p : Addr), ps[j]? = some p -> ∃ x y u v, xs[j]? = some x /\ ys[j]? = some y /\ RelV x u /\ RelV y v /\ IsPair h'' p u v /\ h'.objs.size + 1 <= p /\ acc[j]? = some (Value.ref p) := fun j p hj => by
    have hj' : (acc.toList[j]?).map Qy = some p := by rw [<- List.getElem?_map]; exact hj
    cases ea : acc.toList[j]? with
    | none => rw [ea] at hj'; cases hj'
    | some v =>
     rw [ea] at hj'
     have ea' : acc[j]? = some v := by simpa using ea
     obtain ⟨T, u, w', e1, e2, e3, e4, e5⟩ := hit j v ea'
     subst e1
     have ep : T = p := Option.some.inj hj'
     subst ep
     have hjl : j < its1.length := by
      have := (Array.getElem?_eq_some_iff.mp e3).1
      simpa using this
     have hjl2 : j < its2.length := by
      have := (Array.getElem?_eq_some_iff.mp e4).1
      simpa using this
     obtain ⟨u', q1, q2⟩ := rv1.get (List.getElem?_eq_getElem (show j < xs.length by omega))
     obtain ⟨w2, q3, q4⟩ := rv2.get (List.getElem?_eq_getElem (show j < ys.length by omega))
     have e3' : its1[j]? = some u := by simpa using e3
     have e4' : its2[j]? = some w' := by simpa using e4
     rw [e3'] at q1
     rw [e4'] at q3
     cases q1
     cases q3
     exact ⟨_, _, u, w', List.getElem?_eq_getElem (by omega), List.getElem?_eq_getElem (by omega), q2, q4, e5, e2, ea'⟩
   have hpi : ∀ (j k : Nat) (p : Addr), ps[j]? = some p -> ps[k]? = some p -> j = k := fun j k p hj hk => by
    obtain ⟨_, _, _, _, _, _, _, _, _, _, q1⟩ := hps j p hj
    obtain ⟨_, _, _, _, _, _, _, _, _, _, q2⟩ := hps k p hk
    exact hinj j k _ q1 q2
   have hpl : ps.length = min xs.length ys.length := by
    show (acc.toList.map Qy).length = _
    rw [List.length_map, Array.length_toList]
    exact hac
   let H2 : Hp := fun b => if hb : ∃ j : Nat, ps[j]? = some b then some (.tup [(xs[hb.choose]?).getD .non, (ys[hb.choose]?).getD .non]) else H1 b
   have hin : ∀ (j : Nat) (p : Addr) (x y : V), ps[j]? = some p -> xs[j]? = some x -> ys[j]? = some y -> H2 p = some (.tup [x, y]) := fun j p x y hj hx hy => by
    have hb : ∃ j : Nat, ps[j]? = some p := ⟨j, hj⟩
    have ej : hb.choose = j := hpi _ _ _ hb.choose_spec hj
    show (if hb : ∃ j : Nat, ps[j]? = some p then some (HO.tup [(xs[hb.choose]?).getD .non, (ys[hb.choose]?).getD .non]) else H1 p) = _
    rw [dif_pos hb, ej, hx, hy]
    rfl
   have hout : ∀ b, (¬ ∃ j : Nat, ps[j]? = some b) -> H2 b = H1 b := fun b hb => dif_neg hb
   have hfar : ∀ (j : Nat) (p : Addr), ps[j]? = some p -> H1 p = none := fun j p hj => by
    obtain ⟨_, _, _, _, _, _, _, _, _, hge, _⟩ := hps j p hj
    refine I1.hok.fresh ?_
    rw [hsz] at hge
    exact Nat.le_trans (Nat.le_add_right _ 6) hge
   have hsame : Same H1 H2 := fun b o e => by
    rw [hout b fun ⟨j, hj⟩ => by rw [hfar j b hj] at e; cases e]
    exact e
   have hSn : H1 h'.objs.size = none := I1.hok.fresh (by rw [hsz]; exact Nat.le_add_right _ _)
   have hSps : ¬ ∃ j : Nat, ps[j]? = some h'.objs.size := fun ⟨j, hj⟩ => by
    obtain ⟨_, _, _, _, _, _, _, _, _, hge, _⟩ := hps j _ hj
    exact absurd hge (Nat.not_succ_le_self _)
   have hS2 : H2 h'.objs.size = none := by rw [hout _ hSps]; exact hSn
   have up : ∀ b o, H1 b = some o -> upd H2 h'.objs.size (.lst (ps.map V.ref)) b = some o := fun b o e => by
    rw [Zx (Z1 e hSn)]
    exact hsame b o e
   have big : ∀ b o, s1.heap.get? b = some o -> (¬ ∃ j : Nat, ps[j]? = some b) /\ b ≠ h'.objs.size := fun b o e => by
    have hb := Heap.lt_size e
    refine ⟨fun ⟨j, hj⟩ => ?_, Nat.ne_of_lt (by rw [hsz]; exact Nat.lt_of_lt_of_le hb (Nat.le_add_right _ _))⟩
    obtain ⟨_, _, _, _, _, _, _, _, _, hge, _⟩ := hps j b hj
    rw [hsz] at hge
    exact absurd (Nat.lt_of_lt_of_le hb (Nat.le_trans (Nat.le_add_right _ 6) hge)) (Nat.lt_irrefl _)
   have hacc' : acc.toList = ps.map Value.ref := by
    apply List.ext_getElem?
    intro j
    rw [List.getElem?_map]
    show acc.toList[j]? = ((acc.toList.map Qy)[j]?).map Value.ref
    rw [List.getElem?_map]
    cases ea : acc.toList[j]? with
    | none => rfl
    | some v =>
     obtain ⟨T, u, w', e1, _⟩ := hit j v (by simpa using ea)
     rw [e1]
     rfl
   refine ⟨.ref h'.objs.size, upd H2 h'.objs.size (.lst (ps.map V.ref)), ?_, rfl, q H2 ps hsame hpl (fun j p hj => ?_) _ hS2 hSn⟩
   · refine I1.un (t' := s1.toks) ⟨fun b u q _ _ _ => old b u q, fun b u q _ _ _ => ⟨u.slots, old b u q⟩, fun b u e n _ => ?_, fun b u q _ => ⟨u, old b u q⟩, fun b zs e => up b _ e, fun b o u e => up b _ e, fun b ps' e => ⟨#[], by rw [up b _ e]; simp⟩⟩ fun b o e => ?_
     · obtain ⟨g1, g2⟩ := big b u e
       rw [Zx g2, hout b g1]
       exact n
     · by_cases hb : b = h'.objs.size
       · subst hb
         rw [Z7] at e
         cases e
         refine ⟨by rw [List.length_map, hpl]; exact Nat.le_trans (Nat.min_le_left _ _) hzz, acc.toList, c, by rw [hacc']; exact ZaP ps, ?_⟩
         simpa using hS
       · rw [Zx hb] at e
         by_cases hbp : ∃ j : Nat, ps[j]? = some b
         · obtain ⟨j, hj⟩ := hbp
           obtain ⟨x, y, u, v, g1, g2, g3, g4, g5, _, _⟩ := hps j b hj
           rw [hin j b x y hj g1 g2] at e
           cases e
           exact ⟨by show 2 <= sizeLine; decide, [u, v], .cons g3 (.cons g4 .nil), ⟨_, g5, rfl, ⟨_, rfl⟩, rfl⟩⟩
         · rw [hout b hbp] at e
           exact (I1.hok b o e).stay (fun d v _ q' => old d v q') (fun d q' => up d _ q') fun d zs q' => up d _ q'
   · obtain ⟨x, y, u, v, g1, g2, g3, g4, g5, _, _⟩ := hps j p hj
     exact ⟨x, y, g1, g2, hfar j p hj, hin j p x y hj g1 g2⟩
end
end L2
namespace DL
open PySem PySem.Spec L2
section
variable {cA : Kn} {G : Cn} {ow : List Nat}
def Uw (a b : Env -> Option D) (δ : Env) : Option D := match a δ, b δ with
 | some (.lst xs), some (.lst ys) => if xs.length <= sizeLine then some (.lst (Yb xs ys)) else none
 | _, _ => none
theorem Zcb {av : Addr -> Prop} {H : Hp} : ∀ {xs ys : List D} {vs ws : List V} {ps : List Addr}, RepL cA av H xs vs -> RepL cA av H ys ws -> ps.length = min xs.length ys.length ->
 (∀ (k : Nat) (p : Addr), ps[k]? = some p -> ∃ x y, vs[k]? = some x /\ ws[k]? = some y /\ ¬ av p /\ H p = some (.tup [x, y])) -> RepL cA av H (Yb xs ys) (ps.map V.ref)
 | [], ys, vs, ws, ps, _, _, hl, _ => by
  rw [List.length_nil, Nat.zero_min] at hl
  rw [List.length_eq_zero_iff.mp hl]
  exact .nil
 | x :: xs, [], vs, ws, ps, _, _, hl, _ => by
  rw [List.length_nil, Nat.min_zero] at hl
  rw [List.length_eq_zero_iff.mp hl]
  exact .nil
 | x :: xs, y :: ys, vs, ws, ps, h1, h2, hl, hp => by
  obtain ⟨v, r, rfl, a1, t1⟩ := h1.uncons
  obtain ⟨w, r', rfl, a2, t2⟩ := h2.uncons
  rw [List.length_cons, List.length_cons] at hl
  cases ps with
  | nil => simp at hl
  | cons p ps =>
   refine .cons ?_ (Zcb t1 t2 (by rw [List.length_cons] at hl; omega) fun k q hk => by
    obtain ⟨x, y, g1, g2, g3, g4⟩ := hp (k + 1) q (by simpa using hk)
    exact ⟨x, y, by simpa using g1, by simpa using g2, g3, g4⟩)
   obtain ⟨x', y', g1, g2, g3, g4⟩ := hp 0 p rfl
   cases g1
   cases g2
   unfold Rep
   exact ⟨p, [v, w], rfl, g3, g4, .cons a1 (.cons a2 .nil)⟩
theorem ZbN {ta tb : TE} {a b : Env -> Option D} (ha : VE G ow ta .cl a) (hb : VE G ow tb .cl b) : VF G ow (Zbs G.1.K (Yu ta (Yu tb tNil))) (Uw a b) := fun H0 av A σ H δ E d e Q k => by
 unfold Uw at e
 split at e
 · rename_i xs ys ex ey
   by_cases hz : xs.length <= sizeLine
   · rw [if_pos hz] at e
     cases e
     refine ha H0 av A σ H δ E _ ex _ fun v H1 s1 r1 => hb H0 av A σ H1 δ (E.mono s1) _ ey _ fun w H2 s2 r2 => ?_
     obtain ⟨l1, vs, rfl, _, rd1, p1⟩ := r1
     obtain ⟨l2, ws, rfl, _, rd2, p2⟩ := r2
     have p1' := p1.same s2
     have E2 := (E.mono s1).mono s2
     refine ⟨l1, l2, vs, ws, rfl, s2.seq rd1, rd2, by rw [<- p1.length]; exact hz, fun H3 ps s3 hpl hps l hl _ => ?_⟩
     refine k l _ (Yb xs ys) H3 ((s1.trans s2).trans s3) hl (Zcb (p1'.same s3) (p2.same s3) (by rw [hpl, p1.length, p2.length]) fun k p hk => ?_) rfl
     obtain ⟨x, y, g1, g2, g3, g4⟩ := hps k p hk
     exact ⟨x, y, g1, g2, fun z => E2.avl p z g3, g4⟩
   · rw [if_neg hz] at e; cases e
 · cases e
end
end DL
namespace L2
open PySem PySem.Spec PyProof.Rows
def Zbt (ta : TA) : TE := fun σ H Q => ta σ H fun vs H1 => ∃ n : Nat, vs = [.int (n : Int)] /\ n <= 1000000 /\ ∀ l, H1 l = none -> Q (.ref l) (upd H1 l (.lst ((List.range n).map fun k : Nat => V.int (k : Int))))
theorem Zdb (acc : List Value) (n : Nat) (hl : acc.length = n) (h : ∀ (j : Nat) (v : Value), acc[j]? = some v -> ∃ t, v = .int (0 + (j : Nat) * 1) t) : Vals ((List.range n).map fun k : Nat => V.int (k : Int)) acc := by
 have go : ∀ (k : Nat) (acc : List Value), (∀ (j : Nat) (v : Value), acc[j]? = some v -> ∃ t, v = .int ((k + j : Nat) : Int) t) -> Vals ((List.range' k acc.length).map fun k : Nat => V.int (k : Int)) acc := fun k acc => by
  induction acc generalizing k with
  | nil => exact fun _ => .nil
  | cons v acc ih =>
   intro h
   rw [List.length_cons, List.range'_succ, List.map_cons]
   obtain ⟨t, e⟩ := h 0 v rfl
   refine .cons ⟨t, e⟩ (ih (k + 1) fun j v hj => ?_)
   obtain ⟨t, e⟩ := h (j + 1) v (by simpa using hj)
   exact ⟨t, by rw [e, show k + (j + 1) = k + 1 + j by omega]⟩
 rw [List.range_eq_range', <- hl]
 exact go 0 acc fun j v hj => by
  obtain ⟨t, e⟩ := h j v hj
  exact ⟨t, by rw [e]; congr 1; omega⟩
theorem ZbO {X : Cx} {a : Expr} {ta : TA} {p p2 pos pos2 : Pos} (hcm : X.calm = true) (hg : Gl X "list") (hm : X.mg "list" = none) (hgz : Gl X "range") (hmz : X.mg "range" = none) (ha : PA X [a] ta) (hs : starEach [a] X.env = [(false, eval a X.env)] := by rfl)
 (ho : starEach [.Call (.Name "range" p2) [a] [] pos2] X.env = [(false, eval (.Call (.Name "range" p2) [a] [] pos2) X.env)] := by rfl) :
 PE X (.Call (.Name "list" p) [.Call (.Name "range" p2) [a] [] pos2] [] pos) (Zbt ta) := by
 intro pins s σ H Q I h
 refine wpAny_Call_Name_kw (YX I hg hm boot_list ?_ (by decide) (by decide))
 refine PyProof.Rows.callWith_type1 ?_ ho rfl
 rw [ho]
 refine Calls.spliced_cons ?_
 refine Call_ (YX I hgz hmz boot_range (PyProof.Rows.callWith_type1 (thn (ha pos2 pins s σ H _ I h) fun us s1 ⟨vs, H1, I1, r1, q1⟩ => ?_) hs rfl))
 obtain ⟨n, e, hz, q⟩ := q1
 subst e
 cases r1 with
 | cons r rr =>
  cases rr
  obtain ⟨t, rfl⟩ := r
  refine call_range_1 ?_
  refine Calls.spliced_nil ?_
  have hsz : Builtin.Range.rangeSize 0 (n : Int) 1 = (n : Nat) := by rw [rangeSize_one]; split <;> omega
  refine call_list_range (I1.ok.hd hcm) (Heap.get?_push_size _ rfl) (small_one (by omega) (by omega) (by omega) (by omega)) hsz (by omega) fun h' tk acc c k3 hS hacc => ?_
  have k : ∀ b o, s1.heap.get? b = some o -> h'.get? b = some o := fun b o e => k3 b o (Heap.get?_push_of_some _ e)
  have hge : s1.heap.objs.size <= (s1.heap.push { cls := .type "range", data := .fields #[.int 0 s1.toks, .int (n : Int) t, .int 1 (s1.toks + 1)] }).objs.size := by rw [Heap.size_push]; exact Nat.le_succ _
  refine ⟨.ref (s1.heap.push { cls := .type "range", data := .fields #[.int 0 s1.toks, .int (n : Int) t, .int 1 (s1.toks + 1)] }).objs.size, _, I1.laid (t' := tk) k hge (show ObjOk X.prog X.w _ h' _ (.lst _) from ⟨?_, acc.toList, c, Zdb acc.toList n (by simpa using hacc.1) fun j v hj => hacc.2 j v (by simpa using hj), hS⟩), rfl, q _ (I1.hok.fresh hge)⟩
  rw [List.length_map, List.length_range, sizeLine_eq]
  omega
end L2
namespace DL
open PySem PySem.Spec L2
def VR (a : Env -> Option (List D)) (δ : Env) : Option D := match a δ with
 | some [.int n] => if 0 <= n /\ n <= 1000000 then some (.lst ((List.range n.toNat).map fun k : Nat => D.int (k : Int))) else none
 | _ => none
theorem ZbP {G : Cn} {ow : List Nat} {ta : TA} {q : Ql} {a : Env -> Option (List D)} (h : VA G ow ta q a) : VF G ow (Zbt ta) (VR a) := fun H0 av A σ H δ E d e Q k => by
 unfold VR at e
 split at e
 · rename_i n ex
   by_cases hz : 0 <= n /\ n <= 1000000
   · rw [if_pos hz] at e
     cases e
     refine h H0 av A σ H δ E _ ex _ fun vs H1 s1 r1 => ?_
     refine ⟨n.toNat, ?_, by omega, fun l hl => k l _ _ H1 s1 hl ?_ rfl⟩
     · rw [Int.toNat_of_nonneg hz.1]
       exact ql1 r1
     · have := RepL.of_vals (cA := G.1) (av := AV av A) (H := H1) (xs := (List.range n.toNat).map fun k : Nat => D.int (k : Int)) (by rw [List.all_map]; exact List.all_eq_true.mpr fun _ _ => rfl)
       rw [List.map_map] at this
       exact this
   · rw [if_neg hz] at e; cases e
 · cases e
end DL
namespace DL
open PySem PySem.Spec L2
def FLN (cA : Kn) (H0 : Hp) (av : Addr -> Prop) (De : Ends) (d : D) : Prop := FL cA H0 av De d /\ (d = .non -> ∀ H', Same H0 H' -> De.rt .non H')
def Qz (G : Cn) (ow : List Nat) (ts : TS) (φ : Env -> Option Out) : Prop := ∀ H0 av A σ H δ, ER G ow H0 av A σ H δ -> ∀ d, φ δ = some (.rt d) -> ∀ De : Ends, FLN G.1 H0 av De d -> ts De σ H
def YB (φ ψ : Env -> Option Out) (δ : Env) : Option Out := match φ δ with
 | some (.nx δ') => ψ δ'
 | some (.rt .non) => some (.rt .non)
 | _ => none
def XA (ε : Env -> Option D) (δ : Env) : Option D := match ε δ with
 | some (.lst xs) => some (.lst xs)
 | _ => none
def Ux (ε : Env -> Option D) (δ : Env) : Option D := match ε δ with
 | some .non => some .non
 | _ => none
section
variable {cA : Kn} {G : Cn} {ow owN owB owC ow1 : List Nat} {i : Nat}
theorem Zeh {t : TS} {φ : Env -> Option Out} (h : VSL G ow t φ) : Qz G ow t φ := fun H0 av A σ H δ E d e De k => h H0 av A σ H δ E d e De k.1
theorem QA {t u : TS} {φ ψ : Env -> Option Out} (h1 : VS G ow ow1 [] [] t φ) (h2 : Qz G ow1 u ψ) : Qz G ow (Vs t u) (YB φ ψ) := fun H0 av A σ H δ E d e De k => by
 unfold YB at e
 split at e
 · rename_i δ' hp
   exact h1 H0 av A σ H δ E _ hp _ fun A' σ' H' E' => h2 H0 av A' σ' H' δ' E' d e De k
 · rename_i hp
   cases e
   refine h1 H0 av A σ H δ E _ hp _ fun v H' s r => ?_
   have hv : v = .non := r
   rw [hv]
   exact k.2 rfl H' s
 · cases e
def QB (cA : Kn) (n : Nat) (m : List D -> Option D) : Sp := fun vs H Q _ => ∃ av ds d, (∀ a, av a -> H a ≠ none) /\ RepL cA av H ds vs /\ ds.length = n /\ m ds = some d /\ (∀ p vs xs H', Same H H' -> H p = none -> H' p = some (.lst vs) -> RepL cA (fun x => av x \/ x = p) H' xs vs -> d = .lst xs -> Q (.ref p) H') /\ (d = .non -> ∀ H', Same H H' -> Q .non H')
open Classical in
theorem ZaQ {n : Nat} {m : List D -> Option D} {t : TA} {α : Env -> Option (List D)} {E0 : XK} (dds : List D) (hd : dds.all ZL = true) (h : VA G ow t .cl α) : VF G ow (U4 (QB G.1 n m) (dds.map val) E0 t) (XA (Zp n m dds α)) := fun H0 av A σ H δ E d e Q k => by
 unfold XA at e
 split at e
 · rename_i xs0 he0
   cases e
   unfold Zp at he0
   cases he : α δ with
   | none => rw [he] at he0; cases he0
   | some ds =>
    rw [he] at he0
    dsimp only at he0
    by_cases hz : (ds ++ dds).length = n
    · rw [if_pos hz] at he0
      refine h H0 av A σ H δ E ds he _ fun vs H1 s1 r1 => ?_
      have E1 := E.mono s1
      refine ⟨AV av A, ds ++ dds, _, E1.avl, r1.cl.append (.of_vals hd), hz, he0, fun p ws xs H' s hp hH' l hd => ?_, fun z => nomatch z⟩
      have eu : upd (fun x => if x = p then none else H' x) p (.lst ws) = H' := by
       funext x
       by_cases hx : x = p
       · subst hx; rw [Z7, hH']
       · rw [Zx hx, if_neg hx]
      have := k p ws xs (fun x => if x = p then none else H' x) (fun b o q => ?_) (if_pos rfl) ((l.ext fun b o n q => ?_).av fun b z => .inl (.inl z)) hd
      · rw [eu] at this
        exact this
      · have hb : b ≠ p := fun z => by rw [z] at q; rw [s1.free hp] at q; cases q
        show (if b = p then none else H' b) = some o
        rw [if_neg hb]
        exact s b o (s1 b o q)
      · have hb : b ≠ p := fun z => n (.inr z)
        show (if b = p then none else H' b) = some o
        rw [if_neg hb]
        exact q
    · rw [if_neg hz] at he0; cases he0
 · cases e
theorem ZcP {n : Nat} {m : List D -> Option D} {t : TA} {α : Env -> Option (List D)} {E0 : XK} {q : Ql} (dds : List D) (hd : dds.all ZL = true) (h : VA G ow t .cl α) : VE G ow (U4 (QB G.1 n m) (dds.map val) E0 t) q (Ux (Zp n m dds α)) := fun H0 av A σ H δ E d e Q k => by
 unfold Ux at e
 split at e
 · rename_i he0
   cases e
   unfold Zp at he0
   cases he : α δ with
   | none => rw [he] at he0; cases he0
   | some ds =>
    rw [he] at he0
    dsimp only at he0
    by_cases hz : (ds ++ dds).length = n
    · rw [if_pos hz] at he0
      refine h H0 av A σ H δ E ds he _ fun vs H1 s1 r1 => ?_
      have E1 := E.mono s1
      refine ⟨AV av A, ds ++ dds, _, E1.avl, r1.cl.append (.of_vals hd), hz, he0, fun p ws xs H' s hp hH' l hd => (nomatch hd), fun _ H' s => k _ H' (s1.trans s) ?_⟩
      cases q <;> exact rfl
    · rw [if_neg hz] at he0; cases he0
 · cases e
theorem Zei {t : TS} : VS G ow owN owB owC t (fun _ => none) := fun _ _ _ _ _ _ _ o e => nomatch e
noncomputable def XW (i : Nat) (ε : Env -> Option D) (ψ1 ψ2 : Env -> Option Out) (δ : Env) : Option Out := match ε δ with
 | some .non => ψ1 (δ.set i (some .non))
 | some (.lst xs) => ψ2 (δ.set i (some (.lst xs)))
 | _ => none
theorem Zdc {te : TE} {u : TS} {ε : Env -> Option D} {ψ1 ψ2 : Env -> Option Out} (i : Nat) (hN : VE G ow te .cl (Ux ε)) (hL : VF G ow te (XA ε)) (hn : G.2 i = none) (hi : ow.contains i = false) (h0 : sub ow ow = true) (h1 : sub ow (i :: ow) = true) (h2 : sub (i :: ow) (i :: ow) = true) (g1 : VS G ow owN owB owC u ψ1) (g2 : VS G (i :: ow) owN owB owC u ψ2) : VS G ow owN owB owC (Vs (Xq te (Y6 i)) u) (XW i ε ψ1 ψ2) := fun H0 av A σ H δ E o e De k => by
 unfold XW at e
 split at e
 · rename_i he
   have a1 : VS G ow owN owB owC (Vs (Xq te (Y6 i)) u) (Zd (Zf i (Ux ε)) ψ1) := Zu (ow1 := ow) (ZD i hN hn h0 hi h1) g1
   refine a1 H0 av A σ H δ E o ?_ De k
   unfold Zd Zf Ux
   rw [he]
   exact e
 · rename_i xs he
   have a1 : VS G ow owN owB owC (Vs (Xq te (Y6 i)) u) (Zd (Zf i (XA ε)) ψ2) := Zu (ow1 := i :: ow) (XS i hL hn h2 (by simp) h1) g2
   refine a1 H0 av A σ H δ E o ?_ De k
   unfold Zd Zf XA
   rw [he]
   exact e
 · cases e
end
section
variable {P : Program} {w : World} {K : PySem.W.Frag} {mg : Str -> Option Value} {base : Heap} {cA : Kn}
theorem ZfN {x qual : Str} {st : Stmt} {f : Addr} {fd : FuncData} {N ps : List Str} {k : Nat} {φ : Env -> Option Out} {body : List Stmt} {scope : Scope} {n : Nat} {m : List D -> Option D} (F : FunX K x qual st f fd) (S : FnScope N ps (Zo st)) (hS : Zo st = scope) (hB : ZK st = body)
 (hbody : ∀ (cdv : Value) (A : Around) (outer : List PySem.Env) (s : Shared) (H : Hp) (E : XK), Room k (A.deeper (PyProof.Rows.envOfC qual scope s.heap.objs.size f cdv)) ->
   ∃ t, PSs (Xa CX0 P w K mg base N qual scope f cdv A outer s H E).nox body t /\ Qz ⟨cA, fun _ => none⟩ [] t φ) (hm : m = Ut N.length φ) (hn : ps.length = n) : FnOk P w K mg base CX0 (k + 1) f fd ps (QB cA n m) := by
 subst hS hB hm hn
 refine F.ok S (fun vs H Q E h => ?_) fun cdv A outer s H vs Q E hr h => ?_
 · obtain ⟨av, ds, d, _, r, hl, _⟩ := h
   rw [<- r.length, hl]
 · obtain ⟨av, ds, d, ha, r, hl, hm, q⟩ := h
   obtain ⟨t, ht, hv⟩ := hbody cdv A outer s H E hr
   refine ⟨t, ht, ?_⟩
   unfold Ut at hm
   split at hm
   · rename_i d' hφ
     cases hm
     exact hv H av _ _ H _ (Zbp ha r) _ hφ _ ⟨fun p vs xs H' s' h0 hp l hd => q.1 p vs xs H' s' h0 hp l hd, fun z H' s' => q.2 z H' s'⟩
   · cases hm
end
end DL
namespace DL
open PySem PySem.Spec L2
theorem YS (i j : Int) : eqD (.int i) (.int j) = some (.bl (decide (i = j))) := by
 show (if (ZL (.int i) && ZL (.int j) && Y8 (V.int i) (V.int j)) = true then some (D.bl (decide (V.int i = V.int j))) else _) = _
 rw [if_pos (by rfl)]
 simp
theorem VU (a b : List Nat) : eqD (.str a) (.str b) = some (.bl (decide (a = b))) := by
 show (if (ZL (.str a) && ZL (.str b) && Y8 (S a) (S b)) = true then some (D.bl (decide (S a = S b))) else _) = _
 rw [if_pos (by rfl)]
 simp only [ZfG]
theorem Uy (a b : Bool) : eqD (.bl a) (.bl b) = some (.bl (decide (a = b))) := by
 show (if (ZL (.bl a) && ZL (.bl b) && Y8 (V.bl a) (V.bl b)) = true then some (D.bl (decide (V.bl a = V.bl b))) else _) = _
 rw [if_pos (by rfl)]
 simp
theorem VV : eqD .non .non = some (.bl true) := rfl
theorem VW (i : Int) : eqD .non (.int i) = some (.bl false) := by
 show (if (ZL .non && ZL (.int i) && Y8 V.non (V.int i)) = true then some (D.bl (decide (V.non = V.int i))) else _) = _
 rw [if_pos (by rfl)]
 simp
theorem VY (i : Int) : eqD (.int i) .non = some (.bl false) := by
 show (if (ZL (.int i) && ZL .non && Y8 (V.int i) V.non) = true then some (D.bl (decide (V.int i = V.non))) else _) = _
 rw [if_pos (by rfl)]
 simp
theorem XB (i j : Int) : neD (.int i) (.int j) = some (.bl (!decide (i = j))) := by unfold neD; rw [YS]
theorem Uz (i j : List Nat) : neD (.str i) (.str j) = some (.bl (!decide (i = j))) := by unfold neD; rw [VU]
theorem UA : neD .non .non = some (.bl false) := by unfold neD; rw [VV]; rfl
theorem UB (i : Int) : neD .non (.int i) = some (.bl true) := by unfold neD; rw [VW]; rfl
theorem UC (i : Int) : neD (.int i) .non = some (.bl true) := by unfold neD; rw [VY]; rfl
theorem XX {γ : D -> Env -> Option Env} {φ : Env -> Option Out} (I : Nat -> Env -> Prop) : ∀ (xs : List D) (k : Nat) (δ : Env), I k δ ->
 (∀ (j : Nat) x δ, xs[j]? = some x -> I (k + j) δ -> ∃ δ1, γ x δ = some δ1 /\ ∃ δ2, φ δ1 = some (.nx δ2) /\ I (k + j + 1) δ2) -> ∃ δ', Yf γ φ xs δ = some (.nx δ') /\ I (k + xs.length) δ'
 | [], k, δ, h, _ => ⟨δ, rfl, h⟩
 | x :: xs, k, δ, h, step => by
  obtain ⟨δ1, h1, δ2, h2, h3⟩ := step 0 x δ rfl h
  obtain ⟨δ', h4, h5⟩ := XX I xs (k + 1) δ2 h3 fun j y δ hy hI => by
   have := step (j + 1) y δ (by simpa using hy) (by rwa [show k + (j + 1) = k + 1 + j by omega])
   rwa [show k + (j + 1) + 1 = k + 1 + j + 1 by omega] at this
  refine ⟨δ', ?_, by rwa [List.length_cons, show k + (xs.length + 1) = k + 1 + xs.length by omega]⟩
  unfold Yf
  rw [h1]
  dsimp only
  rw [h2]
  exact h4
theorem QC (lo c : Int) (n : Nat) : (ZJ lo c n).length = n := by simp [ZJ]
end DL
namespace DL
open PySem PySem.Spec L2
end DL
namespace DL
open PySem PySem.Spec L2
end DL
namespace DL
open PySem PySem.Spec L2
theorem Zr {a b : Env -> Option Out} {δ δ' : Env} (h : a δ = some (.nx δ')) : Zd a b δ = b δ' := by
 unfold Zd; rw [h]
theorem VZ {a b : Env -> Option Out} {δ : Env} {d : D} (h : a δ = some (.rt d)) : Zd a b δ = some (.rt d) := by
 unfold Zd; rw [h]
theorem ZB {i : Nat} {e : Env -> Option D} {δ : Env} {d : D} (h : e δ = some d) : Zf i e δ = some (.nx (δ.set i (some d))) := by
 unfold Zf; rw [h]
theorem ZQ {e : Env -> Option D} {δ : Env} {d : D} (h : e δ = some d) : Zn e δ = some (.rt d) := by
 unfold Zn; rw [h]
theorem Xk {t : Env -> Option Bool} {a b : Env -> Option Out} {δ : Env} (h : t δ = some true) : sIf t a b δ = a δ := by
 unfold sIf; rw [h]
theorem Yw {t : Env -> Option Bool} {a b : Env -> Option Out} {δ : Env} (h : t δ = some false) : sIf t a b δ = b δ := by
 unfold sIf; rw [h]
theorem Z0 {e : Env -> Option D} {δ : Env} {b : Bool} (h : e δ = some (.bl b)) : xB e δ = some b := by
 unfold xB; rw [h]; rfl
theorem UD {t : Env -> Option Bool} {δ : Env} {b : Bool} (h : t δ = some b) : Z9 t δ = some (!b) := by
 unfold Z9; rw [h]
theorem JO {a b : Env -> Option Bool} {δ : Env} {x : Bool} (h1 : a δ = some false) (h2 : b δ = some x) : xOr a b δ = some x := by
 unfold xOr; rw [h1]; exact h2
theorem ZT {n : Nat} {m : List D -> Option D} {α : Env -> Option (List D)} {δ : Env} {ds : List D} (h : α δ = some ds) (hn : ds.length = n) : Zp n m [] α δ = m ds := by
 unfold Zp
 rw [h]
 dsimp only
 rw [List.append_nil, if_pos hn]
theorem Zj {a : Env -> Option D} {b : Env -> Option (List D)} {δ : Env} {x : D} {xs : List D} (h1 : a δ = some x) (h2 : b δ = some xs) : Zb a b δ = some (x :: xs) := by
 unfold Zb; rw [h1, h2]
theorem Zi {f : D -> D -> Option D} {a b : Env -> Option D} {δ : Env} {x y : D} (h1 : a δ = some x) (h2 : b δ = some y) : eOp f a b δ = f x y := by
 unfold eOp; rw [h1, h2]
theorem JP {a b : Env -> Option D} {δ : Env} {x : D} (h1 : a δ = some (.bl true)) (h2 : b δ = some x) : Yq a b δ = some x := by
 unfold Yq; rw [h1]; exact h2
theorem ZdK {α : Env -> Option (List D)} {δ : Env} {ds : List D} (h : α δ = some ds) (hl : ds.length <= 1000) : Xe α δ = (some (.tup ds) : Option D) := by
 unfold Xe; rw [h]
 exact if_pos (Nat.le_trans hl (by decide))
theorem QD {α : Env -> Option (List D)} {δ : Env} {ds : List D} (h : α δ = some ds) (hl : ds.length <= 1000) : Zz α δ = (some (.lst ds) : Option D) := by
 unfold Zz; rw [h]
 exact if_pos (Nat.le_trans hl (by decide))
theorem JQ {γ : D -> Env -> Option Env} {φ : Env -> Option Out} (I : Env -> Prop) : ∀ (xs : List D) (δ : Env), I δ ->
 (∀ x ∈ xs, ∀ δ, I δ -> ∃ δ1, γ x δ = some δ1 /\ ∃ δ2, φ δ1 = some (.nx δ2) /\ I δ2) -> ∃ δ', Yf γ φ xs δ = some (.nx δ') /\ I δ'
 | [], δ, h, _ => ⟨δ, rfl, h⟩
 | x :: xs, δ, h, step => by
  obtain ⟨δ1, h1, δ2, h2, h3⟩ := step x List.mem_cons_self δ h
  obtain ⟨δ', h4, h5⟩ := JQ I xs δ2 h3 fun y hy => step y (List.mem_cons_of_mem _ hy)
  refine ⟨δ', ?_, h5⟩
  unfold Yf
  rw [h1]
  dsimp only
  rw [h2]
  exact h4
theorem Zbu {τ : Env -> Option Bool} {φ : Env -> Option Out} (I J : Env -> Prop) (μ : Env -> Nat)
 (step : ∀ δ, I δ -> (τ δ = some false /\ J δ) \/ (τ δ = some true /\ ∃ δ', φ δ = some (.nx δ') /\ I δ' /\ μ δ' < μ δ)) :
 ∀ (k : Nat) (δ : Env), μ δ <= k -> I δ -> ∃ n δ', Ym τ φ n δ = some (.nx δ') /\ J δ'
 | 0, δ, hk, h => by
  rcases step δ h with ⟨h1, h2⟩ | ⟨h1, δ', h2, h3, h4⟩
  · exact ⟨1, δ, by unfold Ym; rw [h1], h2⟩
  · omega
 | k + 1, δ, hk, h => by
  rcases step δ h with ⟨h1, h2⟩ | ⟨h1, δ', h2, h3, h4⟩
  · exact ⟨1, δ, by unfold Ym; rw [h1], h2⟩
  · obtain ⟨n, δ2, h5, h6⟩ := Zbu I J μ step k δ' (by omega) h3
    refine ⟨n + 1, δ2, ?_, h6⟩
    unfold Ym
    rw [h1]
    dsimp only
    rw [h2]
    exact h5
theorem Zau {τ : Env -> Option Bool} {φ : Env -> Option Out} (I J : Env -> Prop) (μ : Env -> Nat)
 (step : ∀ δ, I δ -> (τ δ = some false /\ J δ) \/ (τ δ = some true /\ ∃ δ', φ δ = some (.nx δ') /\ I δ' /\ μ δ' < μ δ)) (δ : Env) (h : I δ) : ∃ δ', YD τ φ δ = some (.nx δ') /\ J δ' := by
 obtain ⟨n, δ', h1, h2⟩ := Zbu I J μ step (μ δ) δ (Nat.le_refl _) h
 exact ⟨δ', ZcB h1, h2⟩
theorem JR {i : Int} (h : i.natAbs <= 10 ^ 1000) : Wd i := Nat.lt_of_le_of_lt h (by decide +kernel)
theorem UE {i j : Int} (h1 : j ≠ 0) (h2 : Wd j) : fdivW (.int i) (.int j) = some (.int (i.fdiv j)) := if_pos ⟨h1, h2⟩
theorem Zcc {i j : Int} (h1 : j ≠ 0) : modW (.int i) (.int j) = some (.int (i.fmod j)) := if_pos h1
theorem Zej {i j : Int} (h : Vc i j) : powW (.int i) (.int j) = some (.int (i ^ j.toNat)) := if_pos h
theorem UF {a b : Int} (h : 0 < b) : 0 <= a.fmod b /\ a.fmod b < b := by
 rw [Int.fmod_eq_emod_of_nonneg a (by omega)]
 exact ⟨Int.emod_nonneg a (by omega), Int.emod_lt_of_pos a h⟩
theorem Zdd {a b : Int} (h : b ≠ 0) : (a.fmod b).natAbs < b.natAbs := by
 rw [Int.fmod_eq_emod]
 have h1 := Int.emod_nonneg a h
 have h2 := Int.emod_lt_of_pos a (b := (b.natAbs : Int)) (by omega)
 rw [show a % (b.natAbs : Int) = a % b from by rcases Int.natAbs_eq b with e | e <;> rw [e] <;> simp] at h2
 split
 · omega
 · rename_i hn
   have h3 : a % b ≠ 0 := fun z => hn (.inr (Int.dvd_of_emod_eq_zero z))
   have h4 : ¬ 0 <= b := fun z => hn (.inl z)
   omega
theorem Zde (a b : Int) : Int.gcd b (a.fmod b) = Int.gcd a b := by
 have e : a.fmod b = a - b * a.fdiv b := Int.fmod_def a b
 apply Nat.dvd_antisymm
 · apply Int.dvd_gcd
   · have h1 : ((Int.gcd b (a.fmod b) : Nat) : Int) ∣ b := Int.gcd_dvd_left ..
     have h2 : ((Int.gcd b (a.fmod b) : Nat) : Int) ∣ a.fmod b := Int.gcd_dvd_right ..
     have : a = a.fmod b + b * a.fdiv b := by omega
     have h3 := Int.dvd_add h2 (Int.dvd_mul_of_dvd_left (c := a.fdiv b) h1)
     rw [<- this] at h3
     exact h3
   · exact Int.gcd_dvd_left ..
 · apply Int.dvd_gcd
   · exact Int.gcd_dvd_right ..
   · rw [e]
     exact Int.dvd_sub (Int.gcd_dvd_left ..) (Int.dvd_mul_of_dvd_left (Int.gcd_dvd_right ..))
end DL
namespace DL
open PySem PySem.Spec L2
theorem XY {α : Env -> Option (List D)} {δ : Env} {j : Int} (h : α δ = some [.int j]) (h1 : -1000000 <= j) (h2 : j <= 1000000) : ZE α δ = some (ZJ 0 1 j.toNat) := by
 unfold ZE
 rw [h]
 dsimp only
 rw [if_pos ⟨by omega, by omega⟩]
theorem ZdL {α : Env -> Option (List D)} {δ : Env} {i j : Int} (h : α δ = some [.int i, .int j]) (h1 : -1000000 <= j) (h2 : j <= 1000000) (h3 : -1000000 <= i) (h4 : i <= 1000000) : ZE α δ = some (ZJ i 1 (j - i).toNat) := by
 unfold ZE
 rw [h]
 dsimp only
 rw [if_pos ⟨by omega, by omega, by omega, by omega⟩]
theorem Vm {i : Nat} {ε : Env -> Option D} {δ : Env} {xs : List D} {d : D} (h1 : Za i δ = some (.lst xs)) (h2 : ε δ = some d) (hl : xs.length <= 1000000) : Z4 i ε δ = some (.nx (δ.set i (some (.lst (xs ++ [d]))))) := by
 unfold Z4
 rw [h1]
 dsimp only
 rw [h2]
 dsimp only
 rw [if_pos (by rw [PySem.sizeLine_eq]; omega)]
theorem UG {n j : Nat} {x : D} (h : (ZJ 0 1 n)[j]? = some x) : j < n /\ x = .int (j : Nat) := by
 have hj : j < n := by have := (List.getElem?_eq_some_iff.mp h).1; simpa [ZJ] using this
 refine ⟨hj, ?_⟩
 unfold ZJ at h
 rw [List.getElem?_map, List.getElem?_range hj] at h
 have := Option.some.inj h
 rw [<- this]
 show D.int (0 + (j : Int) * 1) = _
 rw [show (0 + (j : Int) * 1) = j by omega]
theorem Zek (lo c : Int) (n : Nat) : (ZJ lo c n).length = n := by simp [ZJ]
theorem YI {ι : Env -> Option (List D)} {γ : D -> Env -> Option Env} {φ : Env -> Option Out} {δ : Env} {xs : List D} {o : Out} (h1 : ι δ = some xs) (h2 : Yf γ φ xs δ = some o) : ZP ι γ φ δ = some o := by
 unfold ZP
 rw [h1]
 exact h2
theorem YT {ι : Env -> Option (List D)} {γ : D -> Env -> Option Env} {τ : Env -> Option Bool} {ε : Env -> Option D} {n : Nat} {js : List Nat} {δ δ0 : Env} {xs ys : List D} (h1 : ι δ = some xs) (hb : Xi n δ js = δ0) (h2 : ZX γ τ ε δ0 xs = some ys) (hl : ys.length <= 1000000) : ZO ι γ τ ε n js δ = some (.lst ys) := by
 unfold ZO
 rw [h1]
 dsimp only
 rw [hb, h2]
 dsimp only
 rw [if_pos (by rw [PySem.sizeLine_eq]; omega)]
theorem Z5 {f : List D -> Option D} {α : Env -> Option (List D)} {δ : Env} {ds : List D} (h : α δ = some ds) : eCB f α δ = f ds := by
 unfold eCB
 rw [h]
theorem Yh {n : Nat} {f : Env -> Option Out} {vs : List D} {δ : Env} {d : D} (h1 : (vs.map some ++ List.replicate (n - vs.length) none) = δ) (h2 : f δ = some (.rt d)) : DL.run n f vs = some d := by
 unfold DL.run
 rw [h1, h2]
theorem nil_of {δ : Env} : eNil δ = some [] := rfl
end DL
namespace DL
open PySem PySem.Spec L2
theorem QE {x : D} (hs : ZL x = false) (h : SeqAt.shaped (toP x) = true) : eqD x x = some (.bl true) := by
 unfold eqD
 rw [if_neg (by simp [hs]), h, if_pos (by rfl)]
 rw [SeqAt.eqv_refl _ (SeqAt.canLay_of_shaped h)]
theorem Zdf {x : D} (hs : ZL x = false) (h : SeqAt.shaped (toP x) = true) : neD x x = some (.bl false) := by
 unfold neD
 rw [QE hs h]
 rfl
end DL
namespace DL
open PySem PySem.Spec L2
theorem add_int (i j : Int) : addX (.int i) (.int j) = some (.int (i + j)) := rfl
theorem JS {a b : List D} (h : a.length + b.length <= 100000) : addX (.lst a) (.lst b) = some (.lst (a ++ b)) := by
 show (if a.length + b.length <= PySem.sizeLine then some (D.lst (a ++ b)) else none) = _
 rw [if_pos (by rw [PySem.sizeLine_eq]; omega)]
theorem QF {i j : Int} (h1 : -1000 <= j) (h2 : j <= 1000) : mulX (.int i) (.int j) = some (.int (i * j)) := if_pos (.inr (.inr ⟨by omega, by omega⟩))
theorem Zcd {a : List D} {n : Nat} (h : a.length * n <= 100000) (hn : n <= 100000) : mulX (.lst a) (.int (n : Int)) = some (.lst (List.replicate n a).flatten) := by
 unfold mulX
 dsimp only
 rw [Int.toNat_natCast, if_pos ⟨by omega, by omega, by rw [PySem.sizeLine_eq]; omega⟩]
theorem Zce {n a : Nat} (h : a < n) : ixN n (a : Int) = some a := by
 unfold ixN
 rw [if_pos (by omega), if_pos (by omega), Int.toNat_natCast]
theorem QG {xs : List D} {a : Nat} {x : D} (h : xs[a]? = some x) : ixD (.lst xs) (.int (a : Int)) = some x := ZbZ h
theorem UH {cs : List Int} {a : Nat} (h : a < cs.length) : ixD (.lst (cs.map D.int)) (.int (a : Int)) = some (.int (cs.getD a 0)) := by
 refine QG ?_
 rw [List.getElem?_map, List.getElem?_eq_getElem h, List.getD_eq_getElem?_getD, List.getElem?_eq_getElem h]
 rfl
theorem Zfr {i : Int} (h : 0 <= i) : ∃ a : Nat, i = (a : Int) := ⟨i.toNat, (Int.toNat_of_nonneg h).symm⟩
theorem len_lst {xs : List D} : lenD [.lst xs] = some (.int (xs.length : Int)) := rfl
end DL
namespace K27
open PySem PySem.Spec L2 DL
def QH : List (String × Bool) := [("NoneType", false), ("bool", true), ("int", false), ("str", false), ("list", false), ("tuple", false)]
def QI : List (String × Bool) := [("NoneType", false), ("bool", true), ("int", true), ("str", false), ("list", false), ("tuple", false)]
def QJ : List (String × Bool) := [("NoneType", false), ("bool", false), ("int", false), ("str", false), ("list", true), ("tuple", false)]
noncomputable def f_QA : DL.Env -> Option Out :=
 (Zd (YD (xB (eOp neD (Za 1) (eC (.int 0)))) (Zd (Zf 2 (eOp modW (Za 0) (Za 1)))
 (Zd (Zf 0 (Za 1))
 (Zf 1 (Za 2)))))
 (Zn (eCB absD (Zb (Za 0) eNil))))
noncomputable def Vn : List D -> Option D := run 3 f_QA
noncomputable def f_QP : DL.Env -> Option Out :=
 (Zd (Zf 2 (Zp 2 Vn [] (Zb (Za 0) (Zb (Za 1) eNil))))
 (Zd (sIf (xB (eOp (Z3 fun i j => decide (i < j)) (Za 1) (eC (.int 0)))) (Zf 2 (eUn Xw (Za 2))) sNext)
 (Zn (Xe (Zb (eOp fdivW (Za 0) (Za 2)) (Zb (eOp fdivW (Za 1) (Za 2)) eNil))))))
noncomputable def UI : List D -> Option D := run 3 f_QP
noncomputable def f_QF : DL.Env -> Option Out :=
 (Zd (Zf 2 (ZO (ZE (Zb (Za 1) (Zb (eCB lenD (Zb (Za 0) eNil)) eNil))) (Zq 0) (xB (eOp neD (eOp ixD (eOp ixD (Za 1) (Za 0)) (eC (.int 0))) (eC (.int 0)))) (Za 0) 1 [0]))
 (Zn (eIf (xB (eOp (Z3 fun i j => decide (j < i)) (eCB lenD (Zb (Za 2) eNil)) (eC (.int 0)))) (eOp ixD (Za 2) (eC (.int 0))) (eC .non))))
noncomputable def UJ : List D -> Option D := run 3 f_QF
noncomputable def f_QM : DL.Env -> Option Out :=
 (Zd (Zf 3 (eCB YH (Zb (Za 0) eNil)))
 (Zd (YR 3 (Za 1) (eOp ixD (Za 0) (Za 2)))
 (Zd (YR 3 (Za 2) (eOp ixD (Za 0) (Za 1)))
 (Zn (Za 3)))))
noncomputable def UK : List D -> Option D := run 4 f_QM
noncomputable def f_QQ : DL.Env -> Option Out :=
 (Zd (Zf 3 (eOp ixD (Za 0) (Za 1)))
 (Zd (Zf 4 (Zz eNil))
 (Zd (ZP (Us 0 (Za 0)) (Xf 2 (Yl 5 (Yl 6 gsNil))) (sIf (xB (eOp eqD (Za 5) (Za 1))) (Z4 4 (eSl (Za 6) (xP (eC (.int 1))) xNoP)) (Zd (Zf 7 (Uw (Za 6) (Za 3)))
 (Z4 4 (ZO (ZU (eSl (Za 7) (xP (eC (.int 1))) xNoP)) (Xf 2 (Yl 0 (Yl 1 gsNil))) (fun _ => some true) (eOp fdivW (eOp subD (eOp mulX (eOp ixD (Za 2) (eC (.int 0))) (Za 0)) (eOp mulX (eOp ixD (Za 3) (eC (.int 0))) (Za 1))) (Za 4)) 2 [3, 6, 2])))))
 (Zn (Za 4)))))
noncomputable def QK : List D -> Option D := run 8 f_QQ
noncomputable def f_QR : DL.Env -> Option Out :=
 (Zd (Zf 2 (ZO (Uv (Za 0) (Za 1)) (Xf 2 (Yl 0 (Yl 1 gsNil))) (fun _ => some true) (eOp addX (eCB YH (Zb (Za 0) eNil)) (Zz (Zb (Za 1) eNil))) 2 []))
 (Zd (Zf 3 (eC (.int 1)))
 (Zd (ZP (ZE (Zb (eCB lenD (Zb (Za 0) eNil)) eNil)) (Zq 4) (Zd (Zf 5 (Zp 2 UJ [] (Zb (Za 2) (Zb (Za 4) eNil))))
 (Zd (sIf (xB (Yv (Za 5))) (Zn (eC .non)) sNext)
 (Zd (Zf 6 (eOp ixD (eOp ixD (Za 2) (Za 5)) (eC (.int 0))))
 (Zd (Zf 2 (Zp 3 QK [] (Zb (Zp 3 UK [] (Zb (Za 2) (Zb (Za 5) (Zb (Za 4) eNil)))) (Zb (Za 4) (Zb (Za 3) eNil)))))
 (Zf 3 (Za 6)))))))
 (Zn (ZO (ZU (Za 2)) (Zq 0) (fun _ => some true) (Zp 2 UI [] (Zb (eOp ixD (Za 0) (eC (.int 0))) (Zb (Za 1) eNil))) 1 [3])))))
noncomputable def UL : List D -> Option D := run 7 f_QR
noncomputable def f_QG : DL.Env -> Option Out :=
 (Zd (Zf 2 (Zz eNil))
 (Zd (ZP (ZE (Zb (eCB lenD (Zb (Za 0) eNil)) eNil)) (Zq 3) (Zd (Zf 4 (ZO (ZU (Za 0)) (Zq 0) (fun _ => some true) (eUn Xw (eOp ixD (Za 0) (Za 1))) 1 [3]))
 (Zd (YR 4 (Za 3) (eOp addX (eOp ixD (Za 4) (Za 3)) (Za 1)))
 (Z4 2 (Za 4)))))
 (Zn (Za 2))))
noncomputable def V0 : List D -> Option D := run 5 f_QG
noncomputable def f_QS : DL.Env -> Option Out :=
 (YB (Zf 2 (Zp 2 UL [] (Zb (Zp 2 V0 [] (Zb (Za 0) (Zb (Za 1) eNil))) (Zb (eOp Y5 (Zz (Zb (eC (.int 1)) eNil)) (eCB lenD (Zb (Za 0) eNil))) eNil))))
 (YB (sIf (xOr (xB (Yv (Za 2))) (xB (eOp (Z3 fun i j => decide (i <= j)) (eCB minLD (Zb (ZO (ZU (Za 2)) (Zq 0) (fun _ => some true) (eOp ixD (Za 0) (eC (.int 0))) 1 []) eNil)) (eC (.int 0))))) (Zn (eC .non)) sNext)
 (YB (Zf 3 (eC (.int 1)))
 (YB (ZP (ZU (Za 2)) (Zq 4) (Zf 3 (eOp fdivW (eOp mulX (Za 3) (eOp ixD (Za 4) (eC (.int 1)))) (Zp 2 Vn [] (Zb (Za 3) (Zb (eOp ixD (Za 4) (eC (.int 1))) eNil))))))
 (Zn (ZO (ZU (Za 2)) (Zq 0) (fun _ => some true) (eOp mulX (eOp ixD (Za 0) (eC (.int 0))) (eOp fdivW (Za 1) (eOp ixD (Za 0) (eC (.int 1))))) 1 [3]))))))
noncomputable def V1 : List D -> Option D := Ut 5 f_QS
noncomputable def f_QD : DL.Env -> Option Out :=
 (Zd (sIf (xB (eOp (Z3 fun i j => decide (i < j)) (Za 1) (eCB lenD (Zb (Za 0) eNil)))) (Zn (eOp ixD (Za 0) (Za 1))) sNext)
 (Zn (eC (.int 0))))
noncomputable def YU : List D -> Option D := run 2 f_QD
noncomputable def f_QB : DL.Env -> Option Out :=
 (Zn (Yq (YA QI (Za 0)) (XQ (YA QH (Za 0)))))
noncomputable def UM : List D -> Option D := run 1 f_QB
noncomputable def f_QO : DL.Env -> Option Out :=
 (Zd (sIf (xOr (Z9 (xB (YA QJ (Za 0)))) (xB (eOp neD (eCB lenD (Zb (Za 0) eNil)) (Za 1)))) (Zn (eC (.bl false))) sNext)
 (Zd (ZP (ZU (Za 0)) (Zq 2) (sIf (Z9 (xB (Zp 1 UM [] (Zb (Za 2) eNil)))) (Zn (eC (.bl false))) sNext))
 (Zn (eC (.bl true)))))
noncomputable def QL : List D -> Option D := run 3 f_QO
noncomputable def f_QK : DL.Env -> Option Out :=
 (Zd (Zf 1 (eOp modW (Za 0) (eC (.int 4))))
 (Zd (sIf (xB (eOp eqD (Za 1) (eC (.int 0)))) (Zn (eC (.int 0))) sNext)
 (Zn (eOp modW (eOp fdivW (Za 0) (eC (.int 4))) (eOp ixD (Zz (Zb (eC (.int 3)) (Zb (eC (.int 12)) (Zb (eOp powW (eC (.int 10)) (eC (.int 12))) eNil)))) (eOp subD (Za 1) (eC (.int 1))))))))
noncomputable def QM : List D -> Option D := run 2 f_QK
noncomputable def f_QJ : DL.Env -> Option Out :=
 (Zd (Zf 3 (Zz eNil))
 (Zd (ZP (ZE (Zb (Za 2) eNil)) (Zq 4) (Z4 3 (ZO (ZE (Zb (Za 2) eNil)) (Zq 0) (fun _ => some true) (Zp 1 QM [] (Zb (Zp 2 YU [] (Zb (Za 1) (Zb (eOp addX (eOp addX (Za 2) (eOp mulX (Za 3) (Za 4))) (Za 0)) eNil))) eNil)) 1 [0, 1, 4, 2])))
 (Zn (Za 3))))
noncomputable def QN : List D -> Option D := run 5 f_QJ
noncomputable def f_QN : DL.Env -> Option Out :=
 (Zd (Zf 2 (eCB maxLD (Zb (ZO (ZU (Za 1)) (Zq 0) (fun _ => some true) (eCB sumLD (Zb (Za 0) eNil)) 1 []) eNil)))
 (Zd (sIf (xB (eOp eqD (eOp modW (Za 0) (eC (.int 3))) (eC (.int 0)))) (Zn (eOp addX (eC (.int 1)) (eOp modW (eOp fdivW (Za 0) (eC (.int 3))) (eC (.int 5))))) sNext)
 (Zn (eOp addX (eC (.int 1)) (eOp modW (eOp fdivW (Za 0) (eC (.int 3))) (eOp addX (Za 2) (eC (.int 2))))))))
noncomputable def QO : List D -> Option D := run 3 f_QN
noncomputable def f_QH (m_QH : List D -> Option D) : DL.Env -> Option Out :=
 (Zd (sIf (xB (eOp eqD (eCB lenD (Zb (Za 1) eNil)) (eC (.int 0)))) (Zn (eC (.int 1))) sNext)
 (Zd (Zf 2 (eOp ixD (Za 0) (eOp subD (eCB lenD (Zb (Za 0) eNil)) (eCB lenD (Zb (Za 1) eNil)))))
 (Zd (Zf 3 (eC (.int 0)))
 (Zd (ZP (ZE (Zb (eCB lenD (Zb (Za 1) eNil)) eNil)) (Zq 4) (Zd (Zf 5 (eOp ixD (Za 2) (eOp ixD (Za 1) (Za 4))))
 (Zd (sIf (xB (eOp neD (Za 5) (eC (.int 0)))) (Zf 5 (eOp mulX (Za 5) (Zp 2 m_QH [] (Zb (Za 0) (Zb (eOp addX (eSl (Za 1) xNoP (xP (Za 4))) (eSl (Za 1) (xP (eOp addX (Za 4) (eC (.int 1)))) xNoP)) eNil))))) sNext)
 (Zf 3 (eOp addX (Za 3) (eOp mulX (Za 5) (eOp subD (eC (.int 1)) (eOp mulX (eOp modW (Za 4) (eC (.int 2))) (eC (.int 2))))))))))
 (Zn (Za 3))))))
noncomputable def Vo : Nat -> List D -> Option D
 | 0 => fun _ => none
 | n + 1 => run 6 (f_QH (Vo n))
noncomputable def m_QH : List D -> Option D := Vo 8
noncomputable def f_QC : DL.Env -> Option Out :=
 (Zn (Zp 2 m_QH [] (Zb (Za 0) (Zb (VR (Zb (eCB lenD (Zb (Za 0) eNil)) eNil)) eNil))))
noncomputable def UN : List D -> Option D := run 1 f_QC
noncomputable def f_QL : DL.Env -> Option Out :=
 (Zd (ZP (ZE (Zb (eC (.int 1)) (Zb (eOp addX (eCB lenD (Zb (Za 0) eNil)) (eC (.int 1))) eNil))) (Zq 2) (Zd (Zf 3 (Zz eNil))
 (Zd (ZP (ZE (Zb (Za 2) eNil)) (Zq 4) (Z4 3 (ZO (ZE (Zb (Za 2) eNil)) (Zq 0) (fun _ => some true) (eOp subD (eOp mulX (Za 1) (eCB intD (Zb (eOp eqD (Za 0) (Za 2)) eNil))) (eOp ixD (eOp ixD (Za 3) (Za 2)) (Za 0))) 1 [1, 4, 0])))
 (sIf (xB (eOp (Z3 fun i j => decide (i <= j)) (Zp 1 UN [] (Zb (Za 3) eNil)) (eC (.int 0)))) (Zn (eC (.bl false))) sNext))))
 (Zn (eC (.bl true))))
noncomputable def V2 : List D -> Option D := run 5 f_QL
noncomputable def f_QI : DL.Env -> Option Out :=
 (Zd (Zf 1 (eC (.int 0)))
 (Zd (ZP (ZU (Za 0)) (Zq 2) (YD (xB (eOp neD (Za 2) (eC (.int 0)))) (Zd (Zf 3 (eOp modW (Za 1) (Za 2)))
 (Zd (Zf 1 (Za 2))
 (Zf 2 (Za 3))))))
 (Zn (eOp eqD (Za 1) (eC (.int 1))))))
noncomputable def UO : List D -> Option D := run 4 f_QI
noncomputable def f_QE : DL.Env -> Option Out :=
 (Zd (Zf 3 (eCB lenD (Zb (Za 0) eNil)))
 (Zd (sIf (xOr (Z9 (xB (Zp 2 QL [] (Zb (Za 2) (Zb (Za 3) eNil))))) (xB (eOp (Z3 fun i j => decide (i <= j)) (eCB minLD (Zb (Za 2) eNil)) (eC (.int 0))))) (Zn (eC (.bl false))) sNext)
 (Zd (Zf 4 (Zz eNil))
 (Zd (ZP (ZE (Zb (Za 3) eNil)) (Zq 5) (Z4 4 (eOp subD (eOp mulX (Za 1) (eOp ixD (Za 2) (Za 5))) (eCB sumLD (Zb (ZO (ZE (Zb (Za 3) eNil)) (Zq 0) (fun _ => some true) (eOp mulX (eOp ixD (Za 1) (Za 0)) (eOp ixD (eOp ixD (Za 2) (Za 0)) (Za 3))) 1 [2, 0, 5]) eNil)))))
 (Zn (Yq (eOp (Z3 fun i j => decide (j < i)) (eOp ixD (Za 4) (eC (.int 0))) (eC (.int 0))) (Yq (eOp eqD (Za 4) (eOp Y5 (Zz (Zb (eOp ixD (Za 4) (eC (.int 0))) eNil)) (Za 3))) (Zp 1 UO [] (Zb (eOp addX (Za 2) (Zz (Zb (eOp ixD (Za 4) (eC (.int 0))) eNil))) eNil)))))))))
noncomputable def QP : List D -> Option D := run 6 f_QE
noncomputable def f_QT : DL.Env -> Option Out :=
 (Zd (Zf 1 (Zp 3 QN [] (Zb (Za 0) (Zb (eC (.int 2)) (Zb (eOp addX (eC (.int 1)) (eOp modW (Zp 2 YU [] (Zb (Za 0) (Zb (eC (.int 0)) eNil))) (eC (.int 4)))) eNil)))))
 (Zd (Zf 2 (Zp 2 QO [] (Zb (Zp 2 YU [] (Zb (Za 0) (Zb (eC (.int 1)) eNil))) (Zb (Za 1) eNil))))
 (Zd (Zf 3 (ZO (ZU (Za 1)) (Zq 0) (fun _ => some true) (eCB YH (Zb (Za 0) eNil)) 1 []))
 (XW 4 (Zp 2 V1 [] (Zb (Za 3) (Zb (Za 2) eNil)))
 (Zd (sIf (xB (eOp neD (Za 3) (Za 1))) (Zn (eC (.bl false))) sNext)
 (Zd (sIf (Z9 (xB (Zp 2 V2 [] (Zb (Za 1) (Zb (Za 2) eNil))))) (Zn (Yv (Za 4))) sNext) (fun _ => none)))
 (Zd (sIf (xB (eOp neD (Za 3) (Za 1))) (Zn (eC (.bl false))) sNext)
 (Zd (sIf (Z9 (xB (Zp 2 V2 [] (Zb (Za 1) (Zb (Za 2) eNil))))) (Zn (Yv (Za 4))) sNext)
 (Zd (sIf (Z9 (xB (Zp 3 QP [] (Zb (Za 1) (Zb (Za 2) (Zb (Za 4) eNil)))))) (Zn (eC (.bl false))) sNext)
 (Zd (Zf 5 (eCB YH (Zb (Za 4) eNil)))
 (Zd (Z4 4 (eC (.int 1)))
 (Zn (Yq (eOp eqD (XA (Zp 2 V1 [] (Zb (Za 3) (Zb (Za 2) eNil)))) (Za 5)) (eOp eqD (Za 3) (Za 1)))))))))))))
noncomputable def QQ : List D -> Option D := run 6 f_QT
end K27
namespace K27
open PySem PySem.Spec L2 DL
def top (i : Nat) : Stmt := PySem.Challenge.pw_grooveway_k27_presses.main.body.getD i (.Pass ⟨0, 0, 0, 0⟩)
abbrev XZ : Stmt := top 1
abbrev X0 : Stmt := top 2
abbrev XC : Stmt := top 3
abbrev X1 : Stmt := top 4
abbrev XD : Stmt := top 5
abbrev Xl : Stmt := top 6
abbrev XE : Stmt := top 8
abbrev Xm : Stmt := top 9
abbrev X2 : Stmt := top 11
abbrev X3 : Stmt := top 12
abbrev X4 : Stmt := top 13
abbrev X5 : Stmt := top 14
abbrev XF : Stmt := top 15
abbrev XG : Stmt := top 16
abbrev X6 : Stmt := top 17
abbrev X7 : Stmt := top 18
abbrev XH : Stmt := top 19
abbrev X8 : Stmt := top 20
abbrev XI : Stmt := top 21
abbrev YV : Stmt := top 22
theorem ZfO : FnScope ["a", "b", "rest"] ["a", "b"] (Zo XZ) := ⟨rfl, rfl, rfl, by decide +kernel, rfl, by decide +kernel, by decide +kernel⟩
theorem ZfP : FnScope ["a", "b", "common"] ["a", "b"] (Zo X0) := ⟨rfl, rfl, rfl, by decide +kernel, rfl, by decide +kernel, by decide +kernel⟩
theorem ZfQ : FnScope ["rows", "place", "fit"] ["rows", "place"] (Zo XC) := ⟨rfl, rfl, rfl, by decide +kernel, rfl, by decide +kernel, by decide +kernel⟩
theorem ZfR : FnScope ["rows", "one", "other", "told"] ["rows", "one", "other"] (Zo X1) := ⟨rfl, rfl, rfl, by decide +kernel, rfl, by decide +kernel, by decide +kernel⟩
theorem ZfS : FnScope ["rows", "place", "divided_by", "taken", "fewer", "number", "row", "pairs"] ["rows", "place", "divided_by"] (Zo XD) := ⟨rfl, rfl, rfl, by decide +kernel, rfl, by decide +kernel, by decide +kernel⟩
theorem ZfT : FnScope ["table", "right", "rows", "last", "place", "number", "front"] ["table", "right"] (Zo Xl) := ⟨rfl, rfl, rfl, by decide +kernel, rfl, by decide +kernel, by decide +kernel⟩
theorem ZfU : FnScope ["table", "n", "sides", "column", "side"] ["table", "n"] (Zo XE) := ⟨rfl, rfl, rfl, by decide +kernel, rfl, by decide +kernel, by decide +kernel⟩
theorem ZfV : FnScope ["table", "n", "found", "shared", "part"] ["table", "n"] (Zo Xm) := ⟨rfl, rfl, rfl, by decide +kernel, rfl, by decide +kernel, by decide +kernel⟩
theorem ZfW : FnScope ["script", "k"] ["script", "k"] (Zo X2) := ⟨rfl, rfl, rfl, by decide +kernel, rfl, by decide +kernel, by decide +kernel⟩
theorem ZfX : FnScope ["found"] ["found"] (Zo X3) := ⟨rfl, rfl, rfl, by decide +kernel, rfl, by decide +kernel, by decide +kernel⟩
theorem ZfY : FnScope ["found", "many", "number"] ["found", "many"] (Zo X4) := ⟨rfl, rfl, rfl, by decide +kernel, rfl, by decide +kernel, by decide +kernel⟩
theorem ZfZ : FnScope ["cell", "way"] ["cell"] (Zo X5) := ⟨rfl, rfl, rfl, by decide +kernel, rfl, by decide +kernel, by decide +kernel⟩
theorem Zf0 : FnScope ["script", "at", "many", "table", "k"] ["script", "at", "many"] (Zo XF) := ⟨rfl, rfl, rfl, by decide +kernel, rfl, by decide +kernel, by decide +kernel⟩
theorem Zf1 : FnScope ["cell", "table", "most"] ["cell", "table"] (Zo XG) := ⟨rfl, rfl, rfl, by decide +kernel, rfl, by decide +kernel, by decide +kernel⟩
theorem Zf2 : FnScope ["table", "columns", "row", "whole", "k", "part"] ["table", "columns"] (Zo X6) := ⟨rfl, rfl, rfl, by decide +kernel, rfl, by decide +kernel, by decide +kernel⟩
theorem Zf3 : FnScope ["table"] ["table"] (Zo X7) := ⟨rfl, rfl, rfl, by decide +kernel, rfl, by decide +kernel, by decide +kernel⟩
theorem Zf4 : FnScope ["table", "n", "many", "corner", "k"] ["table", "n"] (Zo XH) := ⟨rfl, rfl, rfl, by decide +kernel, rfl, by decide +kernel, by decide +kernel⟩
theorem Zf5 : FnScope ["numbers", "by", "number", "rest"] ["numbers"] (Zo X8) := ⟨rfl, rfl, rfl, by decide +kernel, rfl, by decide +kernel, by decide +kernel⟩
theorem Zf6 : FnScope ["table", "n", "found", "many", "left", "j"] ["table", "n", "found"] (Zo XI) := ⟨rfl, rfl, rfl, by decide +kernel, rfl, by decide +kernel, by decide +kernel⟩
theorem Zf7 : FnScope ["script", "table", "n", "handed", "found", "due"] ["script"] (Zo YV) := ⟨rfl, rfl, rfl, by decide +kernel, rfl, by decide +kernel, by decide +kernel⟩
structure Adr where
 a_QA : Addr
 d_QA : FuncData
 a_QP : Addr
 d_QP : FuncData
 a_QF : Addr
 d_QF : FuncData
 a_QM : Addr
 d_QM : FuncData
 a_QQ : Addr
 d_QQ : FuncData
 a_QR : Addr
 d_QR : FuncData
 a_QG : Addr
 d_QG : FuncData
 a_QS : Addr
 d_QS : FuncData
 a_QD : Addr
 d_QD : FuncData
 a_QB : Addr
 d_QB : FuncData
 a_QO : Addr
 d_QO : FuncData
 a_QK : Addr
 d_QK : FuncData
 a_QJ : Addr
 d_QJ : FuncData
 a_QN : Addr
 d_QN : FuncData
 a_QH : Addr
 d_QH : FuncData
 a_QC : Addr
 d_QC : FuncData
 a_QL : Addr
 d_QL : FuncData
 a_QI : Addr
 d_QI : FuncData
 a_QE : Addr
 d_QE : FuncData
 a_QT : Addr
 d_QT : FuncData
def Adr.c (t : Adr) : String -> Addr := fun c => 0
structure Txt (K : PySem.W.Frag) (mg : Str -> Option Value) (t : Adr) : Prop where
 f_QA : FunX K "common_divisor" "common_divisor" XZ t.a_QA t.d_QA
 b_QA : Binds K t.d_QA ["a", "b"] []
 g_QA : mg "common_divisor" = some (.ref t.a_QA)
 k_QA : PySem.W.keepIn K (.ref t.a_QA) = true
 f_QP : FunX K "reduced" "reduced" X0 t.a_QP t.d_QP
 b_QP : Binds K t.d_QP ["a", "b"] []
 g_QP : mg "reduced" = some (.ref t.a_QP)
 k_QP : PySem.W.keepIn K (.ref t.a_QP) = true
 f_QF : FunX K "row_to_take" "row_to_take" XC t.a_QF t.d_QF
 b_QF : Binds K t.d_QF ["rows", "place"] []
 g_QF : mg "row_to_take" = some (.ref t.a_QF)
 k_QF : PySem.W.keepIn K (.ref t.a_QF) = true
 f_QM : FunX K "exchanged" "exchanged" X1 t.a_QM t.d_QM
 b_QM : Binds K t.d_QM ["rows", "one", "other"] []
 g_QM : mg "exchanged" = some (.ref t.a_QM)
 k_QM : PySem.W.keepIn K (.ref t.a_QM) = true
 f_QQ : FunX K "cleared" "cleared" XD t.a_QQ t.d_QQ
 b_QQ : Binds K t.d_QQ ["rows", "place", "divided_by"] []
 g_QQ : mg "cleared" = some (.ref t.a_QQ)
 k_QQ : PySem.W.keepIn K (.ref t.a_QQ) = true
 f_QR : FunX K "solved" "solved" Xl t.a_QR t.d_QR
 b_QR : Binds K t.d_QR ["table", "right"] []
 g_QR : mg "solved" = some (.ref t.a_QR)
 k_QR : PySem.W.keepIn K (.ref t.a_QR) = true
 f_QG : FunX K "press_sides" "press_sides" XE t.a_QG t.d_QG
 b_QG : Binds K t.d_QG ["table", "n"] []
 g_QG : mg "press_sides" = some (.ref t.a_QG)
 k_QG : PySem.W.keepIn K (.ref t.a_QG) = true
 f_QS : FunX K "press" "press" Xm t.a_QS t.d_QS
 b_QS : Binds K t.d_QS ["table", "n"] []
 g_QS : mg "press" = some (.ref t.a_QS)
 k_QS : PySem.W.keepIn K (.ref t.a_QS) = true
 f_QD : FunX K "_law_cell_at" "_law_cell_at" X2 t.a_QD t.d_QD
 b_QD : Binds K t.d_QD ["script", "k"] []
 g_QD : mg "_law_cell_at" = some (.ref t.a_QD)
 k_QD : PySem.W.keepIn K (.ref t.a_QD) = true
 f_QB : FunX K "_law_is_whole" "_law_is_whole" X3 t.a_QB t.d_QB
 b_QB : Binds K t.d_QB ["found"] []
 g_QB : mg "_law_is_whole" = some (.ref t.a_QB)
 k_QB : PySem.W.keepIn K (.ref t.a_QB) = true
 f_QO : FunX K "_law_row" "_law_row" X4 t.a_QO t.d_QO
 b_QO : Binds K t.d_QO ["found", "many"] []
 g_QO : mg "_law_row" = some (.ref t.a_QO)
 k_QO : PySem.W.keepIn K (.ref t.a_QO) = true
 f_QK : FunX K "_law_entry" "_law_entry" X5 t.a_QK t.d_QK
 b_QK : Binds K t.d_QK ["cell"] []
 g_QK : mg "_law_entry" = some (.ref t.a_QK)
 k_QK : PySem.W.keepIn K (.ref t.a_QK) = true
 f_QJ : FunX K "_law_table" "_law_table" XF t.a_QJ t.d_QJ
 b_QJ : Binds K t.d_QJ ["script", "at", "many"] []
 g_QJ : mg "_law_table" = some (.ref t.a_QJ)
 k_QJ : PySem.W.keepIn K (.ref t.a_QJ) = true
 f_QN : FunX K "_law_wish" "_law_wish" XG t.a_QN t.d_QN
 b_QN : Binds K t.d_QN ["cell", "table"] []
 g_QN : mg "_law_wish" = some (.ref t.a_QN)
 k_QN : PySem.W.keepIn K (.ref t.a_QN) = true
 f_QH : FunX K "_law_signed" "_law_signed" X6 t.a_QH t.d_QH
 b_QH : Binds K t.d_QH ["table", "columns"] []
 g_QH : mg "_law_signed" = some (.ref t.a_QH)
 k_QH : PySem.W.keepIn K (.ref t.a_QH) = true
 f_QC : FunX K "_law_product" "_law_product" X7 t.a_QC t.d_QC
 b_QC : Binds K t.d_QC ["table"] []
 g_QC : mg "_law_product" = some (.ref t.a_QC)
 k_QC : PySem.W.keepIn K (.ref t.a_QC) = true
 f_QL : FunX K "_law_slow" "_law_slow" XH t.a_QL t.d_QL
 b_QL : Binds K t.d_QL ["table", "n"] []
 g_QL : mg "_law_slow" = some (.ref t.a_QL)
 k_QL : PySem.W.keepIn K (.ref t.a_QL) = true
 f_QI : FunX K "_law_alone" "_law_alone" X8 t.a_QI t.d_QI
 b_QI : Binds K t.d_QI ["numbers"] []
 g_QI : mg "_law_alone" = some (.ref t.a_QI)
 k_QI : PySem.W.keepIn K (.ref t.a_QI) = true
 f_QE : FunX K "_law_pressed" "_law_pressed" XI t.a_QE t.d_QE
 b_QE : Binds K t.d_QE ["table", "n", "found"] []
 g_QE : mg "_law_pressed" = some (.ref t.a_QE)
 k_QE : PySem.W.keepIn K (.ref t.a_QE) = true
 f_QT : FunX K "law" "law" YV t.a_QT t.d_QT
 b_QT : Binds K t.d_QT ["script"] []
 g_QT : mg "law" = some (.ref t.a_QT)
 k_QT : PySem.W.keepIn K (.ref t.a_QT) = true
 n_abs : mg "abs" = none
 n_bool : mg "bool" = none
 n_enumerate : mg "enumerate" = none
 n_int : mg "int" = none
 n_isinstance : mg "isinstance" = none
 n_len : mg "len" = none
 n_list : mg "list" = none
 n_max : mg "max" = none
 n_min : mg "min" = none
 n_range : mg "range" = none
 n_sum : mg "sum" = none
 n_zip : mg "zip" = none
 isi_bool : IsiOk K ⟨t.c, K⟩ (.type "bool") QH
 isi_int : IsiOk K ⟨t.c, K⟩ (.type "int") QI
 isi_list : IsiOk K ⟨t.c, K⟩ (.type "list") QJ
end K27
namespace K27
open PySem PySem.Spec PyProof.Rows L2 DL
theorem nd0 : List.Nodup (["a", "b", "rest"] : List Str) := by decide +kernel
theorem nd1 : List.Nodup (["a", "b", "common"] : List Str) := by decide +kernel
theorem nd2 : List.Nodup (["rows", "place", "fit"] : List Str) := by decide +kernel
theorem nd3 : List.Nodup (["number", "rows"] : List Str) := by decide +kernel
theorem nd4 : List.Nodup (["rows", "one", "other", "told"] : List Str) := by decide +kernel
theorem nd5 : List.Nodup (["rows", "place", "divided_by", "taken", "fewer", "number", "row", "pairs"] : List Str) := by decide +kernel
theorem nd6 : List.Nodup (["own", "other", "taken", "row", "divided_by"] : List Str) := by decide +kernel
theorem nd7 : List.Nodup (["table", "right", "rows", "last", "place", "number", "front"] : List Str) := by decide +kernel
theorem nd8 : List.Nodup (["numbers", "end"] : List Str) := by decide +kernel
theorem nd9 : List.Nodup (["row", "last"] : List Str) := by decide +kernel
theorem JT : List.Nodup (["table", "n", "sides", "column", "side"] : List Str) := by decide +kernel
theorem Zhe : List.Nodup (["numbers", "column"] : List Str) := by decide +kernel
theorem QR : List.Nodup (["table", "n", "found", "shared", "part"] : List Str) := by decide +kernel
theorem Zhf : List.Nodup (["part"] : List Str) := by decide +kernel
theorem Zhg : List.Nodup (["part", "shared"] : List Str) := by decide +kernel
theorem Zhh : List.Nodup (["found", "many", "number"] : List Str) := by decide +kernel
theorem Zhi : List.Nodup (["cell", "way"] : List Str) := by decide +kernel
theorem Zg0 : List.Nodup (["script", "at", "many", "table", "k"] : List Str) := by decide +kernel
theorem Zhj : List.Nodup (["j", "script", "at", "k", "many"] : List Str) := by decide +kernel
theorem Zhk : List.Nodup (["cell", "table", "most"] : List Str) := by decide +kernel
theorem Zg1 : List.Nodup (["row"] : List Str) := by decide +kernel
theorem V3 : List.Nodup (["table", "columns", "row", "whole", "k", "part"] : List Str) := by decide +kernel
theorem JU : List.Nodup (["table", "n", "many", "corner", "k"] : List Str) := by decide +kernel
theorem Zhl : List.Nodup (["j", "n", "k", "table"] : List Str) := by decide +kernel
theorem UP : List.Nodup (["numbers", "by", "number", "rest"] : List Str) := by decide +kernel
theorem JV : List.Nodup (["table", "n", "found", "many", "left", "j"] : List Str) := by decide +kernel
theorem Zhm : List.Nodup (["k", "found", "table", "j"] : List Str) := by decide +kernel
theorem UQ : List.Nodup (["script", "table", "n", "handed", "found", "due"] : List Str) := by decide +kernel
section
variable {P : Program} {w : World} {K : PySem.W.Frag} {mg : Str -> Option Value} {base : Heap} {t : Adr}
theorem ZeS (T : Txt K mg t) : FnOk P w K mg base CX0 1 t.a_QA t.d_QA ["a", "b"] (spD ⟨t.c, K⟩ 2 Vn) := by
 refine Yg (φ := f_QA) T.f_QA ZfO (by conv => lhs; whnf) (by conv => lhs; whnf) (fun cdv A outer s H E hr => ?_) rfl rfl
 refine ⟨_, (Zt ((Zbe PassesOwn.never (Yo (VD (cA := ⟨t.c, K⟩) (hr.units)) (pv 1) Zs (Z2 _)) (Zt (ZA (i := 2) nd0 (by rfl) (by first | exact Or.inl rfl | exact Or.inr rfl) (Zw Xs (pv 0) (pv 1)))
 (Zt (ZA (i := 0) nd0 (by rfl) (by first | exact Or.inl rfl | exact Or.inr rfl) (pv 1))
 (Zv (ZA (i := 1) nd0 (by rfl) (by first | exact Or.inl rfl | exact Or.inr rfl) (pv 2)))))))
 (Zv (ZF (ZY ZcJ (by rfl) T.n_abs boot_abs (Ze (pv 0) Zk))))), [], ?_⟩
 unfold f_QA
 exact (Zu (Zbn (Yj (Zg Vf (Zc 1 (by rfl)) (Zl (d := (.int 0)) (by rfl) (by rfl)))) (Zu (show VS _ _ [] _ _ _ _ from (ZD 2 (Zg Xz (Zc 0 (by rfl)) (Zc 1 (by rfl))) (by rfl) (by rfl) (by rfl) (by rfl)))
 (Zu (show VS _ _ [] _ _ _ _ from (ZD 0 (Zc 1 (by rfl)) (by rfl) (by rfl) (by rfl) (by rfl)))
 (show VS _ _ [] _ _ _ _ from (ZD 1 (Zc 2 (by rfl)) (by rfl) (by rfl) (by rfl) (by rfl))))))
 (ZC (Ya Zfp (Zh (Zc 0 (by rfl)) Zm))))
theorem Zf8 (T : Txt K mg t) : FnOk P w K mg base CX0 2 t.a_QP t.d_QP ["a", "b"] (spD ⟨t.c, K⟩ 2 UI) := by
 have G_QA := (ZeS (P := P) (w := w) (base := base) T).mono (k := 1) (by decide)
 refine Yg (φ := f_QP) T.f_QP ZfP (by conv => lhs; whnf) (by conv => lhs; whnf) (fun cdv A outer s H E hr => ?_) rfl rfl
 refine ⟨_, (Zt (ZA (i := 2) nd1 (by rfl) (by first | exact Or.inl rfl | exact Or.inr rfl) (ZV (G_QA) hr (by rfl) T.g_QA T.k_QA T.b_QA .nil ZW (Ze (pv 0) (Ze (pv 1) Zk))))
 (Zt (Yn (Yo ZeH (pv 1) Zs (Z2 _)) (Zv (ZA (i := 2) nd1 (by rfl) (by first | exact Or.inl rfl | exact Or.inr rfl) (ZeG Zdy (pv 2)))) Ys)
 (Zv (ZF (Zfa (Ze (Zw XU (pv 0) (pv 2)) (Ze (Zw XU (pv 1) (pv 2)) Zk))))))), [], ?_⟩
 unfold f_QP
 exact (Zu (show VS _ _ [] _ _ _ _ from (ZD 2 (ZZ [] (by rfl) (Zh (Zc 0 (by rfl)) (Zh (Zc 1 (by rfl)) Zm))) (by rfl) (by rfl) (by rfl) (by rfl)))
 (Zu (Yi (Yj (Zg Vg (Zc 1 (by rfl)) (Zl (d := (.int 0)) (by rfl) (by rfl)))) (show VS _ _ [] _ _ _ _ from (ZD 2 (ZdC (Zc 2 (by rfl))) (by rfl) (by rfl) (by rfl) (by rfl))) Yk)
 (ZC (Zfm (Zh (Zg XV (Zc 0 (by rfl)) (Zc 2 (by rfl))) (Zh (Zg XV (Zc 1 (by rfl)) (Zc 2 (by rfl))) Zm))))))
theorem Zf9 (T : Txt K mg t) : FnOk P w K mg base CX0 1 t.a_QF t.d_QF ["rows", "place"] (spD ⟨t.c, K⟩ 2 UJ) := by
 refine Yg (φ := f_QF) T.f_QF ZfQ (by conv => lhs; whnf) (by conv => lhs; whnf) (fun cdv A outer s H E hr => ?_) rfl rfl
 refine ⟨_, (Zt (Qr (i := 2) nd2 (by rfl) (by rfl) (by rfl) (CompSc.mk' (tn := ["number"]) (cn := ["rows"]) (js := [0]) (osc := Zo XC) (oN := ["rows", "place", "fit"]) (by rfl) (by rfl) (by rfl) (by decide +kernel)) (ZaB (by rfl) T.n_range (Ze (pv 1) (Ze (ZY (Yy (K := K)) (by rfl) T.n_len boot_len (Ze (pv 0) Zk)) Zk))) (fun C s₂ H₂ fp => ZR (i := 0) nd3 (by rfl) (by first | exact Or.inl rfl | exact Or.inr rfl)) (fun C s₂ H₂ fp => (Zd6 (Yo (VD (cA := ⟨t.c, K⟩) (hr.units)) (ZG (ZH (K := K)) (ZG (ZH (K := K)) (pv 1) (pv 0) (fun _ _ => rfl)) Zs (fun _ _ => rfl)) Zs (Z2 _)))) (fun C s₂ H₂ fp => (pv 0)))
 (Zv (ZF (ZcW (Yo ZeI (ZY (Yy (K := K)) (by rfl) T.n_len boot_len (Ze (pv 2) Zk)) Zs (Z2 _)) (ZG (ZH (K := K)) (pv 2) Zs (fun _ _ => rfl)) Q0)))), [], ?_⟩
 unfold f_QF
 exact (Zu (show VS _ _ [] _ _ _ _ from (ZD 2 (VF.cl (YO (by rfl) (Zb4 (Zh (Zc 1 (by rfl)) (Zh (Ya Yz (Zh (Zc 0 (by rfl)) Zm)) Zm)) ZgZ) (Yc 0 (by rfl) (by rfl)) (Yj (Zg Vf (Zg ZI (Zg ZI (Zc 1 (by rfl)) (Zc 0 (by rfl))) (Zl (d := (.int 0)) (by rfl) (by rfl))) (Zl (d := (.int 0)) (by rfl) (by rfl)))) (Zc 0 (by rfl)))) (by rfl) (by rfl) (by rfl) (by rfl)))
 (ZC (ZfJ (Yj (Zg Vg (Ya Yz (Zh (Zc 2 (by rfl)) Zm)) (Zl (d := (.int 0)) (by rfl) (by rfl)))) (Zg ZI (Zc 2 (by rfl)) (Zl (d := (.int 0)) (by rfl) (by rfl))) (Zl (d := .non) (by rfl) (by rfl)))))
theorem Zga (T : Txt K mg t) : FnOk P w K mg base CX0 1 t.a_QM t.d_QM ["rows", "one", "other"] (spD ⟨t.c, K⟩ 3 UK) := by
 refine Yg (φ := f_QM) T.f_QM ZfR (by conv => lhs; whnf) (by conv => lhs; whnf) (fun cdv A outer s H E hr => ?_) rfl rfl
 refine ⟨_, (Zt (ZA (i := 3) nd4 (by rfl) (by first | exact Or.inl rfl | exact Or.inr rfl) (V8 (Qu (K := K)) (by rfl) T.n_list boot_list (Ze (pv 0) Zk)))
 (Zt (Ja (ZG (ZH (K := K)) (pv 0) (pv 2) (fun _ _ => rfl)) (Q9 (pv 3) (pv 1) Jg))
 (Zt (Ja (ZG (ZH (K := K)) (pv 0) (pv 1) (fun _ _ => rfl)) (Q9 (pv 3) (pv 2) Jg))
 (Zv (ZF (pv 3)))))), [], ?_⟩
 unfold f_QM
 exact (Zu (show VS _ _ [3] _ _ _ _ from (XS 3 (Qv (Or.inl rfl) (Zh (Zc 0 (by rfl)) Zm)) (by rfl) (by rfl) (by rfl) (by rfl)))
 (Zu (JJ 3 (by rfl) (Zg ZI (Zc 0 (by rfl)) (Zc 2 (by rfl))) (Zc 1 (by rfl)))
 (Zu (JJ 3 (by rfl) (Zg ZI (Zc 0 (by rfl)) (Zc 1 (by rfl))) (Zc 2 (by rfl)))
 (VS.frz (ow1 := []) 3 (ZC (Zc 3 (by rfl))) (by rfl) (by rfl) (by rfl) (by rfl)))))
theorem Zgb (T : Txt K mg t) : FnOk P w K mg base CX0 1 t.a_QQ t.d_QQ ["rows", "place", "divided_by"] (spD ⟨t.c, K⟩ 3 QK) := by
 refine Yg (φ := f_QQ) T.f_QQ ZfS (by conv => lhs; whnf) (by conv => lhs; whnf) (fun cdv A outer s H E hr => ?_) rfl rfl
 refine ⟨_, (Zt (ZA (i := 3) nd5 (by rfl) (by first | exact Or.inl rfl | exact Or.inr rfl) (ZG (ZH (K := K)) (pv 0) (pv 1) (fun _ _ => rfl)))
 (Zt (ZA (i := 4) nd5 (by rfl) (by first | exact Or.inl rfl | exact Or.inr rfl) (Y9 Zk))
 (Zt ((YY PassesOwn.never (by rfl) (Zc9 (K := K) (by rfl) T.n_enumerate (pv 0)) (Jr (K := K) (n := 2) (Vt (ZR (i := 5) nd5 (by rfl) (by first | exact Or.inl rfl | exact Or.inr rfl)) (Vt (ZR (i := 6) nd5 (by rfl) (by first | exact Or.inl rfl | exact Or.inr rfl)) Q7))) (Zv (Yn (Yo (Xu (cA := ⟨t.c, K⟩) (hr.units)) (pv 5) (pv 1) (Z2 _)) (Zv (Vb (Ve (K := K) PySem.F.plainAttrs_list PySem.F.slot_list_append PySem.F.type_list_append Vd (pv 4) (Ze (U7 (Qb (K := K)) (pv 6) (U6 Zs) U5) Zk)))) (Zt (ZA (i := 7) nd5 (by rfl) (by first | exact Or.inl rfl | exact Or.inr rfl) (ZbM (K := K) (by rfl) (by rfl) T.n_list (by rfl) T.n_zip (pv 6) (pv 3)))
 (Zv (Vb (Ve (K := K) PySem.F.plainAttrs_list PySem.F.slot_list_append PySem.F.type_list_append Vd (pv 4) (Ze (XN (by rfl) (CompSc.mk' (tn := ["own", "other"]) (cn := ["taken", "row", "divided_by"]) (js := [3, 6, 2]) (osc := Zo XD) (oN := ["rows", "place", "divided_by", "taken", "fewer", "number", "row", "pairs"]) (by rfl) (by rfl) (by rfl) (by decide +kernel)) (Xb (K := K) (U7 (Qb (K := K)) (pv 7) (U6 Zs) U5)) (fun C s₂ H₂ fp => Jr (K := K) (n := 2) (Vt (ZR (i := 0) nd6 (by rfl) (by first | exact Or.inl rfl | exact Or.inr rfl)) (Vt (ZR (i := 1) nd6 (by rfl) (by first | exact Or.inl rfl | exact Or.inr rfl)) Q7))) (fun C s₂ H₂ fp => YZ) (fun C s₂ H₂ fp => (Zw XU (Zw Vu (Zw (YF (K := K)) (ZG (ZH (K := K)) (pv 2) Zs (fun _ _ => rfl)) (pv 0)) (Zw (YF (K := K)) (ZG (ZH (K := K)) (pv 3) Zs (fun _ _ => rfl)) (pv 1))) (pv 4)))) Zk)))))))))
 (Zv (ZF (pv 4)))))), [], ?_⟩
 unfold f_QQ
 exact (Zu (show VS _ _ [] _ _ _ _ from (ZD 3 (Zg ZI (Zc 0 (by rfl)) (Zc 1 (by rfl))) (by rfl) (by rfl) (by rfl) (by rfl)))
 (Zu (show VS _ _ [4] _ _ _ _ from (XS 4 (Xd Zm) (by rfl) (by rfl) (by rfl) (by rfl)))
 (Zu (Y2 (Zda (Zc 0 (by rfl))) (Jx (VP 5 (by rfl) (by rfl) (VP 6 (by rfl) (by rfl) Jw))) (Yi (Yj (Zg Xv (Zc 5 (by rfl)) (Zc 1 (by rfl)))) (Vi 4 (by rfl) (Qn (Or.inl rfl) (Zc 6 (by rfl)) (Qm (Zl (d := (.int 1)) (by rfl) (by rfl))) Qk)) (Zu (show VS _ _ [4] _ _ _ _ from (ZD 7 (VF.cl (ZbN (Zc 6 (by rfl)) (Zc 3 (by rfl)))) (by rfl) (by rfl) (by rfl) (by rfl)))
 (Vi 4 (by rfl) (VF.cl (YO (by rfl) (Xg (Qn (Or.inl rfl) (Zc 7 (by rfl)) (Qm (Zl (d := (.int 1)) (by rfl) (by rfl))) Qk)) (Jx (VP 0 (by rfl) (by rfl) (VP 1 (by rfl) (by rfl) Jw))) Y1 (Zg XV (Zg VL (Zg Y4 (Zg ZI (Zc 2 (by rfl)) (Zl (d := (.int 0)) (by rfl) (by rfl))) (Zc 0 (by rfl))) (Zg Y4 (Zg ZI (Zc 3 (by rfl)) (Zl (d := (.int 0)) (by rfl) (by rfl))) (Zc 1 (by rfl)))) (Zc 4 (by rfl)))))))))
 (VS.frz (ow1 := []) 4 (ZC (Zc 4 (by rfl))) (by rfl) (by rfl) (by rfl) (by rfl)))))
theorem Zgc (T : Txt K mg t) : FnOk P w K mg base CX0 3 t.a_QR t.d_QR ["table", "right"] (spD ⟨t.c, K⟩ 2 UL) := by
 have G_QQ := (Zgb (P := P) (w := w) (base := base) T).mono (k := 2) (by decide)
 have G_QM := (Zga (P := P) (w := w) (base := base) T).mono (k := 2) (by decide)
 have G_QP := (Zf8 (P := P) (w := w) (base := base) T).mono (k := 2) (by decide)
 have G_QF := (Zf9 (P := P) (w := w) (base := base) T).mono (k := 2) (by decide)
 refine Yg (φ := f_QR) T.f_QR ZfT (by conv => lhs; whnf) (by conv => lhs; whnf) (fun cdv A outer s H E hr => ?_) rfl rfl
 refine ⟨_, (Zt (Qr (i := 2) nd7 (by rfl) (by rfl) (by rfl) (CompSc.mk' (tn := ["numbers", "end"]) (cn := []) (js := []) (osc := Zo Xl) (oN := ["table", "right", "rows", "last", "place", "number", "front"]) (by rfl) (by rfl) (by rfl) (by decide +kernel)) (Zef (K := K) (by rfl) T.n_zip (pv 0) (pv 1)) (fun C s₂ H₂ fp => Jr (K := K) (n := 2) (Vt (ZR (i := 0) nd8 (by rfl) (by first | exact Or.inl rfl | exact Or.inr rfl)) (Vt (ZR (i := 1) nd8 (by rfl) (by first | exact Or.inl rfl | exact Or.inr rfl)) Q7))) (fun C s₂ H₂ fp => YZ) (fun C s₂ H₂ fp => (Zw (YE (K := K)) (V8 (Qu (K := K)) (by rfl) T.n_list boot_list (Ze (pv 0) Zk)) (Y9 (Ze (pv 1) Zk)))))
 (Zt (ZA (i := 3) nd7 (by rfl) (by first | exact Or.inl rfl | exact Or.inr rfl) Zs)
 (Zt ((YY PassesOwn.never (by rfl) (Xr (by rfl) T.n_range (Ze (ZY (Yy (K := K)) (by rfl) T.n_len boot_len (Ze (pv 0) Zk)) Zk)) (ZR (i := 4) nd7 (by rfl) (by first | exact Or.inl rfl | exact Or.inr rfl)) (Zt (ZA (i := 5) nd7 (by rfl) (by first | exact Or.inl rfl | exact Or.inr rfl) (ZV (G_QF) hr (by rfl) T.g_QF T.k_QF T.b_QF .nil ZW (Ze (pv 2) (Ze (pv 4) Zk))))
 (Zt (Yn (Zdw (Q2 (pv 5))) (Zv (ZF Q0)) Ys)
 (Zt (ZA (i := 6) nd7 (by rfl) (by first | exact Or.inl rfl | exact Or.inr rfl) (ZG (ZH (K := K)) (ZG (ZH (K := K)) (pv 2) (pv 5) (fun _ _ => rfl)) Zs (fun _ _ => rfl)))
 (Zt (ZA (i := 2) nd7 (by rfl) (by first | exact Or.inl rfl | exact Or.inr rfl) (ZV (G_QQ) hr (by rfl) T.g_QQ T.k_QQ T.b_QQ .nil ZW (Ze (ZV (G_QM) hr (by rfl) T.g_QM T.k_QM T.b_QM .nil ZW (Ze (pv 2) (Ze (pv 5) (Ze (pv 4) Zk)))) (Ze (pv 4) (Ze (pv 3) Zk)))))
 (Zv (ZA (i := 3) nd7 (by rfl) (by first | exact Or.inl rfl | exact Or.inr rfl) (pv 6)))))))))
 (Zv (ZF (XN (by rfl) (CompSc.mk' (tn := ["row"]) (cn := ["last"]) (js := [3]) (osc := Zo Xl) (oN := ["table", "right", "rows", "last", "place", "number", "front"]) (by rfl) (by rfl) (by rfl) (by decide +kernel)) (Xb (K := K) (pv 2)) (fun C s₂ H₂ fp => ZR (i := 0) nd9 (by rfl) (by first | exact Or.inl rfl | exact Or.inr rfl)) (fun C s₂ H₂ fp => YZ) (fun C s₂ H₂ fp => (ZV (G_QP) hr (by rfl) T.g_QP T.k_QP T.b_QP .nil ZW (Ze (ZG (ZH (K := K)) (pv 0) Zs (fun _ _ => rfl)) (Ze (pv 1) Zk)))))))))), [], ?_⟩
 unfold f_QR
 exact (Zu (show VS _ _ [] _ _ _ _ from (ZD 2 (VF.cl (YO (by rfl) (Zeg (Zc 0 (by rfl)) (Zc 1 (by rfl))) (Jx (VP 0 (by rfl) (by rfl) (VP 1 (by rfl) (by rfl) Jw))) Y1 (Zg YG (VF.cl (Qv (Or.inl rfl) (Zh (Zc 0 (by rfl)) Zm))) (VF.cl (Xd (Zh (Zc 1 (by rfl)) Zm)))))) (by rfl) (by rfl) (by rfl) (by rfl)))
 (Zu (show VS _ _ [] _ _ _ _ from (ZD 3 (Zl (d := (.int 1)) (by rfl) (by rfl)) (by rfl) (by rfl) (by rfl) (by rfl)))
 (Zu (Y2 (Xy (Zh (Ya Yz (Zh (Zc 0 (by rfl)) Zm)) Zm) Xh) (Yc 4 (by rfl) (by rfl)) (Zu (show VS _ _ [] _ _ _ _ from (ZD 5 (ZZ [] (by rfl) (Zh (Zc 2 (by rfl)) (Zh (Zc 4 (by rfl)) Zm))) (by rfl) (by rfl) (by rfl) (by rfl)))
 (Zu (Yi (XO (Qh (Zc 5 (by rfl)))) (ZC (Zl (d := .non) (by rfl) (by rfl))) Yk)
 (Zu (show VS _ _ [] _ _ _ _ from (ZD 6 (Zg ZI (Zg ZI (Zc 2 (by rfl)) (Zc 5 (by rfl))) (Zl (d := (.int 0)) (by rfl) (by rfl))) (by rfl) (by rfl) (by rfl) (by rfl)))
 (Zu (show VS _ _ [] _ _ _ _ from (ZD 2 (ZZ [] (by rfl) (Zh (ZZ [] (by rfl) (Zh (Zc 2 (by rfl)) (Zh (Zc 5 (by rfl)) (Zh (Zc 4 (by rfl)) Zm)))) (Zh (Zc 4 (by rfl)) (Zh (Zc 3 (by rfl)) Zm)))) (by rfl) (by rfl) (by rfl) (by rfl)))
 (show VS _ _ [] _ _ _ _ from (ZD 3 (Zc 6 (by rfl)) (by rfl) (by rfl) (by rfl) (by rfl))))))))
 (ZC (VF.cl (YO (by rfl) (Xg (Zc 2 (by rfl))) (Yc 0 (by rfl) (by rfl)) Y1 (ZZ [] (by rfl) (Zh (Zg ZI (Zc 0 (by rfl)) (Zl (d := (.int 0)) (by rfl) (by rfl))) (Zh (Zc 1 (by rfl)) Zm)))))))))
theorem Zgd (T : Txt K mg t) : FnOk P w K mg base CX0 1 t.a_QG t.d_QG ["table", "n"] (spD ⟨t.c, K⟩ 2 V0) := by
 refine Yg (φ := f_QG) T.f_QG ZfU (by conv => lhs; whnf) (by conv => lhs; whnf) (fun cdv A outer s H E hr => ?_) rfl rfl
 refine ⟨_, (Zt (ZA (i := 2) JT (by rfl) (by first | exact Or.inl rfl | exact Or.inr rfl) (Y9 Zk))
 (Zt ((YY PassesOwn.never (by rfl) (Xr (by rfl) T.n_range (Ze (ZY (Yy (K := K)) (by rfl) T.n_len boot_len (Ze (pv 0) Zk)) Zk)) (ZR (i := 3) JT (by rfl) (by first | exact Or.inl rfl | exact Or.inr rfl)) (Zt (Qr (i := 4) JT (by rfl) (by rfl) (by rfl) (CompSc.mk' (tn := ["numbers"]) (cn := ["column"]) (js := [3]) (osc := Zo XE) (oN := ["table", "n", "sides", "column", "side"]) (by rfl) (by rfl) (by rfl) (by decide +kernel)) (Xb (K := K) (pv 0)) (fun C s₂ H₂ fp => ZR (i := 0) Zhe (by rfl) (by first | exact Or.inl rfl | exact Or.inr rfl)) (fun C s₂ H₂ fp => YZ) (fun C s₂ H₂ fp => (ZeG Zdy (ZG (ZH (K := K)) (pv 0) (pv 1) (fun _ _ => rfl)))))
 (Zt (Ja (Zw (YE (K := K)) (ZG (ZH (K := K)) (pv 4) (pv 3) (fun _ _ => rfl)) (pv 1)) (Q9 (pv 4) (pv 3) Jg))
 (Zv (Vb (Ve (K := K) PySem.F.plainAttrs_list PySem.F.slot_list_append PySem.F.type_list_append Vd (pv 2) (Ze (pv 4) Zk))))))))
 (Zv (ZF (pv 2))))), [], ?_⟩
 unfold f_QG
 exact (Zu (show VS _ _ [2] _ _ _ _ from (XS 2 (Xd Zm) (by rfl) (by rfl) (by rfl) (by rfl)))
 (Zu (Y2 (Xy (Zh (Ya Yz (Zh (Zc 0 (by rfl)) Zm)) Zm) Xh) (Yc 3 (by rfl) (by rfl)) (Zu (show VS _ _ [2, 4] _ _ _ _ from (XS 4 (YO (by rfl) (Xg (Zc 0 (by rfl))) (Yc 0 (by rfl) (by rfl)) Y1 (ZdC (Zg ZI (Zc 0 (by rfl)) (Zc 1 (by rfl))))) (by rfl) (by rfl) (by rfl) (by rfl)))
 (Zu (JJ 4 (by rfl) (Zg YG (Zg ZI (Qe 4 (by rfl)) (Zc 3 (by rfl))) (Zc 1 (by rfl))) (Zc 3 (by rfl)))
 (VS.frz (ow1 := [2]) 4 (Vi 2 (by rfl) (Zc 4 (by rfl))) (by rfl) (by rfl) (by rfl) (by rfl)))))
 (VS.frz (ow1 := []) 2 (ZC (Zc 2 (by rfl))) (by rfl) (by rfl) (by rfl) (by rfl))))
theorem Zge (T : Txt K mg t) : FnOk P w K mg base CX0 4 t.a_QS t.d_QS ["table", "n"] (QB ⟨t.c, K⟩ 2 V1) := by
 have G_QA := (ZeS (P := P) (w := w) (base := base) T).mono (k := 3) (by decide)
 have G_QG := (Zgd (P := P) (w := w) (base := base) T).mono (k := 3) (by decide)
 have G_QR := (Zgc (P := P) (w := w) (base := base) T).mono (k := 3) (by decide)
 refine ZfN (φ := f_QS) T.f_QS ZfV (by conv => lhs; whnf) (by conv => lhs; whnf) (fun cdv A outer s H E hr => ?_) rfl rfl
 refine ⟨_, (Zt (ZA (i := 2) QR (by rfl) (by first | exact Or.inl rfl | exact Or.inr rfl) (ZV (G_QR) hr (by rfl) T.g_QR T.k_QR T.b_QR .nil ZW (Ze (ZV (G_QG) hr (by rfl) T.g_QG T.k_QG T.b_QG .nil ZW (Ze (pv 0) (Ze (pv 1) Zk))) (Ze (Zw (YF (K := K)) (Y9 (Ze Zs Zk)) (ZY (Yy (K := K)) (by rfl) T.n_len boot_len (Ze (pv 0) Zk))) Zk))))
 (Zt (Yn (PW.pt (Q4 (Zdw (Q2 (pv 2))) (Q3 (Yo Jd (ZY (ZdJ (K := K)) (by rfl) T.n_min boot_min (Ze (XN (by rfl) (CompSc.mk' (tn := ["part"]) (cn := []) (js := []) (osc := Zo Xm) (oN := ["table", "n", "found", "shared", "part"]) (by rfl) (by rfl) (by rfl) (by decide +kernel)) (Xb (K := K) (pv 2)) (fun C s₂ H₂ fp => ZR (i := 0) Zhf (by rfl) (by first | exact Or.inl rfl | exact Or.inr rfl)) (fun C s₂ H₂ fp => YZ) (fun C s₂ H₂ fp => (ZG (ZH (K := K)) (pv 0) Zs (fun _ _ => rfl)))) Zk)) Zs (Z2 _))))) (Zv (ZF Q0)) Ys)
 (Zt (ZA (i := 3) QR (by rfl) (by first | exact Or.inl rfl | exact Or.inr rfl) Zs)
 (Zt ((YY PassesOwn.never (by rfl) (Xb (K := K) (pv 2)) (ZR (i := 4) QR (by rfl) (by first | exact Or.inl rfl | exact Or.inr rfl)) (Zv (ZA (i := 3) QR (by rfl) (by first | exact Or.inl rfl | exact Or.inr rfl) (Zw XU (Zw (YF (K := K)) (pv 3) (ZG (ZH (K := K)) (pv 4) Zs (fun _ _ => rfl))) (ZV (G_QA) hr (by rfl) T.g_QA T.k_QA T.b_QA .nil ZW (Ze (pv 3) (Ze (ZG (ZH (K := K)) (pv 4) Zs (fun _ _ => rfl)) Zk))))))))
 (Zv (ZF (XN (by rfl) (CompSc.mk' (tn := ["part"]) (cn := ["shared"]) (js := [3]) (osc := Zo Xm) (oN := ["table", "n", "found", "shared", "part"]) (by rfl) (by rfl) (by rfl) (by decide +kernel)) (Xb (K := K) (pv 2)) (fun C s₂ H₂ fp => ZR (i := 0) Zhg (by rfl) (by first | exact Or.inl rfl | exact Or.inr rfl)) (fun C s₂ H₂ fp => YZ) (fun C s₂ H₂ fp => (Zw (YF (K := K)) (ZG (ZH (K := K)) (pv 0) Zs (fun _ _ => rfl)) (Zw XU (pv 1) (ZG (ZH (K := K)) (pv 0) Zs (fun _ _ => rfl)))))))))))), ?_⟩
 unfold f_QS
 exact (QA (show VS _ _ [] _ _ _ _ from (ZD 2 (ZZ [] (by rfl) (Zh (ZZ [] (by rfl) (Zh (Zc 0 (by rfl)) (Zh (Zc 1 (by rfl)) Zm))) (Zh (VF.cl (ZdG (VF.cl (Xd (Zh (Zl (d := (.int 1)) (by rfl) (by rfl)) Zm))) (Ya Yz (Zh (Zc 0 (by rfl)) Zm)))) Zm))) (by rfl) (by rfl) (by rfl) (by rfl)))
 (QA (Yi (Jt (XO (Qh (Zc 2 (by rfl)))) (Yj (Zg Vg (Ya Zca (Zh (VF.cl (YO (by rfl) (Xg (Zc 2 (by rfl))) (Yc 0 (by rfl) (by rfl)) Y1 (Zg ZI (Zc 0 (by rfl)) (Zl (d := (.int 0)) (by rfl) (by rfl))))) Zm)) (Zl (d := (.int 0)) (by rfl) (by rfl))))) (ZC (Zl (d := .non) (by rfl) (by rfl))) Yk)
 (QA (show VS _ _ [] _ _ _ _ from (ZD 3 (Zl (d := (.int 1)) (by rfl) (by rfl)) (by rfl) (by rfl) (by rfl) (by rfl)))
 (QA (Y2 (Xg (Zc 2 (by rfl))) (Yc 4 (by rfl) (by rfl)) (show VS _ _ [] _ _ _ _ from (ZD 3 (Zg XV (Zg Y4 (Zc 3 (by rfl)) (Zg ZI (Zc 4 (by rfl)) (Zl (d := (.int 1)) (by rfl) (by rfl)))) (ZZ [] (by rfl) (Zh (Zc 3 (by rfl)) (Zh (Zg ZI (Zc 4 (by rfl)) (Zl (d := (.int 1)) (by rfl) (by rfl))) Zm)))) (by rfl) (by rfl) (by rfl) (by rfl))))
 (Zeh (Zc7 (YO (by rfl) (Xg (Zc 2 (by rfl))) (Yc 0 (by rfl) (by rfl)) Y1 (Zg Y4 (Zg ZI (Zc 0 (by rfl)) (Zl (d := (.int 0)) (by rfl) (by rfl))) (Zg XV (Zc 1 (by rfl)) (Zg ZI (Zc 0 (by rfl)) (Zl (d := (.int 1)) (by rfl) (by rfl))))))))))))
theorem ZeT (T : Txt K mg t) : FnOk P w K mg base CX0 1 t.a_QD t.d_QD ["script", "k"] (spD ⟨t.c, K⟩ 2 YU) := by
 refine Yg (φ := f_QD) T.f_QD ZfW (by conv => lhs; whnf) (by conv => lhs; whnf) (fun cdv A outer s H E hr => ?_) rfl rfl
 refine ⟨_, (Zt (Yn (Yo ZeH (pv 1) (ZY (Yy (K := K)) (by rfl) T.n_len boot_len (Ze (pv 0) Zk)) (Z2 _)) (Zv (ZF (ZG (ZH (K := K)) (pv 0) (pv 1) (fun _ _ => rfl)))) Ys)
 (Zv (ZF Zs))), [], ?_⟩
 unfold f_QD
 exact (Zu (Yi (Yj (Zg Vg (Zc 1 (by rfl)) (Ya Yz (Zh (Zc 0 (by rfl)) Zm)))) (ZC (Zg ZI (Zc 0 (by rfl)) (Zc 1 (by rfl)))) Yk)
 (ZC (Zl (d := (.int 0)) (by rfl) (by rfl))))
theorem Zgf (T : Txt K mg t) : FnOk P w K mg base CX0 1 t.a_QB t.d_QB ["found"] (spD ⟨t.c, K⟩ 1 UM) := by
 refine Yg (φ := f_QB) T.f_QB ZfX (by conv => lhs; whnf) (by conv => lhs; whnf) (fun cdv A outer s H E hr => ?_) rfl rfl
 refine ⟨_, (Zv (ZF (U1 (ZY (Jz (K := K)) (by rfl) T.n_isinstance boot_isinstance (Ze (pv 0) (Ze (Q1 (v := .ty "int") (by rfl) T.n_int boot_int rfl) Zk))) (Q5 (Ze6 (ZY (Jz (K := K)) (by rfl) T.n_isinstance boot_isinstance (Ze (pv 0) (Ze (Q1 (v := .ty "bool") (by rfl) T.n_bool boot_bool rfl) Zk)))))))), [], ?_⟩
 unfold f_QB
 exact (ZC (Qg (JC (fun _ h => h) T.isi_int (Zc 0 (by rfl))) (Zfl (JC (fun _ h => h) T.isi_bool (Zc 0 (by rfl))))))
theorem Zgg (T : Txt K mg t) : FnOk P w K mg base CX0 2 t.a_QO t.d_QO ["found", "many"] (spD ⟨t.c, K⟩ 2 QL) := by
 have G_QB := (Zgf (P := P) (w := w) (base := base) T).mono (k := 1) (by decide)
 refine Yg (φ := f_QO) T.f_QO ZfY (by conv => lhs; whnf) (by conv => lhs; whnf) (fun cdv A outer s H E hr => ?_) rfl rfl
 refine ⟨_, (Zt (Yn (PW.pt (Q4 (V7 (V6 (ZY (Jz (K := K)) (by rfl) T.n_isinstance boot_isinstance (Ze (pv 0) (Ze (Q1 (v := .ty "list") (by rfl) T.n_list boot_list rfl) Zk))))) (Q3 (Yo (VD (cA := ⟨t.c, K⟩) (hr.units)) (ZY (Yy (K := K)) (by rfl) T.n_len boot_len (Ze (pv 0) Zk)) (pv 1) (Z2 _))))) (Zv (ZF XJ)) Ys)
 (Zt ((YY PassesOwn.never (by rfl) (Xb (K := K) (pv 0)) (ZR (i := 2) Zhh (by rfl) (by first | exact Or.inl rfl | exact Or.inr rfl)) (Zv (Yn (V7 (V6 (ZV (G_QB) hr (by rfl) T.g_QB T.k_QB T.b_QB .nil ZW (Ze (pv 2) Zk)))) (Zv (ZF XJ)) Ys))))
 (Zv (ZF XJ)))), [], ?_⟩
 unfold f_QO
 exact (Zu (Yi (Jt (VM (XO (JC (fun _ h => h) T.isi_list (Zc 0 (by rfl))))) (Yj (Zg Vf (Ya Yz (Zh (Zc 0 (by rfl)) Zm)) (Zc 1 (by rfl))))) (ZC (Zl (d := (.bl false)) (by rfl) (by rfl))) Yk)
 (Zu (Y2 (Xg (Zc 0 (by rfl))) (Yc 2 (by rfl) (by rfl)) (Yi (VM (XO (ZZ [] (by rfl) (Zh (Zc 2 (by rfl)) Zm)))) (ZC (Zl (d := (.bl false)) (by rfl) (by rfl))) Yk))
 (ZC (Zl (d := (.bl true)) (by rfl) (by rfl)))))
theorem Zgh (T : Txt K mg t) : FnOk P w K mg base CX0 1 t.a_QK t.d_QK ["cell"] (spD ⟨t.c, K⟩ 1 QM) := by
 refine Yg (φ := f_QK) T.f_QK ZfZ (by conv => lhs; whnf) (by conv => lhs; whnf) (fun cdv A outer s H E hr => ?_) rfl rfl
 refine ⟨_, (Zt (ZA (i := 1) Zhi (by rfl) (by first | exact Or.inl rfl | exact Or.inr rfl) (Zw Xs (pv 0) Zs))
 (Zt (Yn (Yo (Xu (cA := ⟨t.c, K⟩) (hr.units)) (pv 1) Zs (Z2 _)) (Zv (ZF Zs)) Ys)
 (Zv (ZF (Zw Xs (Zw XU (pv 0) Zs) (ZG (ZH (K := K)) (Y9 (Ze Zs (Ze Zs (Ze (Zw Ze9 Zs Zs) Zk)))) (Zw Vu (pv 1) Zs) (fun _ _ => rfl))))))), [], ?_⟩
 unfold f_QK
 exact (Zu (show VS _ _ [] _ _ _ _ from (ZD 1 (Zg Xz (Zc 0 (by rfl)) (Zl (d := (.int 4)) (by rfl) (by rfl))) (by rfl) (by rfl) (by rfl) (by rfl)))
 (Zu (Yi (Yj (Zg Xv (Zc 1 (by rfl)) (Zl (d := (.int 0)) (by rfl) (by rfl)))) (ZC (Zl (d := (.int 0)) (by rfl) (by rfl))) Yk)
 (ZC (Zg Xz (Zg XV (Zc 0 (by rfl)) (Zl (d := (.int 4)) (by rfl) (by rfl))) (Zg ZI (VF.cl (Xd (Zh (Zl (d := (.int 3)) (by rfl) (by rfl)) (Zh (Zl (d := (.int 12)) (by rfl) (by rfl)) (Zh (Zg Zea (Zl (d := (.int 10)) (by rfl) (by rfl)) (Zl (d := (.int 12)) (by rfl) (by rfl))) Zm))))) (Zg VL (Zc 1 (by rfl)) (Zl (d := (.int 1)) (by rfl) (by rfl))))))))
theorem Zgi (T : Txt K mg t) : FnOk P w K mg base CX0 2 t.a_QJ t.d_QJ ["script", "at", "many"] (spD ⟨t.c, K⟩ 3 QN) := by
 have G_QD := (ZeT (P := P) (w := w) (base := base) T).mono (k := 1) (by decide)
 have G_QK := (Zgh (P := P) (w := w) (base := base) T).mono (k := 1) (by decide)
 refine Yg (φ := f_QJ) T.f_QJ Zf0 (by conv => lhs; whnf) (by conv => lhs; whnf) (fun cdv A outer s H E hr => ?_) rfl rfl
 refine ⟨_, (Zt (ZA (i := 3) Zg0 (by rfl) (by first | exact Or.inl rfl | exact Or.inr rfl) (Y9 Zk))
 (Zt ((YY PassesOwn.never (by rfl) (Xr (by rfl) T.n_range (Ze (pv 2) Zk)) (ZR (i := 4) Zg0 (by rfl) (by first | exact Or.inl rfl | exact Or.inr rfl)) (Zv (Vb (Ve (K := K) PySem.F.plainAttrs_list PySem.F.slot_list_append PySem.F.type_list_append Vd (pv 3) (Ze (XN (by rfl) (CompSc.mk' (tn := ["j"]) (cn := ["script", "at", "k", "many"]) (js := [0, 1, 4, 2]) (osc := Zo XF) (oN := ["script", "at", "many", "table", "k"]) (by rfl) (by rfl) (by rfl) (by decide +kernel)) (Xr (by rfl) T.n_range (Ze (pv 2) Zk)) (fun C s₂ H₂ fp => ZR (i := 0) Zhj (by rfl) (by first | exact Or.inl rfl | exact Or.inr rfl)) (fun C s₂ H₂ fp => YZ) (fun C s₂ H₂ fp => (ZV (G_QK) hr (by rfl) T.g_QK T.k_QK T.b_QK .nil ZW (Ze (ZV (G_QD) hr (by rfl) T.g_QD T.k_QD T.b_QD .nil ZW (Ze (pv 1) (Ze (Zw (YE (K := K)) (Zw (YE (K := K)) (pv 2) (Zw (YF (K := K)) (pv 3) (pv 4))) (pv 0)) Zk))) Zk)))) Zk))))))
 (Zv (ZF (pv 3))))), [], ?_⟩
 unfold f_QJ
 exact (Zu (show VS _ _ [3] _ _ _ _ from (XS 3 (Xd Zm) (by rfl) (by rfl) (by rfl) (by rfl)))
 (Zu (Y2 (Xy (Zh (Zc 2 (by rfl)) Zm) Xh) (Yc 4 (by rfl) (by rfl)) (Vi 3 (by rfl) (VF.cl (YO (by rfl) (Xy (Zh (Zc 2 (by rfl)) Zm) Xh) (Yc 0 (by rfl) (by rfl)) Y1 (ZZ [] (by rfl) (Zh (ZZ [] (by rfl) (Zh (Zc 1 (by rfl)) (Zh (Zg YG (Zg YG (Zc 2 (by rfl)) (Zg Y4 (Zc 3 (by rfl)) (Zc 4 (by rfl)))) (Zc 0 (by rfl))) Zm))) Zm))))))
 (VS.frz (ow1 := []) 3 (ZC (Zc 3 (by rfl))) (by rfl) (by rfl) (by rfl) (by rfl))))
theorem Zgj (T : Txt K mg t) : FnOk P w K mg base CX0 1 t.a_QN t.d_QN ["cell", "table"] (spD ⟨t.c, K⟩ 2 QO) := by
 refine Yg (φ := f_QN) T.f_QN Zf1 (by conv => lhs; whnf) (by conv => lhs; whnf) (fun cdv A outer s H E hr => ?_) rfl rfl
 refine ⟨_, (Zt (ZA (i := 2) Zhk (by rfl) (by first | exact Or.inl rfl | exact Or.inr rfl) (ZY (Zfo (K := K)) (by rfl) T.n_max boot_max (Ze (XN (by rfl) (CompSc.mk' (tn := ["row"]) (cn := []) (js := []) (osc := Zo XG) (oN := ["cell", "table", "most"]) (by rfl) (by rfl) (by rfl) (by decide +kernel)) (Xb (K := K) (pv 1)) (fun C s₂ H₂ fp => ZR (i := 0) Zg1 (by rfl) (by first | exact Or.inl rfl | exact Or.inr rfl)) (fun C s₂ H₂ fp => YZ) (fun C s₂ H₂ fp => (ZY (ZdD (K := K)) (by rfl) T.n_sum boot_sum (Ze (pv 0) Zk)))) Zk)))
 (Zt (Yn (Yo (Xu (cA := ⟨t.c, K⟩) (hr.units)) (Zw Xs (pv 0) Zs) Zs (Z2 _)) (Zv (ZF (Zw (YE (K := K)) Zs (Zw Xs (Zw XU (pv 0) Zs) Zs)))) Ys)
 (Zv (ZF (Zw (YE (K := K)) Zs (Zw Xs (Zw XU (pv 0) Zs) (Zw (YE (K := K)) (pv 2) Zs))))))), [], ?_⟩
 unfold f_QN
 exact (Zu (show VS _ _ [] _ _ _ _ from (ZD 2 (Ya Zd9 (Zh (VF.cl (YO (by rfl) (Xg (Zc 1 (by rfl))) (Yc 0 (by rfl) (by rfl)) Y1 (Ya Zb6 (Zh (Zc 0 (by rfl)) Zm)))) Zm)) (by rfl) (by rfl) (by rfl) (by rfl)))
 (Zu (Yi (Yj (Zg Xv (Zg Xz (Zc 0 (by rfl)) (Zl (d := (.int 3)) (by rfl) (by rfl))) (Zl (d := (.int 0)) (by rfl) (by rfl)))) (ZC (Zg YG (Zl (d := (.int 1)) (by rfl) (by rfl)) (Zg Xz (Zg XV (Zc 0 (by rfl)) (Zl (d := (.int 3)) (by rfl) (by rfl))) (Zl (d := (.int 5)) (by rfl) (by rfl))))) Yk)
 (ZC (Zg YG (Zl (d := (.int 1)) (by rfl) (by rfl)) (Zg Xz (Zg XV (Zc 0 (by rfl)) (Zl (d := (.int 3)) (by rfl) (by rfl))) (Zg YG (Zc 2 (by rfl)) (Zl (d := (.int 2)) (by rfl) (by rfl))))))))
theorem Zaa (T : Txt K mg t) : ∀ n : Nat, FnOk P w K mg base CX0 (0 + n) t.a_QH t.d_QH ["table", "columns"] (spD ⟨t.c, K⟩ 2 (Vo n))
 | 0 => ⟨fun vs H Q E ⟨_, _, _, _, _, _, z, _⟩ => (nomatch z), fun A outer s H args us vs Q E _ _ _ _ ⟨_, _, _, _, _, _, z, _⟩ => (nomatch z)⟩
 | n + 1 => by
  have G_QH := Zaa T n
  refine Yg (φ := f_QH (Vo n)) T.f_QH Zf2 (by conv => lhs; whnf) (by conv => lhs; whnf) (fun cdv A outer s H E hr => ?_) rfl rfl
  refine ⟨_, (Zt (Yn (Yo (Xu (cA := ⟨t.c, K⟩) (hr.units)) (ZY (Yy (K := K)) (by rfl) T.n_len boot_len (Ze (pv 1) Zk)) Zs (Z2 _)) (Zv (ZF Zs)) Ys)
   (Zt (ZA (i := 2) V3 (by rfl) (by first | exact Or.inl rfl | exact Or.inr rfl) (ZG (ZH (K := K)) (pv 0) (Zw Vu (ZY (Yy (K := K)) (by rfl) T.n_len boot_len (Ze (pv 0) Zk)) (ZY (Yy (K := K)) (by rfl) T.n_len boot_len (Ze (pv 1) Zk))) (fun _ _ => rfl)))
   (Zt (ZA (i := 3) V3 (by rfl) (by first | exact Or.inl rfl | exact Or.inr rfl) Zs)
   (Zt ((YY PassesOwn.never (by rfl) (Xr (by rfl) T.n_range (Ze (ZY (Yy (K := K)) (by rfl) T.n_len boot_len (Ze (pv 1) Zk)) Zk)) (ZR (i := 4) V3 (by rfl) (by first | exact Or.inl rfl | exact Or.inr rfl)) (Zt (ZA (i := 5) V3 (by rfl) (by first | exact Or.inl rfl | exact Or.inr rfl) (ZG (ZH (K := K)) (pv 2) (ZG (ZH (K := K)) (pv 1) (pv 4) (fun _ _ => rfl)) (fun _ _ => rfl)))
   (Zt (Yn (Yo (VD (cA := ⟨t.c, K⟩) (hr.units)) (pv 5) Zs (Z2 _)) (Zv (ZA (i := 5) V3 (by rfl) (by first | exact Or.inl rfl | exact Or.inr rfl) (Zw (YF (K := K)) (pv 5) (ZV (G_QH) hr (by rfl) T.g_QH T.k_QH T.b_QH .nil ZW (Ze (pv 0) (Ze (Zw (YE (K := K)) (U7 (Qb (K := K)) (pv 1) U5 (U6 (pv 4))) (U7 (Qb (K := K)) (pv 1) (U6 (Zw (YE (K := K)) (pv 4) Zs)) U5)) Zk)))))) Ys)
   (Zv (ZA (i := 3) V3 (by rfl) (by first | exact Or.inl rfl | exact Or.inr rfl) (Zw (YE (K := K)) (pv 3) (Zw (YF (K := K)) (pv 5) (Zw Vu Zs (Zw (YF (K := K)) (Zw Xs (pv 4) Zs) Zs))))))))))
   (Zv (ZF (pv 3))))))), [], ?_⟩
  unfold f_QH
  exact (Zu (Yi (Yj (Zg Xv (Ya Yz (Zh (Zc 1 (by rfl)) Zm)) (Zl (d := (.int 0)) (by rfl) (by rfl)))) (ZC (Zl (d := (.int 1)) (by rfl) (by rfl))) Yk)
   (Zu (show VS _ _ [] _ _ _ _ from (ZD 2 (Zg ZI (Zc 0 (by rfl)) (Zg VL (Ya Yz (Zh (Zc 0 (by rfl)) Zm)) (Ya Yz (Zh (Zc 1 (by rfl)) Zm)))) (by rfl) (by rfl) (by rfl) (by rfl)))
   (Zu (show VS _ _ [] _ _ _ _ from (ZD 3 (Zl (d := (.int 0)) (by rfl) (by rfl)) (by rfl) (by rfl) (by rfl) (by rfl)))
   (Zu (Y2 (Xy (Zh (Ya Yz (Zh (Zc 1 (by rfl)) Zm)) Zm) Xh) (Yc 4 (by rfl) (by rfl)) (Zu (show VS _ _ [] _ _ _ _ from (ZD 5 (Zg ZI (Zc 2 (by rfl)) (Zg ZI (Zc 1 (by rfl)) (Zc 4 (by rfl)))) (by rfl) (by rfl) (by rfl) (by rfl)))
   (Zu (Yi (Yj (Zg Vf (Zc 5 (by rfl)) (Zl (d := (.int 0)) (by rfl) (by rfl)))) (show VS _ _ [] _ _ _ _ from (ZD 5 (Zg Y4 (Zc 5 (by rfl)) (ZZ [] (by rfl) (Zh (Zc 0 (by rfl)) (Zh (Zg YG (Qn (Or.inl rfl) (Zc 1 (by rfl)) Qk (Qm (Zc 4 (by rfl)))) (Qn (Or.inl rfl) (Zc 1 (by rfl)) (Qm (Zg YG (Zc 4 (by rfl)) (Zl (d := (.int 1)) (by rfl) (by rfl)))) Qk)) Zm)))) (by rfl) (by rfl) (by rfl) (by rfl))) Yk)
   (show VS _ _ [] _ _ _ _ from (ZD 3 (Zg YG (Zc 3 (by rfl)) (Zg Y4 (Zc 5 (by rfl)) (Zg VL (Zl (d := (.int 1)) (by rfl) (by rfl)) (Zg Y4 (Zg Xz (Zc 4 (by rfl)) (Zl (d := (.int 2)) (by rfl) (by rfl))) (Zl (d := (.int 2)) (by rfl) (by rfl)))))) (by rfl) (by rfl) (by rfl) (by rfl))))))
   (ZC (Zc 3 (by rfl)))))))
theorem Zgk (T : Txt K mg t) : FnOk P w K mg base CX0 8 t.a_QH t.d_QH ["table", "columns"] (spD ⟨t.c, K⟩ 2 m_QH) := Zaa T 8
theorem Zgl (T : Txt K mg t) : FnOk P w K mg base CX0 9 t.a_QC t.d_QC ["table"] (spD ⟨t.c, K⟩ 1 UN) := by
 have G_QH := (Zgk (P := P) (w := w) (base := base) T).mono (k := 8) (by decide)
 refine Yg (φ := f_QC) T.f_QC Zf3 (by conv => lhs; whnf) (by conv => lhs; whnf) (fun cdv A outer s H E hr => ?_) rfl rfl
 refine ⟨_, (Zv (ZF (ZV (G_QH) hr (by rfl) T.g_QH T.k_QH T.b_QH .nil ZW (Ze (pv 0) (Ze (ZbO (by rfl) (by rfl) T.n_list (by rfl) T.n_range (Ze (ZY (Yy (K := K)) (by rfl) T.n_len boot_len (Ze (pv 0) Zk)) Zk)) Zk))))), [], ?_⟩
 unfold f_QC
 exact (ZC (ZZ [] (by rfl) (Zh (Zc 0 (by rfl)) (Zh (VF.cl (ZbP (Zh (Ya Yz (Zh (Zc 0 (by rfl)) Zm)) Zm))) Zm))))
theorem Zgm (T : Txt K mg t) : FnOk P w K mg base CX0 10 t.a_QL t.d_QL ["table", "n"] (spD ⟨t.c, K⟩ 2 V2) := by
 have G_QC := (Zgl (P := P) (w := w) (base := base) T).mono (k := 9) (by decide)
 refine Yg (φ := f_QL) T.f_QL Zf4 (by conv => lhs; whnf) (by conv => lhs; whnf) (fun cdv A outer s H E hr => ?_) rfl rfl
 refine ⟨_, (Zt ((YY PassesOwn.never (by rfl) (ZaB (by rfl) T.n_range (Ze Zs (Ze (Zw (YE (K := K)) (ZY (Yy (K := K)) (by rfl) T.n_len boot_len (Ze (pv 0) Zk)) Zs) Zk))) (ZR (i := 2) JU (by rfl) (by first | exact Or.inl rfl | exact Or.inr rfl)) (Zt (ZA (i := 3) JU (by rfl) (by first | exact Or.inl rfl | exact Or.inr rfl) (Y9 Zk))
 (Zt ((YY PassesOwn.never (by rfl) (Xr (by rfl) T.n_range (Ze (pv 2) Zk)) (ZR (i := 4) JU (by rfl) (by first | exact Or.inl rfl | exact Or.inr rfl)) (Zv (Vb (Ve (K := K) PySem.F.plainAttrs_list PySem.F.slot_list_append PySem.F.type_list_append Vd (pv 3) (Ze (XN (by rfl) (CompSc.mk' (tn := ["j"]) (cn := ["n", "k", "table"]) (js := [1, 4, 0]) (osc := Zo XH) (oN := ["table", "n", "many", "corner", "k"]) (by rfl) (by rfl) (by rfl) (by decide +kernel)) (Xr (by rfl) T.n_range (Ze (pv 2) Zk)) (fun C s₂ H₂ fp => ZR (i := 0) Zhl (by rfl) (by first | exact Or.inl rfl | exact Or.inr rfl)) (fun C s₂ H₂ fp => YZ) (fun C s₂ H₂ fp => (Zw Vu (Zw (YF (K := K)) (pv 1) (V8 ZcA (by rfl) T.n_int boot_int (Ze (Vv (Xu (cA := ⟨t.c, K⟩) (hr.units)) (pv 0) (pv 2) (Z2 _)) Zk))) (ZG (ZH (K := K)) (ZG (ZH (K := K)) (pv 3) (pv 2) (fun _ _ => rfl)) (pv 0) (fun _ _ => rfl))))) Zk))))))
 (Zv (Yn (Yo Jd (ZV (G_QC) hr (by rfl) T.g_QC T.k_QC T.b_QC .nil ZW (Ze (pv 3) Zk)) Zs (Z2 _)) (Zv (ZF XJ)) Ys))))))
 (Zv (ZF XJ))), [], ?_⟩
 unfold f_QL
 exact (Zu (Y2 (Zb4 (Zh (Zl (d := (.int 1)) (by rfl) (by rfl)) (Zh (Zg YG (Ya Yz (Zh (Zc 0 (by rfl)) Zm)) (Zl (d := (.int 1)) (by rfl) (by rfl))) Zm)) ZgZ) (Yc 2 (by rfl) (by rfl)) (Zu (show VS _ _ [3] _ _ _ _ from (XS 3 (Xd Zm) (by rfl) (by rfl) (by rfl) (by rfl)))
 (Zu (Y2 (Xy (Zh (Zc 2 (by rfl)) Zm) Xh) (Yc 4 (by rfl) (by rfl)) (Vi 3 (by rfl) (VF.cl (YO (by rfl) (Xy (Zh (Zc 2 (by rfl)) Zm) Xh) (Yc 0 (by rfl) (by rfl)) Y1 (Zg VL (Zg Y4 (Zc 1 (by rfl)) (Ya Zfn (Zh (Zg Xv (Zc 0 (by rfl)) (Zc 2 (by rfl))) Zm))) (Zg ZI (Zg ZI (Zc 3 (by rfl)) (Zc 2 (by rfl))) (Zc 0 (by rfl))))))))
 (VS.frz (ow1 := []) 3 (Yi (Yj (Zg Vg (ZZ [] (by rfl) (Zh (Zc 3 (by rfl)) Zm)) (Zl (d := (.int 0)) (by rfl) (by rfl)))) (ZC (Zl (d := (.bl false)) (by rfl) (by rfl))) Yk) (by rfl) (by rfl) (by rfl) (by rfl)))))
 (ZC (Zl (d := (.bl true)) (by rfl) (by rfl))))
theorem Zgn (T : Txt K mg t) : FnOk P w K mg base CX0 1 t.a_QI t.d_QI ["numbers"] (spD ⟨t.c, K⟩ 1 UO) := by
 refine Yg (φ := f_QI) T.f_QI Zf5 (by conv => lhs; whnf) (by conv => lhs; whnf) (fun cdv A outer s H E hr => ?_) rfl rfl
 refine ⟨_, (Zt (ZA (i := 1) UP (by rfl) (by first | exact Or.inl rfl | exact Or.inr rfl) Zs)
 (Zt ((YY PassesOwn.never (by rfl) (Xb (K := K) (pv 0)) (ZR (i := 2) UP (by rfl) (by first | exact Or.inl rfl | exact Or.inr rfl)) (Zv ((Zbe PassesOwn.never (Yo (VD (cA := ⟨t.c, K⟩) (hr.units)) (pv 2) Zs (Z2 _)) (Zt (ZA (i := 3) UP (by rfl) (by first | exact Or.inl rfl | exact Or.inr rfl) (Zw Xs (pv 1) (pv 2)))
 (Zt (ZA (i := 1) UP (by rfl) (by first | exact Or.inl rfl | exact Or.inr rfl) (pv 2))
 (Zv (ZA (i := 2) UP (by rfl) (by first | exact Or.inl rfl | exact Or.inr rfl) (pv 3))))))))))
 (Zv (ZF (Vv (Xu (cA := ⟨t.c, K⟩) (hr.units)) (pv 1) Zs (Z2 _)))))), [], ?_⟩
 unfold f_QI
 exact (Zu (show VS _ _ [] _ _ _ _ from (ZD 1 (Zl (d := (.int 0)) (by rfl) (by rfl)) (by rfl) (by rfl) (by rfl) (by rfl)))
 (Zu (Y2 (Xg (Zc 0 (by rfl))) (Yc 2 (by rfl) (by rfl)) (Zbn (Yj (Zg Vf (Zc 2 (by rfl)) (Zl (d := (.int 0)) (by rfl) (by rfl)))) (Zu (show VS _ _ [] _ _ _ _ from (ZD 3 (Zg Xz (Zc 1 (by rfl)) (Zc 2 (by rfl))) (by rfl) (by rfl) (by rfl) (by rfl)))
 (Zu (show VS _ _ [] _ _ _ _ from (ZD 1 (Zc 2 (by rfl)) (by rfl) (by rfl) (by rfl) (by rfl)))
 (show VS _ _ [] _ _ _ _ from (ZD 2 (Zc 3 (by rfl)) (by rfl) (by rfl) (by rfl) (by rfl)))))))
 (ZC (Zg Xv (Zc 1 (by rfl)) (Zl (d := (.int 1)) (by rfl) (by rfl))))))
theorem Zgo (T : Txt K mg t) : FnOk P w K mg base CX0 3 t.a_QE t.d_QE ["table", "n", "found"] (spD ⟨t.c, K⟩ 3 QP) := by
 have G_QI := (Zgn (P := P) (w := w) (base := base) T).mono (k := 2) (by decide)
 have G_QO := (Zgg (P := P) (w := w) (base := base) T).mono (k := 2) (by decide)
 refine Yg (φ := f_QE) T.f_QE Zf6 (by conv => lhs; whnf) (by conv => lhs; whnf) (fun cdv A outer s H E hr => ?_) rfl rfl
 refine ⟨_, (Zt (ZA (i := 3) JV (by rfl) (by first | exact Or.inl rfl | exact Or.inr rfl) (ZY (Yy (K := K)) (by rfl) T.n_len boot_len (Ze (pv 0) Zk)))
 (Zt (Yn (PW.pt (Q4 (V7 (V6 (ZV (G_QO) hr (by rfl) T.g_QO T.k_QO T.b_QO .nil ZW (Ze (pv 2) (Ze (pv 3) Zk))))) (Q3 (Yo Jd (ZY (ZdJ (K := K)) (by rfl) T.n_min boot_min (Ze (pv 2) Zk)) Zs (Z2 _))))) (Zv (ZF XJ)) Ys)
 (Zt (ZA (i := 4) JV (by rfl) (by first | exact Or.inl rfl | exact Or.inr rfl) (Y9 Zk))
 (Zt ((YY PassesOwn.never (by rfl) (Xr (by rfl) T.n_range (Ze (pv 3) Zk)) (ZR (i := 5) JV (by rfl) (by first | exact Or.inl rfl | exact Or.inr rfl)) (Zv (Vb (Ve (K := K) PySem.F.plainAttrs_list PySem.F.slot_list_append PySem.F.type_list_append Vd (pv 4) (Ze (Zw Vu (Zw (YF (K := K)) (pv 1) (ZG (ZH (K := K)) (pv 2) (pv 5) (fun _ _ => rfl))) (ZY (ZdD (K := K)) (by rfl) T.n_sum boot_sum (Ze (XN (by rfl) (CompSc.mk' (tn := ["k"]) (cn := ["found", "table", "j"]) (js := [2, 0, 5]) (osc := Zo XI) (oN := ["table", "n", "found", "many", "left", "j"]) (by rfl) (by rfl) (by rfl) (by decide +kernel)) (Xr (by rfl) T.n_range (Ze (pv 3) Zk)) (fun C s₂ H₂ fp => ZR (i := 0) Zhm (by rfl) (by first | exact Or.inl rfl | exact Or.inr rfl)) (fun C s₂ H₂ fp => YZ) (fun C s₂ H₂ fp => (Zw (YF (K := K)) (ZG (ZH (K := K)) (pv 1) (pv 0) (fun _ _ => rfl)) (ZG (ZH (K := K)) (ZG (ZH (K := K)) (pv 2) (pv 0) (fun _ _ => rfl)) (pv 3) (fun _ _ => rfl))))) Zk))) Zk))))))
 (Zv (ZF (U1 (Vv ZeI (ZG (ZH (K := K)) (pv 4) Zs (fun _ _ => rfl)) Zs (Z2 _)) (U1 (Vv (Xu (cA := ⟨t.c, K⟩) (hr.units)) (pv 4) (Zw (YF (K := K)) (Y9 (Ze (ZG (ZH (K := K)) (pv 4) Zs (fun _ _ => rfl)) Zk)) (pv 3)) (Z2 _)) (Q5 (ZV (G_QI) hr (by rfl) T.g_QI T.k_QI T.b_QI .nil ZW (Ze (Zw (YE (K := K)) (pv 2) (Y9 (Ze (ZG (ZH (K := K)) (pv 4) Zs (fun _ _ => rfl)) Zk))) Zk))))))))))), [], ?_⟩
 unfold f_QE
 exact (Zu (show VS _ _ [] _ _ _ _ from (ZD 3 (Ya Yz (Zh (Zc 0 (by rfl)) Zm)) (by rfl) (by rfl) (by rfl) (by rfl)))
 (Zu (Yi (Jt (VM (XO (ZZ [] (by rfl) (Zh (Zc 2 (by rfl)) (Zh (Zc 3 (by rfl)) Zm))))) (Yj (Zg Vg (Ya Zca (Zh (Zc 2 (by rfl)) Zm)) (Zl (d := (.int 0)) (by rfl) (by rfl))))) (ZC (Zl (d := (.bl false)) (by rfl) (by rfl))) Yk)
 (Zu (show VS _ _ [4] _ _ _ _ from (XS 4 (Xd Zm) (by rfl) (by rfl) (by rfl) (by rfl)))
 (Zu (Y2 (Xy (Zh (Zc 3 (by rfl)) Zm) Xh) (Yc 5 (by rfl) (by rfl)) (Vi 4 (by rfl) (Zg VL (Zg Y4 (Zc 1 (by rfl)) (Zg ZI (Zc 2 (by rfl)) (Zc 5 (by rfl)))) (Ya Zb6 (Zh (VF.cl (YO (by rfl) (Xy (Zh (Zc 3 (by rfl)) Zm) Xh) (Yc 0 (by rfl) (by rfl)) Y1 (Zg Y4 (Zg ZI (Zc 1 (by rfl)) (Zc 0 (by rfl))) (Zg ZI (Zg ZI (Zc 2 (by rfl)) (Zc 0 (by rfl))) (Zc 3 (by rfl)))))) Zm)))))
 (VS.frz (ow1 := []) 4 (ZC (Qg (Zg Vg (Zg ZI (Zc 4 (by rfl)) (Zl (d := (.int 0)) (by rfl) (by rfl))) (Zl (d := (.int 0)) (by rfl) (by rfl))) (Qg (Zg Xv (Zc 4 (by rfl)) (VF.cl (ZdG (VF.cl (Xd (Zh (Zg ZI (Zc 4 (by rfl)) (Zl (d := (.int 0)) (by rfl) (by rfl))) Zm))) (Zc 3 (by rfl))))) (ZZ [] (by rfl) (Zh (Zg YG (Zc 2 (by rfl)) (VF.cl (Xd (Zh (Zg ZI (Zc 4 (by rfl)) (Zl (d := (.int 0)) (by rfl) (by rfl))) Zm)))) Zm))))) (by rfl) (by rfl) (by rfl) (by rfl))))))
theorem Zgp (T : Txt K mg t) : FnOk P w K mg base CX0 11 t.a_QT t.d_QT ["script"] (spD ⟨t.c, K⟩ 1 QQ) := by
 have G_QD := (ZeT (P := P) (w := w) (base := base) T).mono (k := 10) (by decide)
 have G_QE := (Zgo (P := P) (w := w) (base := base) T).mono (k := 10) (by decide)
 have G_QL := (Zgm (P := P) (w := w) (base := base) T).mono (k := 10) (by decide)
 have G_QJ := (Zgi (P := P) (w := w) (base := base) T).mono (k := 10) (by decide)
 have G_QN := (Zgj (P := P) (w := w) (base := base) T).mono (k := 10) (by decide)
 have G_QS := (Zge (P := P) (w := w) (base := base) T).mono (k := 10) (by decide)
 refine Yg (φ := f_QT) T.f_QT Zf7 (by conv => lhs; whnf) (by conv => lhs; whnf) (fun cdv A outer s H E hr => ?_) rfl rfl
 refine ⟨_, (Zt (ZA (i := 1) UQ (by rfl) (by first | exact Or.inl rfl | exact Or.inr rfl) (ZV (G_QJ) hr (by rfl) T.g_QJ T.k_QJ T.b_QJ .nil ZW (Ze (pv 0) (Ze Zs (Ze (Zw (YE (K := K)) Zs (Zw Xs (ZV (G_QD) hr (by rfl) T.g_QD T.k_QD T.b_QD .nil ZW (Ze (pv 0) (Ze Zs Zk))) Zs)) Zk)))))
 (Zt (ZA (i := 2) UQ (by rfl) (by first | exact Or.inl rfl | exact Or.inr rfl) (ZV (G_QN) hr (by rfl) T.g_QN T.k_QN T.b_QN .nil ZW (Ze (ZV (G_QD) hr (by rfl) T.g_QD T.k_QD T.b_QD .nil ZW (Ze (pv 0) (Ze Zs Zk))) (Ze (pv 1) Zk))))
 (Zt (Qr (i := 3) UQ (by rfl) (by rfl) (by rfl) (CompSc.mk' (tn := ["row"]) (cn := []) (js := []) (osc := Zo YV) (oN := ["script", "table", "n", "handed", "found", "due"]) (by rfl) (by rfl) (by rfl) (by decide +kernel)) (Xb (K := K) (pv 1)) (fun C s₂ H₂ fp => ZR (i := 0) Zg1 (by rfl) (by first | exact Or.inl rfl | exact Or.inr rfl)) (fun C s₂ H₂ fp => YZ) (fun C s₂ H₂ fp => (V8 (Qu (K := K)) (by rfl) T.n_list boot_list (Ze (pv 0) Zk))))
 (Zt (ZA (i := 4) UQ (by rfl) (by first | exact Or.inl rfl | exact Or.inr rfl) (ZV (G_QS) hr (by rfl) T.g_QS T.k_QS T.b_QS .nil ZW (Ze (pv 3) (Ze (pv 2) Zk))))
 (Zt (Yn (Yo (VD (cA := ⟨t.c, K⟩) (hr.units)) (pv 3) (pv 1) (Z2 _)) (Zv (ZF XJ)) Ys)
 (Zt (Yn (V7 (V6 (ZV (G_QL) hr (by rfl) T.g_QL T.k_QL T.b_QL .nil ZW (Ze (pv 1) (Ze (pv 2) Zk))))) (Zv (ZF (Ze5 (Q2 (pv 4))))) Ys)
 (Zt (Yn (V7 (V6 (ZV (G_QE) hr (by rfl) T.g_QE T.k_QE T.b_QE .nil ZW (Ze (pv 1) (Ze (pv 2) (Ze (pv 4) Zk)))))) (Zv (ZF XJ)) Ys)
 (Zt (ZA (i := 5) UQ (by rfl) (by first | exact Or.inl rfl | exact Or.inr rfl) (V8 (Qu (K := K)) (by rfl) T.n_list boot_list (Ze (pv 4) Zk)))
 (Zt (Vb (Ve (K := K) PySem.F.plainAttrs_list PySem.F.slot_list_append PySem.F.type_list_append Vd (pv 4) (Ze Zs Zk)))
 (Zv (ZF (U1 (Vv (Xu (cA := ⟨t.c, K⟩) (hr.units)) (ZV (G_QS) hr (by rfl) T.g_QS T.k_QS T.b_QS .nil ZW (Ze (pv 3) (Ze (pv 2) Zk))) (pv 5) (Z2 _)) (Q5 (Vv (Xu (cA := ⟨t.c, K⟩) (hr.units)) (pv 3) (pv 1) (Z2 _))))))))))))))), [], ?_⟩
 unfold f_QT
 exact (Zu (show VS _ _ [] _ _ _ _ from (ZD 1 (ZZ [] (by rfl) (Zh (Zc 0 (by rfl)) (Zh (Zl (d := (.int 2)) (by rfl) (by rfl)) (Zh (Zg YG (Zl (d := (.int 1)) (by rfl) (by rfl)) (Zg Xz (ZZ [] (by rfl) (Zh (Zc 0 (by rfl)) (Zh (Zl (d := (.int 0)) (by rfl) (by rfl)) Zm))) (Zl (d := (.int 4)) (by rfl) (by rfl)))) Zm)))) (by rfl) (by rfl) (by rfl) (by rfl)))
 (Zu (show VS _ _ [] _ _ _ _ from (ZD 2 (ZZ [] (by rfl) (Zh (ZZ [] (by rfl) (Zh (Zc 0 (by rfl)) (Zh (Zl (d := (.int 1)) (by rfl) (by rfl)) Zm))) (Zh (Zc 1 (by rfl)) Zm))) (by rfl) (by rfl) (by rfl) (by rfl)))
 (Zu (show VS _ _ [] _ _ _ _ from (ZD 3 (VF.cl (YO (by rfl) (Xg (Zc 1 (by rfl))) (Yc 0 (by rfl) (by rfl)) Y1 (VF.cl (Qv (Or.inl rfl) (Zh (Zc 0 (by rfl)) Zm))))) (by rfl) (by rfl) (by rfl) (by rfl)))
 (Zdc 4 (ZcP [] (by rfl) (Zh (Zc 3 (by rfl)) (Zh (Zc 2 (by rfl)) Zm))) (ZaQ [] (by rfl) (Zh (Zc 3 (by rfl)) (Zh (Zc 2 (by rfl)) Zm))) (by rfl) (by rfl) (by rfl) (by rfl) (by rfl)
 (Zu (Yi (Yj (Zg Vf (Zc 3 (by rfl)) (Zc 1 (by rfl)))) (ZC (Zl (d := (.bl false)) (by rfl) (by rfl))) Yk)
 (Zu (Yi (VM (XO (ZZ [] (by rfl) (Zh (Zc 1 (by rfl)) (Zh (Zc 2 (by rfl)) Zm))))) (ZC (Qh (Zc 4 (by rfl)))) Yk) Zei))
 (Zu (Yi (Yj (Zg Vf (Zc 3 (by rfl)) (Zc 1 (by rfl)))) (ZC (Zl (d := (.bl false)) (by rfl) (by rfl))) Yk)
 (Zu (Yi (VM (XO (ZZ [] (by rfl) (Zh (Zc 1 (by rfl)) (Zh (Zc 2 (by rfl)) Zm))))) (ZC (Qh (Qe 4 (by rfl)))) Yk)
 (Zu (Yi (VM (XO (ZZ [] (by rfl) (Zh (VE.dt (Zc 1 (by rfl))) (Zh (VE.dt (Zc 2 (by rfl))) (Zh (VE.dt (Qe 4 (by rfl))) Zm)))))) (ZC (Zl (d := (.bl false)) (by rfl) (by rfl))) Yk)
 (Zu (show VS _ _ [4] _ _ _ _ from (ZD 5 (VF.cl (Qv (Or.inr rfl) (Zh (Qe 4 (by rfl)) Zm))) (by rfl) (by rfl) (by rfl) (by rfl)))
 (Zu (Vi 4 (by rfl) (Zl (d := (.int 1)) (by rfl) (by rfl)))
 (VS.frz (ow1 := []) 4 (ZC (Qg (Zg Xv (VF.cl (ZaQ [] (by rfl) (Zh (Zc 3 (by rfl)) (Zh (Zc 2 (by rfl)) Zm)))) (Zc 5 (by rfl))) (Zg Xv (Zc 3 (by rfl)) (Zc 1 (by rfl))))) (by rfl) (by rfl) (by rfl) (by rfl)))))))))))
end
end K27
namespace K27
def at2 (A : List (List Int)) (i j : Nat) : Int := (A.getD i []).getD j 0
def lap (A : List (List Int)) : Nat -> List Nat -> Int
 | 0, _ => 1
 | f + 1, cols => ((List.range (f + 1)).map fun k => at2 A (A.length - (f + 1)) (cols.getD k 0) * lap A f (cols.take k ++ cols.drop (k + 1)) * (1 - (k : Int) % 2 * 2)).sum
abbrev Mt := Nat -> Nat -> Int
def e2 (b : Mt) (r s p q : Nat) : Int := b r p * b s q - b r q * b s p
def e3 (b : Mt) (r s t p q u : Nat) : Int := b r p * e2 b s t q u - b r q * e2 b s t p u + b r u * e2 b s t p q
def e4 (b : Mt) (r s t v p q u w : Nat) : Int := b r p * e3 b s t v q u w - b r q * e3 b s t v p u w + b r u * e3 b s t v p q w - b r w * e3 b s t v p q u
def dm : Nat -> Mt -> Int
 | 0, _ => 1
 | 1, b => b 0 0
 | 2, b => e2 b 0 1 0 1
 | 3, b => e3 b 0 1 2 0 1 2
 | 4, b => e4 b 0 1 2 3 0 1 2 3
 | _, _ => 0
def Mn : Nat -> Mt -> Nat -> Nat -> Int
 | 0, b, i, c => b i c
 | 1, b, 0, c => b 0 c
 | 1, b, i, c => e2 b 0 i 0 c
 | 2, b, 0, c => e2 b 0 1 c 1
 | 2, b, 1, c => e2 b 0 1 0 c
 | 2, b, i, c => e3 b 0 1 i 0 1 c
 | 3, b, 0, c => e3 b 0 1 2 c 1 2
 | 3, b, 1, c => e3 b 0 1 2 0 c 2
 | 3, b, 2, c => e3 b 0 1 2 0 1 c
 | 3, b, i, c => e4 b 0 1 2 i 0 1 2 c
 | 4, b, 0, c => e4 b 0 1 2 3 c 1 2 3
 | 4, b, 1, c => e4 b 0 1 2 3 0 c 2 3
 | 4, b, 2, c => e4 b 0 1 2 3 0 1 c 3
 | 4, b, 3, c => e4 b 0 1 2 3 0 1 2 c
 | _, _, _, _ => 0
def swR (b : Mt) (p q : Nat) : Mt := fun i => if i = p then b q else if i = q then b p else b i
theorem l4 {i : Nat} (h : i < 4) : i = 0 \/ i = 1 \/ i = 2 \/ i = 3 := by omega
theorem frM (p : Nat) (hp : p < 4) (b : Mt) : Mn p b p p = dm (p + 1) b := by
 rcases l4 hp with rfl | rfl | rfl | rfl <;> rfl
theorem JW (p : Nat) (hp : p < 4) (b : Mt) (c : Nat) : Mn (p + 1) b p c = Mn p b p c := by
 rcases l4 hp with rfl | rfl | rfl | rfl <;> rfl
theorem UR (p : Nat) (hp : p < 4) (b : Mt) (i : Nat) (hi : i < 4) (hn : i ≠ p) (c : Nat) : dm (p + 1) b * Mn p b i c - Mn p b i p * Mn p b p c = dm p b * Mn (p + 1) b i c := by
 rcases l4 hp with rfl | rfl | rfl | rfl <;> rcases l4 hi with rfl | rfl | rfl | rfl <;> first | exact absurd rfl hn | (simp only [Mn, dm, e2, e3, e4]; grind)
theorem ZdM (m : Nat) (b : Mt) (h1 : 1 <= m) (h4 : m <= 4) (k : Nat) (hk : k < m) : ((List.range m).map fun j => b k j * Mn m b j m).sum = b k m * dm m b := by
 have : m = 1 \/ m = 2 \/ m = 3 \/ m = 4 := by omega
 rcases this with rfl | rfl | rfl | rfl <;> rcases l4 (show k < 4 by omega) with rfl | rfl | rfl | rfl <;> first | (exfalso; omega) | (simp [Mn, dm, e2, e3, e4, List.range, List.range.loop]; grind)
theorem zdet (p m : Nat) (b : Mt) (hp : p < m) (h4 : m <= 4) (h0 : dm p b ≠ 0) (h : ∀ i, p <= i -> i < m -> Mn p b i p = 0) : dm m b = 0 := by
 have : m = 1 \/ m = 2 \/ m = 3 \/ m = 4 := by omega
 have key : dm p b * dm m b = 0 := by
  rcases this with rfl | rfl | rfl | rfl <;> rcases l4 (show p < 4 by omega) with rfl | rfl | rfl | rfl <;> first
   | (exfalso; omega)
   | (have z0 := h 0 (by omega) (by omega); have z1 := h 1 (by omega) (by omega); have z2 := h 2 (by omega) (by omega); have z3 := h 3 (by omega) (by omega); simp only [Mn, dm, e2, e3, e4] at *; grind)
   | (have z1 := h 1 (by omega) (by omega); have z2 := h 2 (by omega) (by omega); have z3 := h 3 (by omega) (by omega); simp only [Mn, dm, e2, e3, e4] at *; grind)
   | (have z2 := h 2 (by omega) (by omega); have z3 := h 3 (by omega) (by omega); simp only [Mn, dm, e2, e3, e4] at *; grind)
   | (have z3 := h 3 (by omega) (by omega); simp only [Mn, dm, e2, e3, e4] at *; grind)
   | (have z0 := h 0 (by omega) (by omega); have z1 := h 1 (by omega) (by omega); have z2 := h 2 (by omega) (by omega); simp only [Mn, dm, e2, e3, e4] at *; grind)
   | (have z1 := h 1 (by omega) (by omega); have z2 := h 2 (by omega) (by omega); simp only [Mn, dm, e2, e3, e4] at *; grind)
   | (have z2 := h 2 (by omega) (by omega); simp only [Mn, dm, e2, e3, e4] at *; grind)
   | (have z0 := h 0 (by omega) (by omega); have z1 := h 1 (by omega) (by omega); simp only [Mn, dm, e2, e3, e4] at *; grind)
   | (have z1 := h 1 (by omega) (by omega); simp only [Mn, dm, e2, e3, e4] at *; grind)
   | (have z0 := h 0 (by omega) (by omega); simp only [Mn, dm, e2, e3, e4] at *; grind)
 exact (Int.mul_eq_zero.mp key).resolve_left h0
theorem Zfs (m : Nat) (b : Mt) (h4 : m <= 4) (p q : Nat) (hp : p < m) (hq : q < m) (hpq : p <= q) : (dm m (swR b p q) = dm m b /\ ∀ j, j < m -> Mn m (swR b p q) j m = Mn m b j m) \/ (dm m (swR b p q) = - dm m b /\ ∀ j, j < m -> Mn m (swR b p q) j m = - Mn m b j m) := by
 by_cases he : p = q
 · subst he
   have : swR b p p = b := by
    funext i
    unfold swR
    split
    · rename_i z; rw [z]
    · rfl
   rw [this]
   exact .inl ⟨rfl, fun _ _ => rfl⟩
 · right
   have : m = 1 \/ m = 2 \/ m = 3 \/ m = 4 := by omega
   rcases this with rfl | rfl | rfl | rfl <;> rcases l4 (show p < 4 by omega) with rfl | rfl | rfl | rfl <;> rcases l4 (show q < 4 by omega) with rfl | rfl | rfl | rfl <;> first
    | (exfalso; omega)
    | (refine ⟨by simp [dm, e2, e3, e4, swR]; grind, fun j hj => ?_⟩
       rcases l4 (show j < 4 by omega) with rfl | rfl | rfl | rfl <;> first | (exfalso; omega) | (simp [Mn, e2, e3, e4, swR]; grind))
structure Sg (m p : Nat) (b : Mt) : Prop where
 off : ∀ i c, i < m -> p <= c -> c < m -> i ≠ c -> Mn p b i c <= 0
 rhs : ∀ i, i < m -> 0 < Mn p b i m
 dpos : 0 < dm p b
theorem npn {x y : Int} (hx : 0 <= x) (hy : y <= 0) : x * y <= 0 := Int.mul_nonpos_of_nonneg_of_nonpos hx hy
theorem Sg.next {m p : Nat} {b : Mt} (h : Sg m p b) (hm : m <= 4) (hp : p < m) (hd : 0 < dm (p + 1) b) : Sg m (p + 1) b := by
 refine ⟨fun i c hi hc hcm hne => ?_, fun i hi => ?_, hd⟩
 · by_cases hip : i = p
   · subst hip
     rw [JW i (by omega)]
     exact h.off i c hi (by omega) hcm hne
   · have e := UR p (by omega) b i (by omega) hip c
     have a1 := h.off i c hi (by omega) hcm hne
     have a2 := h.off i p hi (Nat.le_refl _) hp hip
     have a3 := h.off p c hp (by omega) hcm (by omega)
     have p1 := npn (Int.le_of_lt hd) a1
     have p2 := Int.mul_nonneg_of_nonpos_of_nonpos a2 a3
     refine Int.not_lt.mp fun z => ?_
     have := Int.mul_pos h.dpos z
     omega
 · by_cases hip : i = p
   · subst hip
     rw [JW i (by omega)]
     exact h.rhs i hi
   · have e := UR p (by omega) b i (by omega) hip m
     have a1 := h.rhs i hi
     have a2 := h.off i p hi (Nat.le_refl _) hp hip
     have a3 := h.rhs p hp
     have p1 := Int.mul_pos hd a1
     have p2 : Mn p b i p * Mn p b p m <= 0 := by rw [Int.mul_comm]; exact npn (Int.le_of_lt a3) a2
     refine Int.not_le.mp fun z => ?_
     have := npn (Int.le_of_lt h.dpos) z
     omega
theorem Sg.upto {m : Nat} {b : Mt} (h : Sg m 0 b) (hm : m <= 4) (hd : ∀ q, q <= m -> 0 < dm q b) : ∀ p, p <= m -> Sg m p b
 | 0, _ => h
 | p + 1, hp => (Sg.upto h hm hd p (by omega)).next hm (by omega) (hd _ hp)
def Lin (m p : Nat) (b : Mt) (X : Nat -> Int) (d : Int) : Prop := ∀ i, p <= i -> i < m -> ((List.range' p (m - p)).map fun c => Mn p b i c * X c).sum = d * Mn p b i m
theorem Zcf {α : Type} {x y z : Int} {f g h : α -> Int} : ∀ l : List α, (∀ a ∈ l, x * f a - y * g a = z * h a) -> x * (l.map f).sum - y * (l.map g).sum = z * (l.map h).sum
 | [], _ => by simp
 | a :: l, hl => by
  have h1 := Zcf (x := x) (y := y) (z := z) (f := f) (g := g) (h := h) l fun c hc => hl c (List.mem_cons_of_mem _ hc)
  have h2 := hl a List.mem_cons_self
  simp only [List.map_cons, List.sum_cons, Int.mul_add]
  omega
theorem ZdN {α : Type} {f : α -> Int} : ∀ l : List α, (∀ a ∈ l, f a <= 0) -> (l.map f).sum <= 0
 | [], _ => by simp
 | a :: l, hl => by
  have h1 := ZdN (f := f) l fun c hc => hl c (List.mem_cons_of_mem _ hc)
  have h2 := hl a List.mem_cons_self
  simp only [List.map_cons, List.sum_cons]
  omega
theorem Zcg {p m : Nat} (hp : p < m) : List.range' p (m - p) = p :: List.range' (p + 1) (m - (p + 1)) := by
 rw [show m - p = (m - (p + 1)) + 1 by omega, List.range'_succ]
theorem Lin.next {m p : Nat} {b : Mt} {X : Nat -> Int} {d : Int} (h : Lin m p b X d) (hm : m <= 4) (hp : p < m) (hd : 0 < dm p b) : Lin m (p + 1) b X d := fun i hi him => by
 have h1 := h i (by omega) him
 have h2 := h p (Nat.le_refl _) hp
 rw [Zcg hp, List.map_cons, List.sum_cons] at h1 h2
 have h3 := Zcf (x := dm (p + 1) b) (y := Mn p b i p) (z := dm p b) (f := fun c => Mn p b i c * X c) (g := fun c => Mn p b p c * X c) (h := fun c => Mn (p + 1) b i c * X c) (List.range' (p + 1) (m - (p + 1))) fun c _ => by
  have e := UR p (by omega) b i (by omega) (by omega) c
  calc dm (p + 1) b * (Mn p b i c * X c) - Mn p b i p * (Mn p b p c * X c) = (dm (p + 1) b * Mn p b i c - Mn p b i p * Mn p b p c) * X c := by grind
   _ = dm p b * (Mn (p + 1) b i c * X c) := by rw [e]; grind
 have h4 := UR p (by omega) b i (by omega) (by omega) m
 have h5 := frM p (by omega) b
 generalize ((List.range' (p + 1) (m - (p + 1))).map fun c => Mn p b i c * X c).sum = s1 at *
 generalize ((List.range' (p + 1) (m - (p + 1))).map fun c => Mn p b p c * X c).sum = s2 at *
 generalize ((List.range' (p + 1) (m - (p + 1))).map fun c => Mn (p + 1) b i c * X c).sum = s3 at *
 refine Int.eq_of_mul_eq_mul_left (Int.ne_of_gt hd) ?_
 rw [<- h3]
 have e1 : s1 = d * Mn p b i m - Mn p b i p * X p := by omega
 have e2 : s2 = d * Mn p b p m - Mn p b p p * X p := by omega
 rw [e1, e2, h5]
 have : dm p b * (d * Mn (p + 1) b i m) = d * (dm p b * Mn (p + 1) b i m) := by grind
 rw [this, <- h4]
 grind
theorem ZdO {m : Nat} {b : Mt} {X : Nat -> Int} {d : Int} (h : Sg m 0 b) (hl : Lin m 0 b X d) (hm : m <= 4) (hd : 0 < d) (hX : ∀ c, c < m -> 0 < X c) : ∀ p, p <= m -> Sg m p b /\ Lin m p b X d
 | 0, _ => ⟨h, hl⟩
 | p + 1, hp => by
  obtain ⟨h1, h2⟩ := ZdO h hl hm hd hX p (by omega)
  have h3 := h2 p (Nat.le_refl _) (by omega)
  rw [Zcg (show p < m by omega), List.map_cons, List.sum_cons] at h3
  have h4 := ZdN (f := fun c => Mn p b p c * X c) (List.range' (p + 1) (m - (p + 1))) fun c hc => by
   obtain ⟨j, hj, rfl⟩ := List.mem_range'.mp hc
   rw [Int.mul_comm]
   exact npn (Int.le_of_lt (hX _ (by omega))) (h1.off p _ (by omega) (by omega) (by omega) (by omega))
  have h5 := Int.mul_pos hd (h1.rhs p (by omega))
  have h6 : 0 < Mn p b p p * X p := by omega
  have h7 : 0 < dm (p + 1) b := by
   rw [<- frM p (by omega) b]
   exact Int.pos_of_mul_pos_left h6 (hX p (by omega))
  exact ⟨h1.next hm (by omega) h7, h2.next hm (by omega) h1.dpos⟩
end K27
namespace K27
open DL L2
theorem JX (ns : List Int) (k : Nat) : YU [.lst (ns.map D.int), .int k] = some (.int (ns.getD k 0)) := by
 by_cases h : k < ns.length
 · have hz : atI (ns.map D.int) (k : Int) = some (.int (ns.getD k 0)) := by
    refine ZbZ ?_
    rw [List.getElem?_map, List.getElem?_eq_getElem h, List.getD_eq_getElem?_getD, List.getElem?_eq_getElem h]
    rfl
   simp [YU, f_QD, h, hz, DL.run, DL.runI, Zd, sIf, Zn, Uj, sNext, Zf, Ul, Uo, Uq, Uk, xB, bD, Z9, Ue, xOr, Za, eC, eOp, Yq, eOr, XQ, eIf, Yv, Uf, XR, Ug, eUn, Xw, eNil, Zb, Zz, Xe, eCB, lenD, Uh, Ui, Zp, Up, Ur, Um, eSl, xP, xNoP, addD, subD, Ub, Uc, Ud, Z3, ixD, isD, eBM, YA, XT, kind, plainKinds, YS, VU, Uy, VV, VW, VY, XB, Uz, UA, UB, UC, List.lookup, XL, CMul, PySem.sizeLine_eq, List.replicate]
 · have hz : ns.getD k 0 = 0 := by rw [List.getD_eq_getElem?_getD, List.getElem?_eq_none (by omega)]; rfl
   simp [YU, f_QD, h, hz, DL.run, DL.runI, Zd, sIf, Zn, Uj, sNext, Zf, Ul, Uo, Uq, Uk, xB, bD, Z9, Ue, xOr, Za, eC, eOp, Yq, eOr, XQ, eIf, Yv, Uf, XR, Ug, eUn, Xw, eNil, Zb, Zz, Xe, eCB, lenD, Uh, Ui, Zp, Up, Ur, Um, eSl, xP, xNoP, addD, subD, Ub, Uc, Ud, Z3, ixD, isD, eBM, YA, XT, kind, plainKinds, YS, VU, Uy, VV, VW, VY, XB, Uz, UA, UB, UC, List.lookup, XL, CMul, PySem.sizeLine_eq, List.replicate]
abbrev nD (a : Nat) : D := .int (a : Int)
abbrev AD (l : List Nat) : D := .lst (l.map nD)
abbrev IL (w : List Int) : D := .lst (w.map D.int)
abbrev TD (T : List (List Int)) : D := .lst (T.map IL)
theorem Xn {ε : DL.Env -> Option D} {δ : DL.Env} {xs : List D} (h : ε δ = some (.lst xs)) : ZU ε δ = some xs := by
 unfold ZU
 rw [h]
theorem YW {α : Type} {γ : D -> DL.Env -> Option DL.Env} {ε : DL.Env -> Option D} {δ0 : DL.Env} (g f : α -> D) : ∀ (xs : List α), (∀ x ∈ xs, ∃ δ1, γ (g x) δ0 = some δ1 /\ ε δ1 = some (f x)) -> ZX γ (fun _ => some true) ε δ0 (xs.map g) = some (xs.map f)
 | [], _ => rfl
 | x :: xs, h => by
  obtain ⟨δ1, h1, h2⟩ := h x List.mem_cons_self
  have ih := YW g f xs fun y hy => h y (List.mem_cons_of_mem _ hy)
  rw [List.map_cons, List.map_cons]
  unfold ZX
  rw [h1]
  dsimp only
  rw [h2, ih]
theorem JY (n : Nat) : ZJ 0 1 n = (List.range n).map nD := by
 unfold ZJ
 refine List.map_congr_left fun k _ => ?_
 show D.int (0 + (k : Int) * 1) = D.int (k : Int)
 rw [show (0 + (k : Int) * 1) = k by omega]
theorem X9 {i j : Int} (h0 : 0 < j) : modW (.int i) (.int j) = some (.int (i.fmod j)) := Zcc (by omega)
def Bd (e : Nat) (x : Int) : Prop := x.natAbs <= 10 ^ e
theorem Bd.wd {e : Nat} {x : Int} (h : Bd e x) (he : e <= 1000) : Wd x := JR (Nat.le_trans h (Nat.pow_le_pow_right (by decide) he))
theorem Bd.mono {e f : Nat} {x : Int} (h : Bd e x) (hf : e <= f) : Bd f x := Nat.le_trans h (Nat.pow_le_pow_right (by decide) hf)
theorem Bd.mul {e f : Nat} {x y : Int} (h1 : Bd e x) (h2 : Bd f y) : Bd (e + f) (x * y) := by
 unfold Bd
 rw [Int.natAbs_mul, Nat.pow_add]
 exact Nat.mul_le_mul h1 h2
theorem Bd.sub {e : Nat} {x y : Int} (h1 : Bd e x) (h2 : Bd e y) : Bd (e + 1) (x - y) := by
 unfold Bd at *
 have := Int.natAbs_sub_le x y
 rw [Nat.pow_succ]
 omega
theorem Bd.div {e : Nat} {x y : Int} (h : Bd e x) (hy : 0 < y) : Bd e (x.fdiv y) := by
 unfold Bd at *
 rw [Int.fdiv_eq_ediv_of_nonneg x (Int.le_of_lt hy)]
 exact Nat.le_trans (Int.natAbs_ediv_le_natAbs x y) h
theorem Vp {e f : Nat} {x y : Int} (h1 : Bd e x) (h2 : Bd f y) (he : e <= 1000) (hf : f <= 1000) : mulX (.int x) (.int y) = some (.int (x * y)) := if_pos (.inl ⟨h1.wd he, h2.wd hf⟩)
theorem US {e : Nat} {x y : Int} (h : Bd e y) (he : e <= 1000) (hy : y ≠ 0) : fdivW (.int x) (.int y) = some (.int (x.fdiv y)) := UE hy (h.wd he)
theorem UT (i j : Int) : subD (.int i) (.int j) = some (.int (i - j)) := rfl
theorem Bd.zdet {e : Nat} : Bd e 0 := Nat.zero_le _
structure Sq (k e : Nat) (R : List (List Int)) : Prop where
 ln : R.length = k
 rw : ∀ r ∈ R, r.length = k
 bd : ∀ r ∈ R, ∀ x ∈ r, Bd e x
theorem JZ {l : List Int} {i : Nat} (h : i < l.length) : l.getD i 0 ∈ l := by
 rw [List.getD_eq_getElem?_getD, List.getElem?_eq_getElem h]
 exact List.getElem_mem h
theorem Sq.row {k e : Nat} {R : List (List Int)} (h : Sq k e R) {i : Nat} (hi : i < k) : R[i]? = some (R.getD i []) /\ R.getD i [] ∈ R := by
 have hl : i < R.length := by rw [h.ln]; exact hi
 rw [List.getD_eq_getElem?_getD, List.getElem?_eq_getElem hl]
 exact ⟨rfl, List.getElem_mem hl⟩
theorem J0 {k e : Nat} {R : List (List Int)} (h : Sq k e R) {a : Nat} (ha : a < k) : ixD (TD R) (nD a) = some (IL (R.getD a [])) := QG (by rw [List.getElem?_map, (h.row ha).1]; rfl)
theorem J4 {k e : Nat} {R : List (List Int)} (h : Sq k e R) {a b : Nat} (ha : a < k) (hb : b < k) : ixD (IL (R.getD a [])) (nD b) = some (.int (at2 R a b)) := UH (by rw [h.rw _ (h.row ha).2]; exact hb)
theorem UU {k e : Nat} {R : List (List Int)} (h : Sq k e R) {a b : Nat} (ha : a < k) (hb : b < k) : Bd e (at2 R a b) := h.bd _ (h.row ha).2 _ (JZ (by rw [h.rw _ (h.row ha).2]; exact hb))
theorem Zhn {α : Type} {xs : List α} (h : 1 <= xs.length) : L2.cutL xs (some 1) none = xs.drop 1 := by
 unfold L2.cutL
 have e1 : ZN xs.length 0 (some 1) = 1 := by
  show min ((1 : Int)).toNat xs.length = 1
  simp
  omega
 have e2 : ZN xs.length xs.length none = xs.length := rfl
 rw [e1, e2, List.take_of_length_le (by rw [List.length_drop]; exact Nat.le_refl _)]
theorem ZdP {ε : DL.Env -> Option D} {δ : DL.Env} {xs : List D} (h : ε δ = some (.lst xs)) (hl : 1 <= xs.length) : eSl ε (xP (eC (.int 1))) xNoP δ = some (.lst (xs.drop 1)) := by
 unfold eSl
 rw [h]
 show some (D.lst (L2.cutL xs (some 1) none)) = _
 rw [Zhn hl]
abbrev prD (p : Int × Int) : D := .tup [.int p.1, .int p.2]
theorem ZaR : ∀ a b : List Int, Yb (a.map D.int) (b.map D.int) = (a.zip b).map prD
 | [], _ => by simp [Yb]
 | _ :: _, [] => by simp [Yb]
 | x :: a, y :: b => by rw [List.map_cons, List.map_cons, Yb, ZaR a b, List.zip_cons_cons, List.map_cons]
theorem ix0 {r : List Int} (h : 0 < r.length) : ixD (IL r) (.int 0) = some (.int (r.getD 0 0)) := UH (a := 0) h
theorem ZdQ {B : Nat} : ∀ l : List Int, (∀ x ∈ l, x.natAbs <= B) -> l.sum.natAbs <= l.length * B
 | [], _ => by simp
 | x :: l, h => by
  have h1 := ZdQ l fun y hy => h y (List.mem_cons_of_mem _ hy)
  have h2 := h x List.mem_cons_self
  have h3 := Int.natAbs_add_le x l.sum
  rw [List.sum_cons, List.length_cons, Nat.add_mul, Nat.one_mul]
  omega
theorem Zft (k : Nat) : Bd 0 (1 - (k : Int) % 2 * 2) := by
 show (1 - (k : Int) % 2 * 2).natAbs <= 10 ^ 0
 rw [Nat.pow_zero]
 omega
theorem ZdR {A : List (List Int)} {Mn e : Nat} (h : Sq Mn e A) (hM : Mn <= 4) : ∀ (f : Nat) (cols : List Nat), cols.length = f -> f <= Mn -> (∀ c ∈ cols, c < Mn) -> Bd ((e + 1) * f) (lap A f cols)
 | 0, cols, _, _, _ => by
  show (1 : Int).natAbs <= 10 ^ ((e + 1) * 0)
  exact Nat.one_le_pow _ _ (by decide)
 | f + 1, cols, hl, hf, hc => by
  have key : ∀ x ∈ (List.range (f + 1)).map (fun k => at2 A (A.length - (f + 1)) (cols.getD k 0) * lap A f (cols.take k ++ cols.drop (k + 1)) * (1 - (k : Int) % 2 * 2)), x.natAbs <= 10 ^ (e + (e + 1) * f) := fun x hx => by
   obtain ⟨k, hk, rfl⟩ := List.mem_map.mp hx
   have hk := List.mem_range.mp hk
   have hck : cols.getD k 0 < Mn := by
    rw [List.getD_eq_getElem?_getD, List.getElem?_eq_getElem (by omega)]
    exact hc _ (List.getElem_mem _)
   have b1 := UU h (a := A.length - (f + 1)) (by rw [h.ln]; omega) hck
   have b2 := ZdR h hM f (cols.take k ++ cols.drop (k + 1)) (by rw [List.length_append, List.length_take, List.length_drop]; omega) (by omega) fun c hcc => by
    rcases List.mem_append.mp hcc with z | z
    · exact hc c (List.mem_of_mem_take z)
    · exact hc c (List.mem_of_mem_drop z)
   exact (b1.mul b2).mul (Zft k)
  have := ZdQ _ key
  rw [List.length_map, List.length_range] at this
  show Int.natAbs (List.sum ((List.range (f + 1)).map fun k => at2 A (A.length - (f + 1)) (cols.getD k 0) * lap A f (cols.take k ++ cols.drop (k + 1)) * (1 - (k : Int) % 2 * 2))) <= 10 ^ ((e + 1) * (f + 1))
  refine Nat.le_trans this ?_
  rw [show (e + 1) * (f + 1) = (e + (e + 1) * f) + 1 by rw [Nat.mul_add, Nat.mul_one]; omega, Nat.pow_succ, Nat.mul_comm]
  exact Nat.mul_le_mul_left _ (by omega)
noncomputable def gR : DL.Env -> Option D := (eOp addX (eSl (Za 1) xNoP (xP (Za 4))) (eSl (Za 1) (xP (eOp addX (Za 4) (eC (.int 1)))) xNoP))
noncomputable def gS : DL.Env -> Option D := (eOp subD (eC (.int 1)) (eOp mulX (eOp modW (Za 4) (eC (.int 2))) (eC (.int 2))))
noncomputable def g5 : DL.Env -> Option Out := (Zf 5 (eOp ixD (Za 2) (eOp ixD (Za 1) (Za 4))))
noncomputable def gM (m : List D -> Option D) : DL.Env -> Option Out := (sIf (xB (eOp neD (Za 5) (eC (.int 0)))) (Zf 5 (eOp mulX (Za 5) (Zp 2 m [] (Zb (Za 0) (Zb gR eNil))))) sNext)
noncomputable def g3 : DL.Env -> Option Out := (Zf 3 (eOp addX (Za 3) (eOp mulX (Za 5) gS)))
noncomputable def gB (m : List D -> Option D) : DL.Env -> Option Out := (Zd g5 (Zd (gM m) g3))
noncomputable def cI : DL.Env -> Option (List D) := (ZE (Zb (eCB lenD (Zb (Za 1) eNil)) eNil))
noncomputable def g0 : DL.Env -> Option Out := (sIf (xB (eOp eqD (eCB lenD (Zb (Za 1) eNil)) (eC (.int 0)))) (Zn (eC (.int 1))) sNext)
noncomputable def g2 : DL.Env -> Option Out := (Zf 2 (eOp ixD (Za 0) (eOp subD (eCB lenD (Zb (Za 0) eNil)) (eCB lenD (Zb (Za 1) eNil)))))
theorem ZcQ (m : List D -> Option D) : f_QH m = Zd g0 (Zd g2 (Zd (Zf 3 (eC (.int 0))) (Zd (ZP cI (Zq 4) (gB m)) (Zn (Za 3))))) := rfl
abbrev G6 (A : List (List Int)) (cols : List Nat) (v2 v3 v4 v5 : Option D) : DL.Env := [some (TD A), some (AD cols), v2, v3, v4, v5]
theorem Zho {α : Type} {xs : List α} {k : Nat} (h : k <= xs.length) : L2.cutL xs none (some (k : Int)) = xs.take k := by
 unfold L2.cutL
 have e1 : ZN xs.length 0 none = 0 := rfl
 have e2 : ZN xs.length xs.length (some (k : Int)) = k := by
  show (if (k : Int) < 0 then ((k : Int) + xs.length).toNat else min (k : Int).toNat xs.length) = k
  rw [if_neg (by omega)]
  omega
 rw [e1, e2, List.drop_zero, Nat.sub_zero]
theorem Zhp {α : Type} {xs : List α} {k : Nat} (h : k <= xs.length) : L2.cutL xs (some (k : Int)) none = xs.drop k := by
 unfold L2.cutL
 have e1 : ZN xs.length xs.length none = xs.length := rfl
 have e2 : ZN xs.length 0 (some (k : Int)) = k := by
  show (if (k : Int) < 0 then ((k : Int) + xs.length).toNat else min (k : Int).toNat xs.length) = k
  rw [if_neg (by omega)]
  omega
 rw [e1, e2, List.take_of_length_le (by rw [List.length_drop]; exact Nat.le_refl _)]
theorem Zgq (A : List (List Int)) {cols : List Nat} {k : Nat} (hk : k < cols.length) (hl : cols.length <= 4) (v2 v3 v5 : Option D) : gR (G6 A cols v2 v3 (some (nD k)) v5) = some (AD (cols.take k ++ cols.drop (k + 1))) := by
 have e1 : eSl (Za 1) xNoP (xP (Za 4)) (G6 A cols v2 v3 (some (nD k)) v5) = some (AD (cols.take k)) := by
  show some (D.lst (L2.cutL (cols.map nD) none (some (k : Int)))) = _
  rw [Zho (by rw [List.length_map]; omega), <- List.map_take]
 have e2 : eSl (Za 1) (xP (eOp addX (Za 4) (eC (.int 1)))) xNoP (G6 A cols v2 v3 (some (nD k)) v5) = some (AD (cols.drop (k + 1))) := by
  show some (D.lst (L2.cutL (cols.map nD) (some ((k : Int) + 1)) none)) = _
  rw [show ((k : Int) + 1) = ((k + 1 : Nat) : Int) by omega, Zhp (by rw [List.length_map]; omega), <- List.map_drop]
 refine (Zi e1 e2).trans ((JS (by rw [List.length_map, List.length_map, List.length_take, List.length_drop]; omega)).trans ?_)
 rw [<- List.map_append]
theorem Zgr (A : List (List Int)) (cols : List Nat) (k : Nat) (v2 v3 v5 : Option D) : gS (G6 A cols v2 v3 (some (nD k)) v5) = some (.int (1 - (k : Int) % 2 * 2)) := by
 have e1 : eOp modW (Za 4) (eC (.int 2)) (G6 A cols v2 v3 (some (nD k)) v5) = some (.int ((k : Int) % 2)) := (Zi (x := nD k) (y := .int 2) rfl rfl).trans ((X9 (by decide)).trans (by rw [Int.fmod_eq_emod_of_nonneg _ (by decide)]))
 exact (Zi (x := .int 1) rfl ((Zi (y := .int 2) e1 rfl).trans (QF (by decide) (by decide)))).trans (UT _ _)
def YJ (A : List (List Int)) (f : Nat) (cols : List Nat) (k : Nat) : Int := at2 A (A.length - (f + 1)) (cols.getD k 0) * lap A f (cols.take k ++ cols.drop (k + 1)) * (1 - (k : Int) % 2 * 2)
theorem J5 {S : List Nat} {i : Nat} (h : i < S.length) : ixD (AD S) (nD i) = some (nD (S.getD i 0)) := QG (by rw [List.getElem?_map, List.getElem?_eq_getElem h, List.getD_eq_getElem?_getD, List.getElem?_eq_getElem h]; rfl)
theorem ZaS {A : List (List Int)} {Mn e : Nat} (h : Sq Mn e A) (hM : Mn <= 4) (he : (e + 1) * 4 <= 900) : ∀ (f d : Nat) (cols : List Nat), cols.length = f -> f <= Mn -> f < d -> (∀ c ∈ cols, c < Mn) -> Vo d [TD A, AD cols] = some (.int (lap A f cols))
 | f, 0, cols, _, _, hd, _ => absurd hd (Nat.not_lt_zero _)
 | 0, d + 1, cols, hl, _, _, _ => by
  have hc : cols = [] := List.length_eq_zero_iff.mp hl
  subst hc
  exact Yh (δ := G6 A [] none none none none) rfl rfl
 | f + 1, d + 1, cols, hl, hf, hd, hc => by
  have hlen : eCB lenD (Zb (Za 1) eNil) (G6 A cols none none none none) = some (.int (cols.length : Int)) := (Z5 (Zj (x := AD cols) rfl nil_of)).trans (len_lst.trans (by rw [List.length_map]))
  have s0 : g0 (G6 A cols none none none none) = some (.nx (G6 A cols none none none none)) := (Yw (Z0 ((Zi (y := .int 0) hlen rfl).trans ((YS _ _).trans (by rw [decide_eq_false (by omega)]))))).trans rfl
  have hrow : A.length - (f + 1) < Mn := by rw [h.ln]; omega
  have s2 : g2 (G6 A cols none none none none) = some (.nx (G6 A cols (some (IL (A.getD (A.length - (f + 1)) []))) none none none)) := by
   refine ZB ((Zi (x := TD A) (y := nD (A.length - (f + 1))) rfl ((Zi (x := .int ((A.map IL).length : Int)) ((Z5 (Zj (x := TD A) rfl nil_of)).trans len_lst) hlen).trans ((UT _ _).trans ?_))).trans (J0 h hrow))
   refine congrArg (fun z => some (D.int z)) ?_
   rw [List.length_map, hl]
   have := h.ln
   omega
  obtain ⟨δ', hfor, w4, w5, e1⟩ := XX (γ := Zq 4) (φ := gB (Vo d)) (fun k δ => ∃ w4 w5, δ = G6 A cols (some (IL (A.getD (A.length - (f + 1)) []))) (some (.int (((List.range k).map (YJ A f cols)).sum))) w4 w5) (ZJ 0 1 (f + 1)) 0 (G6 A cols (some (IL (A.getD (A.length - (f + 1)) []))) (some (.int 0)) none none) ⟨none, none, rfl⟩ (by
   rintro k dd δ hdd ⟨w4, w5, rfl⟩
   obtain ⟨hk, rfl⟩ := UG hdd
   rw [Nat.zero_add]
   have hkl : k < cols.length := by omega
   have hck : cols.getD k 0 < Mn := by
    rw [List.getD_eq_getElem?_getD, List.getElem?_eq_getElem hkl]
    exact hc _ (List.getElem_mem _)
   have hcl : (cols.take k ++ cols.drop (k + 1)).length = f := by rw [List.length_append, List.length_take, List.length_drop]; omega
   have hcm : ∀ c ∈ cols.take k ++ cols.drop (k + 1), c < Mn := fun c hcc => by
    rcases List.mem_append.mp hcc with z | z
    · exact hc c (List.mem_of_mem_take z)
    · exact hc c (List.mem_of_mem_drop z)
   have b1 := UU h hrow hck
   have b2 := ZdR h hM f _ hcl (by omega) hcm
   have hf4 : (e + 1) * f <= (e + 1) * 4 := Nat.mul_le_mul_left _ (by omega)
   have ih := ZaS h hM he f d (cols.take k ++ cols.drop (k + 1)) hcl (by omega) (by omega) hcm
   have t5 : g5 (G6 A cols (some (IL (A.getD (A.length - (f + 1)) []))) (some (.int (((List.range k).map (YJ A f cols)).sum))) (some (nD k)) w5) = some (.nx (G6 A cols (some (IL (A.getD (A.length - (f + 1)) []))) (some (.int (((List.range k).map (YJ A f cols)).sum))) (some (nD k)) (some (.int (at2 A (A.length - (f + 1)) (cols.getD k 0)))))) := ZB ((Zi (x := IL (A.getD (A.length - (f + 1)) [])) (y := nD (cols.getD k 0)) rfl ((Zi (x := AD cols) (y := nD k) rfl rfl).trans (J5 hkl))).trans (J4 h hrow hck))
   have tM : gM (Vo d) (G6 A cols (some (IL (A.getD (A.length - (f + 1)) []))) (some (.int (((List.range k).map (YJ A f cols)).sum))) (some (nD k)) (some (.int (at2 A (A.length - (f + 1)) (cols.getD k 0))))) = some (.nx (G6 A cols (some (IL (A.getD (A.length - (f + 1)) []))) (some (.int (((List.range k).map (YJ A f cols)).sum))) (some (nD k)) (some (.int (at2 A (A.length - (f + 1)) (cols.getD k 0) * lap A f (cols.take k ++ cols.drop (k + 1))))))) := by
    generalize at2 A (A.length - (f + 1)) (cols.getD k 0) = p at b1
    have et : xB (eOp neD (Za 5) (eC (.int 0))) (G6 A cols (some (IL (A.getD (A.length - (f + 1)) []))) (some (.int (((List.range k).map (YJ A f cols)).sum))) (some (nD k)) (some (.int p))) = some (!decide (p = 0)) := Z0 ((Zi (x := .int p) (y := .int 0) rfl rfl).trans (XB _ _))
    by_cases hp : p = 0
    · rw [decide_eq_true hp] at et
      refine (Yw et).trans ?_
      rw [hp, Int.zero_mul]
      rfl
    · rw [decide_eq_false hp] at et
      have hd2 : Zb (Za 0) (Zb gR eNil) (G6 A cols (some (IL (A.getD (A.length - (f + 1)) []))) (some (.int (((List.range k).map (YJ A f cols)).sum))) (some (nD k)) (some (.int p))) = some [TD A, AD (cols.take k ++ cols.drop (k + 1))] := Zj rfl (Zj (Zgq A hkl (by omega) _ _ _) nil_of)
      exact (Xk et).trans (ZB ((Zi (x := .int p) rfl ((ZT hd2 rfl).trans ih)).trans (Vp b1 b2 (by omega) (by omega))))
   have t3 : g3 (G6 A cols (some (IL (A.getD (A.length - (f + 1)) []))) (some (.int (((List.range k).map (YJ A f cols)).sum))) (some (nD k)) (some (.int (at2 A (A.length - (f + 1)) (cols.getD k 0) * lap A f (cols.take k ++ cols.drop (k + 1)))))) = some (.nx (G6 A cols (some (IL (A.getD (A.length - (f + 1)) []))) (some (.int (((List.range k).map (YJ A f cols)).sum + YJ A f cols k))) (some (nD k)) (some (.int (at2 A (A.length - (f + 1)) (cols.getD k 0) * lap A f (cols.take k ++ cols.drop (k + 1))))))) := by
    refine ZB ((Zi (x := .int (((List.range k).map (YJ A f cols)).sum)) (y := .int (YJ A f cols k)) rfl ((Zi (x := .int (at2 A (A.length - (f + 1)) (cols.getD k 0) * lap A f (cols.take k ++ cols.drop (k + 1)))) rfl (Zgr A cols k _ _ _)).trans (QF (by omega) (by omega)))).trans (add_int _ _))
   refine ⟨G6 A cols (some (IL (A.getD (A.length - (f + 1)) []))) (some (.int (((List.range k).map (YJ A f cols)).sum))) (some (nD k)) w5, rfl, _, (Zr t5).trans ((Zr tM).trans t3), some (nD k), some (.int (at2 A (A.length - (f + 1)) (cols.getD k 0) * lap A f (cols.take k ++ cols.drop (k + 1)))), ?_⟩
   rw [List.range_succ, List.map_append, List.sum_append]
   simp)
  subst e1
  rw [QC, Nat.zero_add] at hfor
  have hi : cI (G6 A cols (some (IL (A.getD (A.length - (f + 1)) []))) (some (.int 0)) none none) = some (ZJ 0 1 (f + 1)) := by
   refine (XY (j := ((f + 1 : Nat) : Int)) (Zj ((Z5 (Zj (x := AD cols) rfl nil_of)).trans (len_lst.trans ?_)) nil_of) (by omega) (by omega)).trans (by rw [Int.toNat_natCast])
   rw [List.length_map, hl]
  refine Yh (δ := G6 A cols none none none none) rfl ?_
  rw [ZcQ, Zr s0, Zr s2, Zr (δ' := G6 A cols (some (IL (A.getD (A.length - (f + 1)) []))) (some (.int 0)) none none) (ZB rfl), Zr (YI hi hfor)]
  exact ZQ rfl
theorem ZbQ {A : List (List Int)} {Mn e : Nat} (h : Sq Mn e A) (hM : Mn <= 4) (he : (e + 1) * 4 <= 900) : UN [TD A] = some (.int (lap A Mn (List.range Mn))) := by
 have e0 : VR (Zb (eCB lenD (Zb (Za 0) eNil)) eNil) [some (TD A)] = some (AD (List.range Mn)) := by
  have e1 : Zb (eCB lenD (Zb (Za 0) eNil)) eNil [some (TD A)] = some [.int (Mn : Int)] := Zj ((Z5 (Zj (x := TD A) rfl nil_of)).trans (len_lst.trans (by rw [List.length_map, h.ln]))) nil_of
  unfold VR
  rw [e1]
  dsimp only
  rw [if_pos ⟨by omega, by omega⟩, Int.toNat_natCast]
 have hd : Zb (Za 0) (Zb (VR (Zb (eCB lenD (Zb (Za 0) eNil)) eNil)) eNil) [some (TD A)] = some [TD A, AD (List.range Mn)] := Zj rfl (Zj e0 nil_of)
 exact Yh (δ := [some (TD A)]) rfl (ZQ ((ZT hd rfl).trans (ZaS h hM he Mn 8 (List.range Mn) List.length_range (Nat.le_refl _) (by omega) fun c hc => List.mem_range.mp hc)))
end K27
namespace K27
open DL L2
theorem ZcR (i : Int) : UM [.int i] = some (.bl true) := by
 simp [UM, f_QB, QI, QH, DL.run, DL.runI, Zd, sIf, Zn, Uj, sNext, Zf, Ul, Uo, Uq, Uk, xB, bD, Z9, Ue, xOr, Za, eC, eOp, Yq, eOr, XQ, eIf, Yv, Uf, XR, Ug, eUn, Xw, eNil, Zb, Zz, Xe, eCB, lenD, Uh, Ui, Zp, Up, Ur, Um, eSl, xP, xNoP, addD, subD, Ub, Uc, Ud, Z3, ixD, isD, eBM, YA, XT, kind, plainKinds, YS, VU, Uy, VV, VW, VY, XB, Uz, UA, UB, UC, List.lookup, XL, CMul, PySem.sizeLine_eq, List.replicate]
noncomputable def qT : DL.Env -> Option Bool := xB (eOp neD (Za 1) (eC (.int 0)))
noncomputable def qB : DL.Env -> Option Out := (Zd (Zf 2 (eOp modW (Za 0) (Za 1))) (Zd (Zf 0 (Za 1)) (Zf 1 (Za 2))))
def mu : DL.Env -> Nat
 | [_, some (.int y), _] => y.natAbs
 | _ => 0
theorem Zfu (a b : Int) (v : Option D) : ∃ δ, YD qT qB [some (.int a), some (.int b), v] = some (.nx δ) /\ ∃ x w, δ = [some (.int x), some (.int 0), w] /\ x.natAbs = Int.gcd a b := by
 refine Zau (fun δ => ∃ x y v, δ = [some (.int x), some (.int y), v] /\ Int.gcd x y = Int.gcd a b) (fun δ => ∃ x w, δ = [some (.int x), some (.int 0), w] /\ x.natAbs = Int.gcd a b) mu ?_ _ ⟨a, b, v, rfl, rfl⟩
 intro δ ⟨x, y, v, e, hg⟩
 subst e
 by_cases hy : y = 0
 · subst hy
   refine .inl ⟨?_, x, v, rfl, ?_⟩
   · simp [qT, DL.run, DL.runI, Zd, sIf, Zn, Uj, sNext, Zf, Ul, Uo, Uq, Uk, xB, bD, Z9, Ue, xOr, Za, eC, eOp, Yq, eOr, XQ, eIf, Yv, Uf, XR, Ug, eUn, Xw, eNil, Zb, Zz, Xe, eCB, lenD, Uh, Ui, Zp, Up, Ur, Um, eSl, xP, xNoP, addD, subD, Ub, Uc, Ud, Z3, ixD, isD, eBM, YA, XT, kind, plainKinds, YS, VU, Uy, VV, VW, VY, XB, Uz, UA, UB, UC, List.lookup, XL, CMul, PySem.sizeLine_eq, List.replicate]
   · rw [<- hg, Int.gcd_zero_right]
 · refine .inr ⟨?_, [some (.int y), some (.int (x.fmod y)), some (.int (x.fmod y))], ?_, ⟨y, x.fmod y, _, rfl, ?_⟩, ?_⟩
   · simp [qT, hy, DL.run, DL.runI, Zd, sIf, Zn, Uj, sNext, Zf, Ul, Uo, Uq, Uk, xB, bD, Z9, Ue, xOr, Za, eC, eOp, Yq, eOr, XQ, eIf, Yv, Uf, XR, Ug, eUn, Xw, eNil, Zb, Zz, Xe, eCB, lenD, Uh, Ui, Zp, Up, Ur, Um, eSl, xP, xNoP, addD, subD, Ub, Uc, Ud, Z3, ixD, isD, eBM, YA, XT, kind, plainKinds, YS, VU, Uy, VV, VW, VY, XB, Uz, UA, UB, UC, List.lookup, XL, CMul, PySem.sizeLine_eq, List.replicate]
   · unfold qB
     rw [Zr (ZB (d := .int (x.fmod y)) ((Zi rfl rfl).trans (Zcc hy)))]
     rfl
   · rw [Zde, hg]
   · exact Zdd hy
theorem Zgs : f_QA = Zd (YD qT qB) (Zn (eCB absD (Zb (Za 0) eNil))) := rfl
theorem Zdg (x : Int) : (if x < 0 then -x else x) = (x.natAbs : Int) := by split <;> omega
theorem Zch (a b : Int) : Vn [.int a, .int b] = some (.int (Int.gcd a b : Nat)) := by
 obtain ⟨δ, h1, x, w, rfl, h2⟩ := Zfu a b none
 show run 3 f_QA _ = _
 rw [Zgs]
 unfold run
 rw [show ([D.int a, D.int b].map some ++ List.replicate (3 - [D.int a, D.int b].length) none) = [some (.int a), some (.int b), none] from rfl, Zr h1]
 rw [ZQ (d := .int (Int.gcd a b : Nat))]
 · show some (D.int (if x < 0 then -x else x)) = _
   rw [Zdg, h2]
theorem reduced {A B : Int} (hB : B ≠ 0) (hw : B.natAbs <= 10 ^ 1000) : ∃ c x y : Int, c ≠ 0 /\ A = c * x /\ B = c * y /\ 0 < y /\ Int.gcd x y = 1 /\ x.natAbs <= A.natAbs /\ y.natAbs <= B.natAbs /\ UI [.int A, .int B] = some (.tup [.int x, .int y]) := by
 have hg : 0 < Int.gcd A B := Int.gcd_pos_of_ne_zero_right _ hB
 have hqB : ((Int.gcd A B : Nat) : Int) ∣ B := Int.gcd_dvd_right ..
 have hgA : ((Int.gcd A B : Nat) : Int) ∣ A := Int.gcd_dvd_left ..
 have hgl : Int.gcd A B <= B.natAbs := Nat.le_of_dvd (by omega) (Int.natAbs_dvd_natAbs.mpr hqB)
 have hdiv := Zch A B
 generalize hG : Int.gcd A B = g at *
 have key : ∀ c : Int, (c = g \/ c = -g) -> (0 < B ↔ 0 < c) -> ∃ x y : Int, A = c * x /\ B = c * y /\ 0 < y /\ Int.gcd x y = 1 /\ x.natAbs <= A.natAbs /\ y.natAbs <= B.natAbs /\ A.fdiv c = x /\ B.fdiv c = y := by
  intro c hc hs
  have hc0 : c ≠ 0 := by omega
  have hca : c.natAbs = g := by omega
  have d1 : c ∣ A := hc.elim (fun e => e ▸ hgA) fun e => e ▸ Int.neg_dvd.mpr hgA
  have d2 : c ∣ B := hc.elim (fun e => e ▸ hqB) fun e => e ▸ Int.neg_dvd.mpr hqB
  obtain ⟨x, hx⟩ := d1
  obtain ⟨y, hy⟩ := d2
  have hy0 : y ≠ 0 := by rintro rfl; rw [Int.mul_zero] at hy; exact hB hy
  have hge : g * Int.gcd x y = g := by
   have := Int.gcd_mul_left c x y
   rw [<- hx, <- hy, hG, hca] at this
   exact this.symm
  refine ⟨x, y, hx, hy, ?_, ?_, ?_, ?_, ?_, ?_⟩
  · by_cases hB0 : 0 < B
    · have hcp := hs.mp hB0
      rw [hy] at hB0
      exact Int.pos_of_mul_pos_right (by rw [Int.mul_comm] at hB0; first | exact hB0 | (rw [Int.mul_comm]; exact hB0)) hcp
    · have hcn : c < 0 := by
       have : ¬ 0 < c := fun z => hB0 (hs.mpr z)
       omega
      rcases Int.lt_or_gt_of_ne hy0 with h | h
      · exact absurd (hy ▸ Int.mul_pos_of_neg_of_neg hcn h) hB0
      · exact h
  · exact Nat.eq_of_mul_eq_mul_left hg (by omega)
  · rw [hx, Int.natAbs_mul]; exact Nat.le_mul_of_pos_left _ (by omega)
  · rw [hy, Int.natAbs_mul]; exact Nat.le_mul_of_pos_left _ (by omega)
  · rw [hx]; exact Int.mul_fdiv_cancel_left _ hc0
  · rw [hy]; exact Int.mul_fdiv_cancel_left _ hc0
 have hcall : Zp 2 Vn [] (Zb (Za 0) (Zb (Za 1) eNil)) [some (.int A), some (.int B), none] = some (.int g) := (ZT rfl rfl).trans hdiv
 have wg : Wd (g : Int) := JR (by omega)
 have wg' : Wd (-(g : Int)) := JR (by omega)
 have start : ([D.int A, D.int B].map some ++ List.replicate (3 - [D.int A, D.int B].length) none) = [some (.int A), some (.int B), none] := rfl
 by_cases hn : B < 0
 · obtain ⟨x, y, h1, h2, h3, h4, h5, h6, h7, h8⟩ := key (-g) (.inr rfl) (by omega)
   refine ⟨-g, x, y, by omega, h1, h2, h3, h4, h5, h6, ?_⟩
   show run 3 f_QP _ = _
   unfold run f_QP
   rw [start, Zr (ZB hcall), Zr (δ' := [some (.int A), some (.int B), some (.int (-g))])]
   · rw [ZQ (d := .tup [.int x, .int y])]
     refine ZdK (ds := [.int x, .int y]) (Zj ?_ (Zj ?_ rfl)) (by simp)
     · rw [Zi (x := .int A) (y := .int (-g)) rfl rfl, UE (by omega) wg', h7]
     · rw [Zi (x := .int B) (y := .int (-g)) rfl rfl, UE (by omega) wg', h8]
   · rw [Xk (Z0 (b := true) _)]
     · rfl
     · show some (D.bl (decide (B < 0))) = _
       rw [decide_eq_true hn]
 · obtain ⟨x, y, h1, h2, h3, h4, h5, h6, h7, h8⟩ := key g (.inl rfl) (by omega)
   refine ⟨g, x, y, by omega, h1, h2, h3, h4, h5, h6, ?_⟩
   show run 3 f_QP _ = _
   unfold run f_QP
   rw [start, Zr (ZB hcall), Zr (δ' := [some (.int A), some (.int B), some (.int g)])]
   · rw [ZQ (d := .tup [.int x, .int y])]
     refine ZdK (ds := [.int x, .int y]) (Zj ?_ (Zj ?_ rfl)) (by simp)
     · rw [Zi (x := .int A) (y := .int g) rfl rfl, UE (by omega) wg, h7]
     · rw [Zi (x := .int B) (y := .int g) rfl rfl, UE (by omega) wg, h8]
   · rw [Yw (Z0 (b := false) _)]
     · rfl
     · show some (D.bl (decide (B < 0))) = _
       rw [decide_eq_false hn]
end K27
namespace K27
open DL L2
theorem bd3 {e : Nat} {x y z : Int} (h1 : Bd e x) (h2 : Bd e y) (h3 : Bd e z) : Bd (e + 1) (x - y + z) := by
 unfold Bd at *
 have := Int.natAbs_sub_le x y
 have := Int.natAbs_add_le (x - y) z
 rw [Nat.pow_succ]
 omega
theorem bd4 {e : Nat} {x y z w : Int} (h1 : Bd e x) (h2 : Bd e y) (h3 : Bd e z) (h4 : Bd e w) : Bd (e + 1) (x - y + z - w) := by
 unfold Bd at *
 have := Int.natAbs_sub_le x y
 have := Int.natAbs_add_le (x - y) z
 have := Int.natAbs_sub_le (x - y + z) w
 rw [Nat.pow_succ]
 omega
section
variable {b : Mt} (hb : ∀ i c, Bd 31 (b i c))
include hb
theorem UV (r s p q : Nat) : Bd 63 (e2 b r s p q) := Bd.sub ((hb _ _).mul (hb _ _)) ((hb _ _).mul (hb _ _))
theorem V4 (r s t p q u : Nat) : Bd 95 (e3 b r s t p q u) := bd3 ((hb _ _).mul (UV hb _ _ _ _)) ((hb _ _).mul (UV hb _ _ _ _)) ((hb _ _).mul (UV hb _ _ _ _))
theorem ZeU (r s t v p q u w : Nat) : Bd 127 (e4 b r s t v p q u w) := bd4 ((hb _ _).mul (V4 hb _ _ _ _ _ _)) ((hb _ _).mul (V4 hb _ _ _ _ _ _)) ((hb _ _).mul (V4 hb _ _ _ _ _ _)) ((hb _ _).mul (V4 hb _ _ _ _ _ _))
theorem UW (p i c : Nat) : Bd 127 (Mn p b i c) := by
 unfold Mn
 split <;> first | exact (hb _ _).mono (by decide) | exact (UV hb _ _ _ _).mono (by decide) | exact (V4 hb _ _ _ _ _ _).mono (by decide) | exact ZeU hb _ _ _ _ _ _ _ _ | exact Bd.zdet
theorem J6 (p : Nat) : Bd 127 (dm p b) := by
 unfold dm
 split <;> first | exact (hb _ _).mono (by decide) | exact (UV hb _ _ _ _).mono (by decide) | exact (V4 hb _ _ _ _ _ _).mono (by decide) | exact ZeU hb _ _ _ _ _ _ _ _ | exact Bd.zdet | exact (show (1 : Int).natAbs <= 10 ^ 127 by decide)
end
def piS (p q i : Nat) : Nat := if i = p then q else if i = q then p else i
theorem Zg2 (b : Mt) (p q i c : Nat) (hp : p < 4) (hq : q < 4) (hi : i < 4) (hpq : p <= q) : Mn p (swR b p q) i c = Mn p b (piS p q i) c := by
 rcases l4 hp with rfl | rfl | rfl | rfl <;> rcases l4 hq with rfl | rfl | rfl | rfl <;> first | (exfalso; omega) | (rcases l4 hi with rfl | rfl | rfl | rfl <;> rfl)
theorem Zhq (b : Mt) (p q : Nat) (hp : p < 4) (hq : q < 4) (hpq : p <= q) : dm p (swR b p q) = dm p b := by
 rcases l4 hp with rfl | rfl | rfl | rfl <;> rcases l4 hq with rfl | rfl | rfl | rfl <;> first | (exfalso; omega) | rfl
def Rw (m p : Nat) (b : Mt) (i : Nat) : List Int := (List.range (m + 1 - p)).map fun c => Mn p b i (c + p)
def RR (m p : Nat) (b : Mt) (k : Nat) : List (List Int) := (List.range k).map (Rw m p b)
theorem J7 (m p : Nat) (b : Mt) (i : Nat) : (Rw m p b i).length = m + 1 - p := by unfold Rw; rw [List.length_map, List.length_range]
theorem J8 (m p : Nat) (b : Mt) (k : Nat) : (RR m p b k).length = k := by unfold RR; rw [List.length_map, List.length_range]
theorem Zhr {m p : Nat} (b : Mt) (i : Nat) (hp : p <= m) : (Rw m p b i).getD 0 0 = Mn p b i p := by
 unfold Rw
 rw [show m + 1 - p = (m - p) + 1 by omega, List.range_succ_eq_map, List.map_cons]
 show Mn p b i (0 + p) = _
 rw [Nat.zero_add]
theorem Zbv {α : Type} (n : Nat) (f : Nat -> α) : ((List.range (n + 1)).map f).drop 1 = (List.range n).map fun c => f (c + 1) := by
 rw [List.range_succ_eq_map, List.map_cons, List.drop_succ_cons, List.drop_zero, List.map_map]
 rfl
theorem UX {m p : Nat} {b : Mt} {k i : Nat} (hi : i < k) : ixD (TD (RR m p b k)) (nD i) = some (IL (Rw m p b i)) := QG (by
 unfold RR
 rw [List.getElem?_map, List.getElem?_map, List.getElem?_range hi]
 rfl)
theorem UY {m p : Nat} {b : Mt} {i : Nat} (hp : p <= m) : ixD (IL (Rw m p b i)) (.int 0) = some (.int (Mn p b i p)) := by
 rw [ix0 (by rw [J7]; omega), Zhr b i hp]
theorem fdx {x y z : Int} (hy : y ≠ 0) (h : x = y * z) : x.fdiv y = z := by
 rw [h, Int.mul_fdiv_cancel_left _ hy]
theorem ZaT {α : Type} {γ : D -> DL.Env -> Option DL.Env} {τ : DL.Env -> Option Bool} {ε : DL.Env -> Option D} {δ0 : DL.Env} (g : α -> D) (p : α -> Bool) : ∀ (xs : List α), (∀ x ∈ xs, ∃ δ1, γ (g x) δ0 = some δ1 /\ τ δ1 = some (p x) /\ ε δ1 = some (g x)) -> ZX γ τ ε δ0 (xs.map g) = some ((xs.filter p).map g)
 | [], _ => rfl
 | x :: xs, h => by
  obtain ⟨δ1, h1, h2, h3⟩ := h x List.mem_cons_self
  have ih := ZaT g p xs fun y hy => h y (List.mem_cons_of_mem _ hy)
  rw [List.map_cons]
  unfold ZX
  rw [h1]
  dsimp only
  rw [h2]
  cases hp : p x with
  | false => rw [List.filter_cons_of_neg (by simp [hp])]; exact ih
  | true =>
   rw [List.filter_cons_of_pos hp, List.map_cons]
   dsimp only
   rw [h3, ih]
noncomputable def tT : DL.Env -> Option Bool := (xB (eOp neD (eOp ixD (eOp ixD (Za 1) (Za 0)) (eC (.int 0))) (eC (.int 0))))
noncomputable def tF : DL.Env -> Option D := (ZO (ZE (Zb (Za 1) (Zb (eCB lenD (Zb (Za 0) eNil)) eNil))) (Zq 0) tT (Za 0) 1 [0])
noncomputable def tR : DL.Env -> Option D := (eIf (xB (eOp (Z3 fun i j => decide (j < i)) (eCB lenD (Zb (Za 2) eNil)) (eC (.int 0)))) (eOp ixD (Za 2) (eC (.int 0))) (eC .non))
theorem Zci : f_QF = Zd (Zf 2 tF) (Zn tR) := rfl
theorem Zel {m p : Nat} (b : Mt) (hm : m <= 4) (hp : p < m) : (UJ [TD (RR m p b m), nD p] = some .non /\ ∀ i, p <= i -> i < m -> Mn p b i p = 0) \/ ∃ q, p <= q /\ q < m /\ Mn p b q p ≠ 0 /\ UJ [TD (RR m p b m), nD p] = some (nD q) := by
 have hi : ZE (Zb (Za 1) (Zb (eCB lenD (Zb (Za 0) eNil)) eNil)) [some (TD (RR m p b m)), some (nD p), none] = some ((List.range' p (m - p)).map nD) := by
  have e1 : ZE (Zb (Za 1) (Zb (eCB lenD (Zb (Za 0) eNil)) eNil)) [some (TD (RR m p b m)), some (nD p), none] = some (ZJ p 1 (m - p)) := by
   refine (ZdL (i := (p : Int)) (j := (m : Int)) (Zj rfl (Zj ((Z5 (Zj (x := TD (RR m p b m)) rfl nil_of)).trans (len_lst.trans ?_)) nil_of)) (by omega) (by omega) (by omega) (by omega)).trans (by rw [show ((m : Int) - p).toNat = m - p by omega])
   rw [List.length_map, J8]
  rw [e1]
  unfold ZJ
  rw [List.range'_eq_map_range, List.map_map]
  refine congrArg some (List.map_congr_left fun k _ => ?_)
  show D.int ((p : Int) + (k : Int) * 1) = D.int ((p + k : Nat) : Int)
  exact congrArg D.int (by omega)
 have hc : ZX (Zq 0) tT (Za 0) [none, some (TD (RR m p b m))] ((List.range' p (m - p)).map nD) = some (((List.range' p (m - p)).filter fun i => !decide (Mn p b i p = 0)).map nD) := ZaT nD (fun i => !decide (Mn p b i p = 0)) _ fun i hi => ⟨[some (nD i), some (TD (RR m p b m))], rfl, by
  obtain ⟨j, hj, rfl⟩ := List.mem_range'.mp hi
  exact Z0 ((Zi (y := .int 0) ((Zi (y := .int 0) ((Zi (x := TD (RR m p b m)) (y := nD (p + 1 * j)) rfl rfl).trans (UX (by omega))) rfl).trans (UY (by omega))) rfl).trans (XB _ _)), rfl⟩
 have hl : ((List.range' p (m - p)).filter fun i => !decide (Mn p b i p = 0)).length <= m - p := by
  have := List.length_filter_le (fun i => !decide (Mn p b i p = 0)) (List.range' p (m - p))
  rwa [List.length_range'] at this
 have hmem : ∀ i, i ∈ ((List.range' p (m - p)).filter fun i => !decide (Mn p b i p = 0)) ↔ (p <= i /\ i < m) /\ Mn p b i p ≠ 0 := fun i => by
  rw [List.mem_filter, List.mem_range'_1]
  simp
  omega
 generalize ((List.range' p (m - p)).filter fun i => !decide (Mn p b i p = 0)) = fit at *
 have t1 : Zf 2 tF [some (TD (RR m p b m)), some (nD p), none] = some (.nx [some (TD (RR m p b m)), some (nD p), some (AD fit)]) := ZB (YT hi rfl hc (by rw [List.length_map]; omega))
 cases fit with
 | nil =>
  refine .inl ⟨Yh (δ := [some (TD (RR m p b m)), some (nD p), none]) rfl ?_, fun i h1 h2 => ?_⟩
  · rw [Zci, Zr t1]
    exact ZQ rfl
  · refine Classical.byContradiction fun hz => ?_
    exact absurd ((hmem i).mpr ⟨⟨h1, h2⟩, hz⟩) (List.not_mem_nil)
 | cons q fit =>
  obtain ⟨⟨h1, h2⟩, h3⟩ := (hmem q).mp List.mem_cons_self
  refine .inr ⟨q, h1, h2, h3, Yh (δ := [some (TD (RR m p b m)), some (nD p), none]) rfl ?_⟩
  rw [Zci, Zr t1]
  refine ZQ ?_
  have et : xB (eOp (Z3 fun i j => decide (j < i)) (eCB lenD (Zb (Za 2) eNil)) (eC (.int 0))) [some (TD (RR m p b m)), some (nD p), some (AD (q :: fit))] = some true := Z0 ((Zi (x := .int (((q :: fit).map nD).length : Int)) (y := .int 0) ((Z5 (Zj (x := AD (q :: fit)) rfl nil_of)).trans len_lst) rfl).trans (show some (D.bl (decide ((0 : Int) < (((q :: fit).map nD).length : Int)))) = some (.bl true) by rw [decide_eq_true (by rw [List.length_map, List.length_cons]; omega)]))
  unfold tR eIf
  rw [et]
  exact (Zi (x := AD (q :: fit)) (y := nD 0) rfl rfl).trans (J5 (by rw [List.length_cons]; omega))
theorem QS {xs : List D} : YH [.lst xs] = some (.lst xs) := rfl
theorem Zcj {i : Nat} {κ ε : DL.Env -> Option D} {δ : DL.Env} {xs : List D} {k : Nat} {x : D} (hk : k < xs.length) (hv : Za i δ = some (.lst xs)) (h1 : κ δ = some (nD k)) (h2 : ε δ = some x) : YR i κ ε δ = some (.nx (δ.set i (some (.lst (xs.set k x))))) := by
 unfold YR
 rw [h2, hv, h1]
 dsimp only
 rw [Zce hk]
theorem ZcS {α : Type} (m p q : Nat) (f : Nat -> α) (hp : p < m) (hq : q < m) : (((List.range m).map f).set q (f p)).set p (f q) = (List.range m).map fun i => f (piS p q i) := by
 apply List.ext_getElem?
 intro i
 by_cases hi : i < m
 · have e2 : ((List.range m).map fun i => f (piS p q i))[i]? = some (f (piS p q i)) := by rw [List.getElem?_map, List.getElem?_range hi]; rfl
   rw [e2]
   unfold piS
   by_cases h1 : i = p
   · subst h1
     rw [if_pos rfl, List.getElem?_set_self (by rw [List.length_set, List.length_map, List.length_range]; exact hi)]
   · rw [if_neg h1, List.getElem?_set_ne (fun z => h1 z.symm)]
     by_cases h2 : i = q
     · subst h2
       rw [if_pos rfl, List.getElem?_set_self (by rw [List.length_map, List.length_range]; exact hi)]
     · rw [if_neg h2, List.getElem?_set_ne (fun z => h2 z.symm), List.getElem?_map, List.getElem?_range hi]
       rfl
 · rw [List.getElem?_eq_none (by rw [List.length_set, List.length_set, List.length_map, List.length_range]; omega), List.getElem?_eq_none (by rw [List.length_map, List.length_range]; omega)]
theorem Zem {m p q : Nat} (b : Mt) (hm : m <= 4) (hp : p < m) (hq : q < m) (hpq : p <= q) : UK [TD (RR m p b m), nD q, nD p] = some (TD (RR m p (swR b p q) m)) := by
 have hl : ((RR m p b m).map IL).length = m := by rw [List.length_map, J8]
 have t1 : Zf 3 (eCB YH (Zb (Za 0) eNil)) [some (TD (RR m p b m)), some (nD q), some (nD p), none] = some (.nx [some (TD (RR m p b m)), some (nD q), some (nD p), some (TD (RR m p b m))]) := ZB ((Z5 (Zj (x := TD (RR m p b m)) rfl nil_of)).trans QS)
 have t2 : YR 3 (Za 1) (eOp ixD (Za 0) (Za 2)) [some (TD (RR m p b m)), some (nD q), some (nD p), some (TD (RR m p b m))] = some (.nx [some (TD (RR m p b m)), some (nD q), some (nD p), some (.lst (((RR m p b m).map IL).set q (IL (Rw m p b p))))]) := Zcj (k := q) (by rw [hl]; exact hq) rfl rfl ((Zi (x := TD (RR m p b m)) (y := nD p) rfl rfl).trans (UX hp))
 have t3 : YR 3 (Za 2) (eOp ixD (Za 0) (Za 1)) [some (TD (RR m p b m)), some (nD q), some (nD p), some (.lst (((RR m p b m).map IL).set q (IL (Rw m p b p))))] = some (.nx [some (TD (RR m p b m)), some (nD q), some (nD p), some (.lst ((((RR m p b m).map IL).set q (IL (Rw m p b p))).set p (IL (Rw m p b q))))]) := Zcj (k := p) (by rw [List.length_set, hl]; exact hp) rfl rfl ((Zi (x := TD (RR m p b m)) (y := nD q) rfl rfl).trans (UX hq))
 have e : (((RR m p b m).map IL).set q (IL (Rw m p b p))).set p (IL (Rw m p b q)) = (RR m p (swR b p q) m).map IL := by
  unfold RR
  rw [List.map_map, List.map_map]
  rw [show IL (Rw m p b p) = (IL ∘ Rw m p b) p from rfl, show IL (Rw m p b q) = (IL ∘ Rw m p b) q from rfl, ZcS m p q (IL ∘ Rw m p b) hp hq]
  refine List.map_congr_left fun i hi => ?_
  have hi := List.mem_range.mp hi
  show IL (Rw m p b (piS p q i)) = IL (Rw m p (swR b p q) i)
  unfold Rw
  refine congrArg IL (List.map_congr_left fun c _ => ?_)
  exact (Zg2 b p q i (c + p) (by omega) (by omega) (by omega) hpq).symm
 refine Yh (δ := [some (TD (RR m p b m)), some (nD q), some (nD p), none]) rfl ?_
 show (Zd _ (Zd _ (Zd _ _))) _ = _
 rw [Zr t1, Zr t2, Zr t3, e]
 exact ZQ rfl
end K27
namespace K27
open DL L2
theorem Zdh (m : Nat) (f : Nat -> D) : Y3 0 ((List.range m).map f) = (List.range m).map fun i => .tup [nD i, f i] := by
 apply List.ext_getElem?
 intro i
 rw [JE, List.getElem?_map, List.getElem?_map, Nat.zero_add]
 by_cases hi : i < m
 · rw [List.getElem?_range hi]; rfl
 · rw [List.getElem?_eq_none (by rw [List.length_range]; omega)]; rfl
noncomputable def cE : DL.Env -> Option D := (eOp fdivW (eOp subD (eOp mulX (eOp ixD (Za 2) (eC (.int 0))) (Za 0)) (eOp mulX (eOp ixD (Za 3) (eC (.int 0))) (Za 1))) (Za 4))
noncomputable def cX : DL.Env -> Option D := (ZO (ZU (eSl (Za 7) (xP (eC (.int 1))) xNoP)) (Xf 2 (Yl 0 (Yl 1 gsNil))) (fun _ => some true) cE 2 [3, 6, 2])
noncomputable def cB : DL.Env -> Option Out := (sIf (xB (eOp eqD (Za 5) (Za 1))) (Z4 4 (eSl (Za 6) (xP (eC (.int 1))) xNoP)) (Zd (Zf 7 (Uw (Za 6) (Za 3))) (Z4 4 cX)))
noncomputable def cG : D -> DL.Env -> Option DL.Env := (Xf 2 (Yl 5 (Yl 6 gsNil)))
theorem Zdi : f_QQ = Zd (Zf 3 (eOp ixD (Za 0) (Za 1))) (Zd (Zf 4 (Zz eNil)) (Zd (ZP (Us 0 (Za 0)) cG cB) (Zn (Za 4)))) := rfl
abbrev C8 (R : List (List Int)) (p : Nat) (d : Int) (v3 v4 v5 v6 v7 : Option D) : DL.Env := [some (TD R), some (nD p), some (.int d), v3, v4, v5, v6, v7]
section
variable {m p : Nat} {b : Mt}
theorem Zgt (hb : ∀ i c, Bd 31 (b i c)) (hm : m <= 4) (hp : p < m) (hd : dm p b ≠ 0) {i : Nat} (hi : i < m) (hn : i ≠ p) (c : Nat) : cE [some (.int (Mn p b i c)), some (.int (Mn p b p c)), some (IL (Rw m p b p)), some (IL (Rw m p b i)), some (.int (dm p b))] = some (.int (Mn (p + 1) b i c)) := by
 have h1 : eOp mulX (eOp ixD (Za 2) (eC (.int 0))) (Za 0) [some (.int (Mn p b i c)), some (.int (Mn p b p c)), some (IL (Rw m p b p)), some (IL (Rw m p b i)), some (.int (dm p b))] = some (.int (Mn p b p p * Mn p b i c)) := (Zi (y := .int (Mn p b i c)) ((Zi (x := IL (Rw m p b p)) (y := .int 0) rfl rfl).trans (UY (by omega))) rfl).trans (Vp (UW hb _ _ _) (UW hb _ _ _) (by decide) (by decide))
 have h2 : eOp mulX (eOp ixD (Za 3) (eC (.int 0))) (Za 1) [some (.int (Mn p b i c)), some (.int (Mn p b p c)), some (IL (Rw m p b p)), some (IL (Rw m p b i)), some (.int (dm p b))] = some (.int (Mn p b i p * Mn p b p c)) := (Zi (y := .int (Mn p b p c)) ((Zi (x := IL (Rw m p b i)) (y := .int 0) rfl rfl).trans (UY (by omega))) rfl).trans (Vp (UW hb _ _ _) (UW hb _ _ _) (by decide) (by decide))
 refine (Zi (y := .int (dm p b)) ((Zi h1 h2).trans (UT _ _)) rfl).trans ((US (J6 hb p) (by decide) hd).trans ?_)
 have hs := UR p (by omega) b i (by omega) hn c
 rw [<- frM p (by omega) b] at hs
 rw [fdx hd hs]
theorem Zgu (hb : ∀ i c, Bd 31 (b i c)) (hm : m <= 4) (hp : p < m) (hd : dm p b ≠ 0) {i : Nat} (hi : i < m) (hn : i ≠ p) (R : List (List Int)) (v4 v5 : Option D) : cX (C8 R p (dm p b) (some (IL (Rw m p b p))) v4 v5 (some (IL (Rw m p b i))) (some (.lst (((Rw m p b i).zip (Rw m p b p)).map prD)))) = some (IL (Rw m (p + 1) b i)) := by
 have hz : ((Rw m p b i).zip (Rw m p b p)).map prD = (List.range (m - p + 1)).map fun c => prD (Mn p b i (c + p), Mn p b p (c + p)) := by
  unfold Rw
  rw [List.zip_map', List.map_map, show m + 1 - p = m - p + 1 by omega]
  rfl
 have hc : ZX (Xf 2 (Yl 0 (Yl 1 gsNil))) (fun _ => some true) cE [none, none, some (IL (Rw m p b p)), some (IL (Rw m p b i)), some (.int (dm p b))] ((List.range (m - p)).map fun c => prD (Mn p b i (c + 1 + p), Mn p b p (c + 1 + p))) = some ((List.range (m - p)).map fun c => D.int (Mn (p + 1) b i (c + 1 + p))) := YW (fun c => prD (Mn p b i (c + 1 + p), Mn p b p (c + 1 + p))) (fun c => D.int (Mn (p + 1) b i (c + 1 + p))) _ fun c _ => ⟨[some (.int (Mn p b i (c + 1 + p))), some (.int (Mn p b p (c + 1 + p))), some (IL (Rw m p b p)), some (IL (Rw m p b i)), some (.int (dm p b))], rfl, Zgt hb hm hp hd hi hn _⟩
 refine (YT (xs := (List.range (m - p)).map fun c => prD (Mn p b i (c + 1 + p), Mn p b p (c + 1 + p))) (Xn ((ZdP (xs := (List.range (m - p + 1)).map fun c => prD (Mn p b i (c + p), Mn p b p (c + p))) (by rw [<- hz]; rfl) (by rw [List.length_map, List.length_range]; omega)).trans (by rw [Zbv]))) rfl hc (by rw [List.length_map, List.length_range]; omega)).trans ?_
 unfold Rw
 rw [IL, List.map_map, show m + 1 - (p + 1) = m - p by omega]
 refine congrArg (fun z => some (D.lst z)) (List.map_congr_left fun c _ => ?_)
 show D.int (Mn (p + 1) b i (c + 1 + p)) = D.int (Mn (p + 1) b i (c + (p + 1)))
 rw [show c + 1 + p = c + (p + 1) by omega]
theorem Zfv (hm : m <= 4) (hp : p < m) : (Rw m p b p).drop 1 = Rw m (p + 1) b p := by
 unfold Rw
 rw [show m + 1 - p = m - p + 1 by omega, Zbv, show m + 1 - (p + 1) = m - p by omega]
 refine List.map_congr_left fun c _ => ?_
 rw [JW p (by omega), show c + 1 + p = c + (p + 1) by omega]
theorem Zdj (hb : ∀ i c, Bd 31 (b i c)) (hm : m <= 4) (hp : p < m) (hd : dm p b ≠ 0) : QK [TD (RR m p b m), nD p, .int (dm p b)] = some (TD (RR m (p + 1) b m)) := by
 have hiot : Us 0 (Za 0) (C8 (RR m p b m) p (dm p b) (some (IL (Rw m p b p))) (some (TD [])) none none none) = some ((List.range m).map fun i => .tup [nD i, IL (Rw m p b i)]) := by
  have e : (RR m p b m).map IL = (List.range m).map fun i => IL (Rw m p b i) := by unfold RR; rw [List.map_map]; rfl
  show some (Y3 0 ((RR m p b m).map IL)) = _
  rw [e, Zdh]
 obtain ⟨δ', g, w5, w6, w7, e1⟩ := XX (γ := cG) (φ := cB) (fun k δ => ∃ w5 w6 w7, δ = C8 (RR m p b m) p (dm p b) (some (IL (Rw m p b p))) (some (TD (RR m (p + 1) b k))) w5 w6 w7) ((List.range m).map fun i => .tup [nD i, IL (Rw m p b i)]) 0 (C8 (RR m p b m) p (dm p b) (some (IL (Rw m p b p))) (some (TD [])) none none none) ⟨none, none, none, rfl⟩ (by
  rintro k d δ hdd ⟨w5, w6, w7, rfl⟩
  rw [Nat.zero_add]
  have hk : k < m := by
   have := (List.getElem?_eq_some_iff.mp hdd).1
   rwa [List.length_map, List.length_range] at this
  rw [List.getElem?_map, List.getElem?_range hk] at hdd
  cases hdd
  have hl : ((RR m (p + 1) b k).map IL).length < 1000 := by rw [List.length_map, J8]; omega
  have em : (RR m (p + 1) b k).map IL ++ [IL (Rw m (p + 1) b k)] = (RR m (p + 1) b (k + 1)).map IL := by
   unfold RR
   rw [List.range_succ, List.map_append, List.map_append]
   rfl
  refine ⟨C8 (RR m p b m) p (dm p b) (some (IL (Rw m p b p))) (some (TD (RR m (p + 1) b k))) (some (nD k)) (some (IL (Rw m p b k))) w7, rfl, ?_⟩
  have et : ∀ w7, xB (eOp eqD (Za 5) (Za 1)) (C8 (RR m p b m) p (dm p b) (some (IL (Rw m p b p))) (some (TD (RR m (p + 1) b k))) (some (nD k)) (some (IL (Rw m p b k))) w7) = some (decide ((k : Int) = (p : Int))) := fun w7 => Z0 ((Zi (x := nD k) (y := nD p) rfl rfl).trans (YS _ _))
  by_cases hkp : k = p
  · subst hkp
    have e6 : eSl (Za 6) (xP (eC (.int 1))) xNoP (C8 (RR m k b m) k (dm k b) (some (IL (Rw m k b k))) (some (TD (RR m (k + 1) b k))) (some (nD k)) (some (IL (Rw m k b k))) w7) = some (IL (Rw m (k + 1) b k)) := (ZdP (xs := (Rw m k b k).map D.int) rfl (by rw [List.length_map, J7]; omega)).trans (by rw [<- List.map_drop, Zfv hm hp])
    refine ⟨_, (Xk (by rw [et, decide_eq_true rfl])).trans (Vm (xs := (RR m (k + 1) b k).map IL) rfl e6 (by omega)), some (nD k), some (IL (Rw m k b k)), w7, ?_⟩
    rw [em]
    rfl
  · have e7 : Zf 7 (Uw (Za 6) (Za 3)) (C8 (RR m p b m) p (dm p b) (some (IL (Rw m p b p))) (some (TD (RR m (p + 1) b k))) (some (nD k)) (some (IL (Rw m p b k))) w7) = some (.nx (C8 (RR m p b m) p (dm p b) (some (IL (Rw m p b p))) (some (TD (RR m (p + 1) b k))) (some (nD k)) (some (IL (Rw m p b k))) (some (.lst (((Rw m p b k).zip (Rw m p b p)).map prD))))) := by
     refine ZB ?_
     show (if ((Rw m p b k).map D.int).length <= PySem.sizeLine then some (D.lst (Yb ((Rw m p b k).map D.int) ((Rw m p b p).map D.int))) else none) = _
     rw [if_pos (by rw [PySem.sizeLine_eq, List.length_map, J7]; omega), ZaR]
    refine ⟨_, (Yw (by rw [et, decide_eq_false (by omega)])).trans ((Zr e7).trans (Vm (xs := (RR m (p + 1) b k).map IL) rfl (Zgu hb hm hp hd hk hkp _ _ _) (by omega))), some (nD k), some (IL (Rw m p b k)), some (.lst (((Rw m p b k).zip (Rw m p b p)).map prD)), ?_⟩
    rw [em]
    rfl)
 subst e1
 rw [List.length_map, List.length_range, Nat.zero_add] at g
 refine Yh (δ := C8 (RR m p b m) p (dm p b) none none none none none) rfl ?_
 have t1 : Zf 3 (eOp ixD (Za 0) (Za 1)) (C8 (RR m p b m) p (dm p b) none none none none none) = some (.nx (C8 (RR m p b m) p (dm p b) (some (IL (Rw m p b p))) none none none none)) := ZB ((Zi (x := TD (RR m p b m)) (y := nD p) rfl rfl).trans (UX hp))
 have t2 : Zf 4 (Zz eNil) (C8 (RR m p b m) p (dm p b) (some (IL (Rw m p b p))) none none none none) = some (.nx (C8 (RR m p b m) p (dm p b) (some (IL (Rw m p b p))) (some (TD [])) none none none)) := ZB rfl
 rw [Zdi, Zr t1, Zr t2, Zr (YI hiot g)]
 exact ZQ rfl
end
end K27
namespace K27
open DL L2
theorem Zck {γ : D -> DL.Env -> Option DL.Env} {φ : DL.Env -> Option Out} (I : Nat -> DL.Env -> Prop) (Rp : D -> Prop) : ∀ (xs : List D) (k : Nat) (δ : DL.Env), I k δ ->
 (∀ (j : Nat) (x : D) (δ : DL.Env), xs[j]? = some x -> I (k + j) δ -> ∃ δ1, γ x δ = some δ1 /\ ((∃ δ2, φ δ1 = some (.nx δ2) /\ I (k + j + 1) δ2) \/ ∃ d, φ δ1 = some (.rt d) /\ Rp d)) -> (∃ δ', Yf γ φ xs δ = some (.nx δ') /\ I (k + xs.length) δ') \/ ∃ d, Yf γ φ xs δ = some (.rt d) /\ Rp d
 | [], k, δ, h, _ => .inl ⟨δ, rfl, h⟩
 | x :: xs, k, δ, h, st => by
  obtain ⟨δ1, h1, h2⟩ := st 0 x δ rfl h
  unfold Yf
  rw [h1]
  dsimp only
  rcases h2 with ⟨δ2, h3, h4⟩ | ⟨d, h3, h4⟩
  · rw [h3]
    have := Zck I Rp xs (k + 1) δ2 h4 fun j y δ hy hI => by
     have := st (j + 1) y δ hy (by rw [show k + (j + 1) = k + 1 + j by omega]; exact hI)
     rw [show k + (j + 1) = k + 1 + j by omega] at this
     exact this
    rw [show k + 1 + xs.length = k + (x :: xs).length by rw [List.length_cons]; omega] at this
    exact this
  · rw [h3]
    exact .inr ⟨d, rfl, h4⟩
def b0 (T : List (List Int)) (R : List Int) (m : Nat) : Mt := fun i j => if j = m then R.getD i 0 else at2 T i j
structure Tb (m : Nat) (T : List (List Int)) (R : List Int) : Prop where
 m1 : 1 <= m
 m4 : m <= 4
 sq : Sq m 31 T
 rl : R.length = m
 rb : ∀ x ∈ R, Bd 31 x
theorem QT {α : Type} (z : α) (l : List α) : (List.range l.length).map (fun j => l.getD j z) = l := by
 refine List.ext_getElem (by rw [List.length_map, List.length_range]) fun i h1 h2 => ?_
 rw [List.getElem_map, List.getElem_range, List.getD_eq_getElem?_getD, List.getElem?_eq_getElem h2]
 rfl
theorem Zcl {l : List Int} {e : Nat} (h : ∀ x ∈ l, Bd e x) (i : Nat) : Bd e (l.getD i 0) := by
 by_cases hi : i < l.length
 · exact h _ (JZ hi)
 · rw [List.getD_eq_getElem?_getD, List.getElem?_eq_none (by omega)]
   exact Bd.zdet
theorem ZaU {α : Type} (f g : α -> D) : ∀ l : List α, Yb (l.map f) (l.map g) = l.map fun x => .tup [f x, g x]
 | [] => rfl
 | x :: l => by rw [List.map_cons, List.map_cons, Yb, ZaU f g l, List.map_cons]
section
variable {m : Nat} {T : List (List Int)} {R : List Int}
theorem Zgv (h : Tb m T R) (i c : Nat) : Bd 31 (b0 T R m i c) := by
 unfold b0
 split
 · exact Zcl h.rb i
 · unfold at2
   by_cases hi : i < m
   · exact Zcl (h.sq.bd _ (h.sq.row hi).2) c
   · rw [show T.getD i [] = [] by rw [List.getD_eq_getElem?_getD, List.getElem?_eq_none (by rw [h.sq.ln]; omega)]; rfl]
     exact Bd.zdet
theorem Zhs (h : Tb m T R) {i : Nat} (hi : i < m) : T.getD i [] ++ [R.getD i 0] = Rw m 0 (b0 T R m) i := by
 have hl := h.sq.rw _ (h.sq.row hi).2
 unfold Rw
 rw [show m + 1 - 0 = m + 1 by omega, List.range_succ, List.map_append]
 have e1 : (List.range m).map (fun c => Mn 0 (b0 T R m) i (c + 0)) = T.getD i [] := by
  have := QT 0 (T.getD i [])
  rw [hl] at this
  rw [<- this]
  refine List.map_congr_left fun c hc => ?_
  have hc := List.mem_range.mp hc
  show (if c = m then _ else _) = _
  rw [if_neg (by omega)]
  rfl
 have e2 : [m].map (fun c => Mn 0 (b0 T R m) i (c + 0)) = [R.getD i 0] := by
  show [if m = m then R.getD i 0 else _] = _
  rw [if_pos rfl]
 rw [e1, e2]
noncomputable def sE : DL.Env -> Option D := (eOp addX (eCB YH (Zb (Za 0) eNil)) (Zz (Zb (Za 1) eNil)))
noncomputable def sC : DL.Env -> Option D := (ZO (Uv (Za 0) (Za 1)) (Xf 2 (Yl 0 (Yl 1 gsNil))) (fun _ => some true) sE 2 [])
noncomputable def s5 : DL.Env -> Option Out := (Zf 5 (Zp 2 UJ [] (Zb (Za 2) (Zb (Za 4) eNil))))
noncomputable def s6 : DL.Env -> Option Out := (sIf (xB (Yv (Za 5))) (Zn (eC .non)) sNext)
noncomputable def s7 : DL.Env -> Option Out := (Zf 6 (eOp ixD (eOp ixD (Za 2) (Za 5)) (eC (.int 0))))
noncomputable def s8 : DL.Env -> Option Out := (Zf 2 (Zp 3 QK [] (Zb (Zp 3 UK [] (Zb (Za 2) (Zb (Za 5) (Zb (Za 4) eNil)))) (Zb (Za 4) (Zb (Za 3) eNil)))))
noncomputable def sB : DL.Env -> Option Out := (Zd s5 (Zd s6 (Zd s7 (Zd s8 (Zf 3 (Za 6))))))
noncomputable def sR : DL.Env -> Option D := (Zp 2 UI [] (Zb (eOp ixD (Za 0) (eC (.int 0))) (Zb (Za 1) eNil)))
noncomputable def sZ : DL.Env -> Option D := (ZO (ZU (Za 2)) (Zq 0) (fun _ => some true) sR 1 [3])
theorem ZaV : f_QR = Zd (Zf 2 sC) (Zd (Zf 3 (eC (.int 1))) (Zd (ZP (ZE (Zb (eCB lenD (Zb (Za 0) eNil)) eNil)) (Zq 4) sB) (Zn sZ))) := rfl
abbrev S7 (T : List (List Int)) (R : List Int) (v2 v3 v4 v5 v6 : Option D) : DL.Env := [some (TD T), some (IL R), v2, v3, v4, v5, v6]
theorem Zgw (h : Tb m T R) : sC (S7 T R none none none none none) = some (TD (RR m 0 (b0 T R m) m)) := by
 have hm := h.m4
 have eT : T.map IL = (List.range m).map fun i => IL (T.getD i []) := by
  have := QT [] T
  rw [h.sq.ln] at this
  conv => lhs; rw [<- this]
  rw [List.map_map]
  rfl
 have eR : R.map D.int = (List.range m).map fun i => D.int (R.getD i 0) := by
  have := QT 0 R
  rw [h.rl] at this
  conv => lhs; rw [<- this]
  rw [List.map_map]
  rfl
 have hi : Uv (Za 0) (Za 1) (S7 T R none none none none none) = some ((List.range m).map fun i => .tup [IL (T.getD i []), D.int (R.getD i 0)]) := by
  show some (Yb (T.map IL) (R.map D.int)) = _
  rw [eT, eR, ZaU]
 have hc : ZX (Xf 2 (Yl 0 (Yl 1 gsNil))) (fun _ => some true) sE [none, none] ((List.range m).map fun i => .tup [IL (T.getD i []), D.int (R.getD i 0)]) = some ((List.range m).map fun i => IL (Rw m 0 (b0 T R m) i)) := YW (fun i => .tup [IL (T.getD i []), D.int (R.getD i 0)]) (fun i => IL (Rw m 0 (b0 T R m) i)) _ fun i hi => ⟨[some (IL (T.getD i [])), some (.int (R.getD i 0))], rfl, by
  have hi := List.mem_range.mp hi
  have hl := h.sq.rw _ (h.sq.row hi).2
  have e1 : Zz (Zb (Za 1) eNil) [some (IL (T.getD i [])), some (.int (R.getD i 0))] = some (.lst [.int (R.getD i 0)]) := QD (Zj (x := .int (R.getD i 0)) rfl nil_of) (by show 1 <= 1000; decide)
  refine (Zi ((Z5 (Zj (x := IL (T.getD i [])) rfl nil_of)).trans QS) e1).trans ((JS (by rw [List.length_map, hl]; show m + 1 <= _; omega)).trans ?_)
  rw [<- Zhs h hi, IL, List.map_append]
  rfl⟩
 refine (YT hi rfl hc (by rw [List.length_map, List.length_range]; omega)).trans ?_
 unfold RR
 rw [TD, List.map_map]
 rfl
structure Rel (m : Nat) (c b : Mt) : Prop where
 rows : ∀ k, k < m -> ∃ l, l < m /\ c k = b l
 det : (dm m b = dm m c /\ ∀ j, j < m -> Mn m b j m = Mn m c j m) \/ (dm m b = - dm m c /\ ∀ j, j < m -> Mn m b j m = - Mn m c j m)
 bd : ∀ i j, Bd 31 (b i j)
theorem Rel.swR {c b : Mt} (h : Rel m c b) (h4 : m <= 4) {p q : Nat} (hp : p < m) (hq : q < m) (hpq : p <= q) : Rel m c (swR b p q) := by
 refine ⟨fun k hk => ?_, ?_, fun i j => ?_⟩
 · obtain ⟨l, hl, e⟩ := h.rows k hk
   by_cases h1 : l = p
   · refine ⟨q, hq, ?_⟩
     unfold K27.swR
     by_cases h2 : q = p
     · rw [if_pos h2, e, h1, h2]
     · rw [if_neg h2, if_pos rfl, e, h1]
   · by_cases h2 : l = q
     · refine ⟨p, hp, ?_⟩
       unfold K27.swR
       rw [if_pos rfl, e, h2]
     · refine ⟨l, hl, ?_⟩
       unfold K27.swR
       rw [if_neg h1, if_neg h2, e]
 · rcases Zfs m b h4 p q hp hq hpq with ⟨e, f⟩ | ⟨e, f⟩ <;> rcases h.det with ⟨e', f'⟩ | ⟨e', f'⟩
   · exact .inl ⟨by rw [e, e'], fun j hj => by rw [f j hj, f' j hj]⟩
   · exact .inr ⟨by rw [e, e'], fun j hj => by rw [f j hj, f' j hj]⟩
   · exact .inr ⟨by rw [e, e'], fun j hj => by rw [f j hj, f' j hj]⟩
   · exact .inl ⟨by rw [e, e', Int.neg_neg], fun j hj => by rw [f j hj, f' j hj, Int.neg_neg]⟩
 · unfold K27.swR
   split
   · exact h.bd _ _
   · split
     · exact h.bd _ _
     · exact h.bd _ _
theorem Rel.nz {c b : Mt} (h : Rel m c b) : dm m b = 0 ↔ dm m c = 0 := by
 rcases h.det with ⟨e, _⟩ | ⟨e, _⟩ <;> rw [e]
 omega
theorem Zht (c : Mt) {p : Nat} {b : Mt} (hr : Rel m c b) (h4 : m <= 4) (hp : p < m) (hd : dm p b ≠ 0) (v5 v6 : Option D) : (∃ b2 w5 w6, sB (S7 T R (some (TD (RR m p b m))) (some (.int (dm p b))) (some (nD p)) v5 v6) = some (.nx (S7 T R (some (TD (RR m (p + 1) b2 m))) (some (.int (dm (p + 1) b2))) (some (nD p)) w5 w6)) /\ Rel m c b2 /\ dm (p + 1) b2 ≠ 0) \/ (sB (S7 T R (some (TD (RR m p b m))) (some (.int (dm p b))) (some (nD p)) v5 v6) = some (.rt .non) /\ dm m c = 0) := by
 have ha : Zb (Za 2) (Zb (Za 4) eNil) (S7 T R (some (TD (RR m p b m))) (some (.int (dm p b))) (some (nD p)) v5 v6) = some [TD (RR m p b m), nD p] := Zj rfl (Zj rfl nil_of)
 rcases Zel (p := p) b h4 hp with ⟨h1, h2⟩ | ⟨q, h1, h2, h3, h5⟩
 · refine .inr ⟨?_, hr.nz.mp (zdet p m b hp h4 hd h2)⟩
   have t5 : s5 (S7 T R (some (TD (RR m p b m))) (some (.int (dm p b))) (some (nD p)) v5 v6) = some (.nx (S7 T R (some (TD (RR m p b m))) (some (.int (dm p b))) (some (nD p)) (some .non) v6)) := ZB ((ZT ha rfl).trans h1)
   refine (Zr t5).trans (VZ ((Xk (Z0 rfl)).trans (ZQ rfl)))
 · left
   have hr2 := hr.swR h4 hp h2 h1
   have hf : Mn p b q p = dm (p + 1) (swR b p q) := by
    rw [<- frM p (by omega), Zg2 b p q p p (by omega) (by omega) (by omega) h1]
    unfold piS
    rw [if_pos rfl]
   have hdd : dm p (swR b p q) = dm p b := Zhq b p q (by omega) (by omega) h1
   have t5 : s5 (S7 T R (some (TD (RR m p b m))) (some (.int (dm p b))) (some (nD p)) v5 v6) = some (.nx (S7 T R (some (TD (RR m p b m))) (some (.int (dm p b))) (some (nD p)) (some (nD q)) v6)) := ZB ((ZT ha rfl).trans h5)
   have t6 : s6 (S7 T R (some (TD (RR m p b m))) (some (.int (dm p b))) (some (nD p)) (some (nD q)) v6) = some (.nx (S7 T R (some (TD (RR m p b m))) (some (.int (dm p b))) (some (nD p)) (some (nD q)) v6)) := (Yw (Z0 rfl)).trans rfl
   have t7 : s7 (S7 T R (some (TD (RR m p b m))) (some (.int (dm p b))) (some (nD p)) (some (nD q)) v6) = some (.nx (S7 T R (some (TD (RR m p b m))) (some (.int (dm p b))) (some (nD p)) (some (nD q)) (some (.int (dm (p + 1) (swR b p q)))))) := ZB ((Zi (y := .int 0) ((Zi (x := TD (RR m p b m)) (y := nD q) rfl rfl).trans (UX h2)) rfl).trans ((UY (by omega)).trans (by rw [hf])))
   have ex : Zp 3 UK [] (Zb (Za 2) (Zb (Za 5) (Zb (Za 4) eNil))) (S7 T R (some (TD (RR m p b m))) (some (.int (dm p b))) (some (nD p)) (some (nD q)) (some (.int (dm (p + 1) (swR b p q))))) = some (TD (RR m p (swR b p q) m)) := (ZT (Zj (x := TD (RR m p b m)) rfl (Zj (x := nD q) rfl (Zj (x := nD p) rfl nil_of))) rfl).trans (Zem b h4 hp h2 h1)
   have hc := Zdj hr2.bd h4 hp (by rw [hdd]; exact hd)
   rw [hdd] at hc
   have t8 : s8 (S7 T R (some (TD (RR m p b m))) (some (.int (dm p b))) (some (nD p)) (some (nD q)) (some (.int (dm (p + 1) (swR b p q))))) = some (.nx (S7 T R (some (TD (RR m (p + 1) (swR b p q) m))) (some (.int (dm p b))) (some (nD p)) (some (nD q)) (some (.int (dm (p + 1) (swR b p q)))))) := ZB ((ZT (Zj ex (Zj (x := nD p) rfl (Zj (x := .int (dm p b)) rfl nil_of))) rfl).trans hc)
   exact ⟨swR b p q, _, _, (Zr t5).trans ((Zr t6).trans ((Zr t7).trans ((Zr t8).trans (ZB rfl)))), hr2, by rw [<- hf]; exact h3⟩
structure Sol (m : Nat) (c : Mt) (f : Nat -> Int × Int) : Prop where
 pos : ∀ i, 0 < (f i).2
 gcd : ∀ i, Int.gcd (f i).1 (f i).2 = 1
 b1 : ∀ i, Bd 127 (f i).1
 b2 : ∀ i, Bd 127 (f i).2
 fit : ∀ i, i < m -> ∃ a : Int, a ≠ 0 /\ Mn m c i m = a * (f i).1 /\ dm m c = a * (f i).2
theorem ZcT (h : Tb m T R) : (dm m (b0 T R m) = 0 /\ UL [TD T, IL R] = some .non) \/ (dm m (b0 T R m) ≠ 0 /\ ∃ f, Sol m (b0 T R m) f /\ UL [TD T, IL R] = some (.lst ((List.range m).map fun i => prD (f i)))) := by
 have h4 := h.m4
 have t1 : Zf 2 sC (S7 T R none none none none none) = some (.nx (S7 T R (some (TD (RR m 0 (b0 T R m) m))) none none none none)) := ZB (Zgw h)
 have t2 : Zf 3 (eC (.int 1)) (S7 T R (some (TD (RR m 0 (b0 T R m) m))) none none none none) = some (.nx (S7 T R (some (TD (RR m 0 (b0 T R m) m))) (some (.int 1)) none none none)) := ZB rfl
 have hi : ZE (Zb (eCB lenD (Zb (Za 0) eNil)) eNil) (S7 T R (some (TD (RR m 0 (b0 T R m) m))) (some (.int 1)) none none none) = some (ZJ 0 1 m) := by
  refine (XY (j := (m : Int)) (Zj ((Z5 (Zj (x := TD T) rfl nil_of)).trans (len_lst.trans ?_)) nil_of) (by omega) (by omega)).trans (by rw [Int.toNat_natCast])
  rw [List.length_map, h.sq.ln]
 have loop := Zck (γ := Zq 4) (φ := sB) (fun k δ => ∃ b v4 v5 v6, δ = S7 T R (some (TD (RR m k b m))) (some (.int (dm k b))) v4 v5 v6 /\ Rel m (b0 T R m) b /\ dm k b ≠ 0) (fun d => d = .non /\ dm m (b0 T R m) = 0) (ZJ 0 1 m) 0 (S7 T R (some (TD (RR m 0 (b0 T R m) m))) (some (.int 1)) none none none) ⟨b0 T R m, none, none, none, rfl, ⟨fun k hk => ⟨k, hk, rfl⟩, .inl ⟨rfl, fun _ _ => rfl⟩, Zgv h⟩, by show (1 : Int) ≠ 0; decide⟩ (by
  rintro j x δ hx ⟨b, v4, v5, v6, rfl, hr, hd⟩
  obtain ⟨hj, rfl⟩ := UG hx
  rw [Nat.zero_add] at *
  refine ⟨S7 T R (some (TD (RR m j b m))) (some (.int (dm j b))) (some (nD j)) v5 v6, rfl, ?_⟩
  rcases Zht (T := T) (R := R) (b0 T R m) hr h4 hj hd v5 v6 with ⟨b2, w5, w6, g, hr2, hd2⟩ | ⟨g, hz⟩
  · exact .inl ⟨_, g, b2, _, _, _, rfl, hr2, hd2⟩
  · exact .inr ⟨_, g, rfl, hz⟩)
 rw [QC, Nat.zero_add] at loop
 rcases loop with ⟨δ', g, b, v4, v5, v6, e1, hr, hd⟩ | ⟨d, g, e1, hz⟩
 · right
   subst e1
   refine ⟨fun z => hd (hr.nz.mpr z), ?_⟩
   have hx : ∀ i, ∃ pr : Int × Int, (∃ c : Int, c ≠ 0 /\ Mn m b i m = c * pr.1 /\ dm m b = c * pr.2) /\ 0 < pr.2 /\ Int.gcd pr.1 pr.2 = 1 /\ Bd 127 pr.1 /\ Bd 127 pr.2 /\ UI [.int (Mn m b i m), .int (dm m b)] = some (prD pr) := fun i => by
    obtain ⟨c, x, y, h1, h2, h3, h4, h5, h6, h7, h8⟩ := reduced (A := Mn m b i m) hd (Nat.le_trans (J6 hr.bd m) (Nat.pow_le_pow_right (by decide) (by decide)))
    exact ⟨(x, y), ⟨c, h1, h2, h3⟩, h4, h5, Nat.le_trans h6 (UW hr.bd m i m), Nat.le_trans h7 (J6 hr.bd m), h8⟩
   refine ⟨fun i => Classical.choose (hx i), ⟨fun i => (Classical.choose_spec (hx i)).2.1, fun i => (Classical.choose_spec (hx i)).2.2.1, fun i => (Classical.choose_spec (hx i)).2.2.2.1, fun i => (Classical.choose_spec (hx i)).2.2.2.2.1, fun i hi => ?_⟩, ?_⟩
   · obtain ⟨a, h1, h2, h3⟩ := (Classical.choose_spec (hx i)).1
     rcases hr.det with ⟨e, f⟩ | ⟨e, f⟩
     · exact ⟨a, h1, by rw [<- f i hi]; exact h2, by rw [<- e]; exact h3⟩
     · refine ⟨-a, by omega, ?_, ?_⟩
       · have := f i hi
         rw [Int.neg_mul, <- h2]
         omega
       · rw [Int.neg_mul, <- h3]
         omega
   · have hc : ZX (Zq 0) (fun _ => some true) sR [none, some (.int (dm m b))] ((List.range m).map fun i => IL (Rw m m b i)) = some ((List.range m).map fun i => prD (Classical.choose (hx i))) := YW (fun i => IL (Rw m m b i)) (fun i => prD (Classical.choose (hx i))) _ fun i _ => ⟨[some (IL (Rw m m b i)), some (.int (dm m b))], rfl, by
      have e0 : eOp ixD (Za 0) (eC (.int 0)) [some (IL (Rw m m b i)), some (.int (dm m b))] = some (.int (Mn m b i m)) := (Zi (x := IL (Rw m m b i)) (y := .int 0) rfl rfl).trans (UY (Nat.le_refl _))
      exact (ZT (Zj e0 (Zj (x := .int (dm m b)) rfl nil_of)) rfl).trans (Classical.choose_spec (hx i)).2.2.2.2.2⟩
     have ez : sZ (S7 T R (some (TD (RR m m b m))) (some (.int (dm m b))) v4 v5 v6) = some (.lst ((List.range m).map fun i => prD (Classical.choose (hx i)))) := by
      refine YT (xs := (List.range m).map fun i => IL (Rw m m b i)) (Xn ?_) rfl hc (by rw [List.length_map, List.length_range]; omega)
      show some (TD (RR m m b m)) = _
      unfold RR
      rw [TD, List.map_map]
      rfl
     refine Yh (δ := S7 T R none none none none none) rfl ?_
     rw [ZaV, Zr t1, Zr t2, Zr (YI hi g)]
     exact ZQ ez
 · left
   subst e1
   refine ⟨hz, Yh (δ := S7 T R none none none none none) rfl ?_⟩
   rw [ZaV, Zr t1, Zr t2]
   exact VZ (YI hi g)
end
end K27
namespace K27
open DL L2
def sid (T : List (List Int)) (n : Int) (m : Nat) (c : Nat) : List Int := (List.range m).map fun k => (if k = c then n else 0) - at2 T k c
def Yd (T : List (List Int)) (n : Int) (m : Nat) (q : Nat) : List (List Int) := (List.range q).map (sid T n m)
noncomputable def pN : DL.Env -> Option D := (eUn Xw (eOp ixD (Za 0) (Za 1)))
noncomputable def pC : DL.Env -> Option Out := (Zf 4 (ZO (ZU (Za 0)) (Zq 0) (fun _ => some true) pN 1 [3]))
noncomputable def pS : DL.Env -> Option Out := (YR 4 (Za 3) (eOp addX (eOp ixD (Za 4) (Za 3)) (Za 1)))
noncomputable def tI : DL.Env -> Option (List D) := (ZE (Zb (eCB lenD (Zb (Za 0) eNil)) eNil))
theorem Zdk : f_QG = Zd (Zf 2 (Zz eNil)) (Zd (ZP tI (Zq 3) (Zd pC (Zd pS (Z4 2 (Za 4))))) (Zn (Za 2))) := rfl
abbrev PE5 (T : List (List Int)) (n : Int) (v2 v3 v4 : Option D) : DL.Env := [some (TD T), some (.int n), v2, v3, v4]
theorem ZcU {i : Nat} {κ ε : DL.Env -> Option D} {δ : DL.Env} {xs : List Int} {k : Nat} {x : Int} (hk : k < xs.length) (hv : Za i δ = some (IL xs)) (h1 : κ δ = some (nD k)) (h2 : ε δ = some (.int x)) : YR i κ ε δ = some (.nx (δ.set i (some (IL (xs.set k x))))) := by
 unfold YR
 rw [h2, hv, h1]
 dsimp only
 rw [List.length_map, Zce hk]
 dsimp only
 rw [IL, List.map_set]
theorem Zen {T : List (List Int)} {m e c : Nat} (h : Sq m e T) (n : Int) (hc : c < m) : (T.map fun r => -(r.getD c 0)).set c ((T.map fun r => -(r.getD c 0)).getD c 0 + n) = sid T n m c := by
 have hl : (T.map fun r => -(r.getD c 0)).length = m := by rw [List.length_map, h.ln]
 have hg : ∀ k, k < m -> (T.map fun r => -(r.getD c 0))[k]? = some (-(at2 T k c)) := fun k hk => by
  rw [List.getElem?_map, (h.row hk).1]
  rfl
 apply List.ext_getElem?
 intro k
 by_cases hk : k < m
 · have e2 : (sid T n m c)[k]? = some ((if k = c then n else 0) - at2 T k c) := by
    unfold sid
    rw [List.getElem?_map, List.getElem?_range hk]
    rfl
   rw [e2]
   by_cases hkc : k = c
   · subst hkc
     rw [List.getElem?_set_self (by rw [hl]; exact hk), List.getD_eq_getElem?_getD, hg k hk, if_pos rfl]
     show some (-(at2 T k k) + n) = _
     exact congrArg some (by omega)
   · rw [List.getElem?_set_ne (fun z => hkc z.symm), hg k hk, if_neg hkc]
     exact congrArg some (by omega)
 · rw [List.getElem?_eq_none (by rw [List.length_set, hl]; omega), List.getElem?_eq_none (by unfold sid; rw [List.length_map, List.length_range]; omega)]
theorem Zdl {T : List (List Int)} {m e : Nat} (h : Sq m e T) (hm : m <= 4) (n : Int) : V0 [TD T, .int n] = some (TD (Yd T n m m)) := by
 obtain ⟨δ', h1, w3, w4, e1⟩ := XX (γ := Zq 3) (φ := Zd pC (Zd pS (Z4 2 (Za 4)))) (fun c δ => ∃ w3 w4, δ = PE5 T n (some (TD (Yd T n m c))) w3 w4) (ZJ 0 1 m) 0 (PE5 T n (some (TD [])) none none) ⟨none, none, rfl⟩ (by
  rintro c d δ hd ⟨w3, w4, rfl⟩
  obtain ⟨hc, rfl⟩ := UG hd
  rw [Nat.zero_add]
  have hcc : ZX (Zq 0) (fun _ => some true) pN [none, some (nD c)] (T.map IL) = some (T.map fun r => D.int (-(r.getD c 0))) := YW IL (fun r => D.int (-(r.getD c 0))) T fun r hr => ⟨[some (IL r), some (nD c)], rfl, by
   have e0 : eOp ixD (Za 0) (Za 1) [some (IL r), some (nD c)] = some (.int (r.getD c 0)) := (Zi (x := IL r) (y := nD c) rfl rfl).trans (UH (by rw [h.rw r hr]; exact hc))
   unfold pN eUn
   rw [e0]
   rfl⟩
  have t1 : pC (PE5 T n (some (TD (Yd T n m c))) (some (nD c)) w4) = some (.nx (PE5 T n (some (TD (Yd T n m c))) (some (nD c)) (some (IL (T.map fun r => -(r.getD c 0)))))) := by
   refine (ZB (YT (Xn rfl) rfl hcc (by rw [List.length_map, h.ln]; omega))).trans ?_
   rw [IL, List.map_map]
   rfl
  have hl : c < (T.map fun r => -(r.getD c 0)).length := by rw [List.length_map, h.ln]; exact hc
  have t2 : pS (PE5 T n (some (TD (Yd T n m c))) (some (nD c)) (some (IL (T.map fun r => -(r.getD c 0))))) = some (.nx (PE5 T n (some (TD (Yd T n m c))) (some (nD c)) (some (IL (sid T n m c))))) := by
   refine (ZcU (k := c) (x := (T.map fun r => -(r.getD c 0)).getD c 0 + n) hl rfl rfl ((Zi (y := .int n) ((Zi (x := IL (T.map fun r => -(r.getD c 0))) (y := nD c) rfl rfl).trans (UH hl)) rfl).trans (add_int _ _))).trans ?_
   rw [Zen h n hc]
   rfl
  refine ⟨PE5 T n (some (TD (Yd T n m c))) (some (nD c)) w4, rfl, _, (Zr t1).trans ((Zr t2).trans (Vm (xs := (Yd T n m c).map IL) (d := IL (sid T n m c)) rfl rfl (by unfold Yd; rw [List.length_map, List.length_map, List.length_range]; omega))), some (nD c), some (IL (sid T n m c)), ?_⟩
  have em : (Yd T n m c).map IL ++ [IL (sid T n m c)] = (Yd T n m (c + 1)).map IL := by
   unfold Yd
   rw [List.range_succ, List.map_append, List.map_append]
   rfl
  rw [em]
  rfl)
 subst e1
 rw [QC, Nat.zero_add] at h1
 have hi : tI (PE5 T n (some (TD [])) none none) = some (ZJ 0 1 m) := by
  refine (XY (j := (m : Int)) (Zj ((Z5 (Zj (x := TD T) rfl nil_of)).trans (len_lst.trans ?_)) nil_of) (by omega) (by omega)).trans (by rw [Int.toNat_natCast])
  rw [List.length_map, h.ln]
 refine Yh (δ := PE5 T n none none none) rfl ?_
 rw [Zdk, Zr (δ' := PE5 T n (some (TD [])) none none) (ZB rfl), Zr (YI hi h1)]
 exact ZQ rfl
theorem Zeo {T : List (List Int)} {m e : Nat} (h : Sq m e T) {n : Int} (hn : Bd e n) : Sq m (e + 1) (Yd T n m m) := by
 refine ⟨by unfold Yd; rw [List.length_map, List.length_range], fun r hr => ?_, fun r hr x hx => ?_⟩
 · obtain ⟨c, _, rfl⟩ := List.mem_map.mp hr
   unfold sid
   rw [List.length_map, List.length_range]
 · obtain ⟨c, hc, rfl⟩ := List.mem_map.mp hr
   obtain ⟨k, hk, rfl⟩ := List.mem_map.mp hx
   refine Bd.sub ?_ (UU h (List.mem_range.mp hk) (List.mem_range.mp hc))
   split
   · exact hn
   · exact .zdet
def UZ (T : List (List Int)) (n : Int) (q k : Nat) : List Int := (List.range q).map fun j : Nat => n * (if decide ((j : Int) = (k : Int)) = true then 1 else 0) - at2 T k j
def cor (T : List (List Int)) (n : Int) (q c : Nat) : List (List Int) := (List.range c).map (UZ T n q)
def Yr (T : List (List Int)) (n : Int) (q : Nat) : Int := lap (cor T n q q) q (List.range q)
def YK (T : List (List Int)) (n : Int) (m : Nat) : Bool := (List.range' 1 m).all fun q => decide (0 < Yr T n q)
theorem ZaW {α : Type} {γ : D -> DL.Env -> Option DL.Env} {φ : DL.Env -> Option Out} (g : α -> D) (c : α -> Bool) (R : α -> D) (I : DL.Env -> Prop) : ∀ (xs : List α) (x0 : α) (δ : DL.Env), xs.find? c = some x0 -> I δ ->
 (∀ x ∈ xs, ∀ δ, I δ -> ∃ δ1, γ (g x) δ = some δ1 /\ (c x = false -> ∃ δ2, φ δ1 = some (.nx δ2) /\ I δ2) /\ (c x = true -> φ δ1 = some (.rt (R x)))) -> Yf γ φ (xs.map g) δ = some (.rt (R x0))
 | [], x0, δ, h, _, _ => by cases h
 | x :: xs, x0, δ, h, hI, step => by
  obtain ⟨δ1, h1, h2, h3⟩ := step x List.mem_cons_self δ hI
  rw [List.map_cons]
  unfold Yf
  rw [h1]
  dsimp only
  rw [List.find?_cons] at h
  cases hc : c x with
  | true =>
   rw [hc] at h
   cases h
   rw [h3 hc]
  | false =>
   rw [hc] at h
   obtain ⟨δ2, h4, h5⟩ := h2 hc
   rw [h4]
   exact ZaW g c R I xs x0 δ2 h h5 fun y hy => step y (List.mem_cons_of_mem _ hy)
noncomputable def kE : DL.Env -> Option D := (eOp subD (eOp mulX (Za 1) (eCB intD (Zb (eOp eqD (Za 0) (Za 2)) eNil))) (eOp ixD (eOp ixD (Za 3) (Za 2)) (Za 0)))
noncomputable def kC : DL.Env -> Option D := (ZO (ZE (Zb (Za 2) eNil)) (Zq 0) (fun _ => some true) kE 1 [1, 4, 0])
noncomputable def kL : DL.Env -> Option Out := (ZP (ZE (Zb (Za 2) eNil)) (Zq 4) (Z4 3 kC))
noncomputable def kT : DL.Env -> Option Out := (sIf (xB (eOp (Z3 fun i j => decide (i <= j)) (Zp 1 UN [] (Zb (Za 3) eNil)) (eC (.int 0)))) (Zn (eC (.bl false))) sNext)
noncomputable def kB : DL.Env -> Option Out := (Zd (Zf 3 (Zz eNil)) (Zd kL kT))
noncomputable def kI : DL.Env -> Option (List D) := (ZE (Zb (eC (.int 1)) (Zb (eOp addX (eCB lenD (Zb (Za 0) eNil)) (eC (.int 1))) eNil)))
theorem Zep : f_QL = Zd (ZP kI (Zq 2) kB) (Zn (eC (.bl true))) := rfl
abbrev S5 (T : List (List Int)) (n : Int) (v2 v3 v4 : Option D) : DL.Env := [some (TD T), some (.int n), v2, v3, v4]
section
variable {T : List (List Int)} {m e : Nat} {n : Int}
theorem Zgx (h : Sq m e T) (hm : m <= 4) {q k : Nat} (hq : q <= m) (hk : k < m) (v3 : Option D) : kC (S5 T n (some (nD q)) v3 (some (nD k))) = some (IL (UZ T n q k)) := by
 have hc : ZX (Zq 0) (fun _ => some true) kE [none, some (.int n), some (nD k), some (TD T)] ((List.range q).map nD) = some ((List.range q).map fun j : Nat => D.int (n * (if decide ((j : Int) = (k : Int)) = true then 1 else 0) - at2 T k j)) := YW nD (fun j : Nat => D.int (n * (if decide ((j : Int) = (k : Int)) = true then 1 else 0) - at2 T k j)) (List.range q) fun j hj => ⟨[some (nD j), some (.int n), some (nD k), some (TD T)], rfl, by
  have hj := List.mem_range.mp hj
  have e1 : eCB intD (Zb (eOp eqD (Za 0) (Za 2)) eNil) [some (nD j), some (.int n), some (nD k), some (TD T)] = some (.int (if decide ((j : Int) = (k : Int)) = true then 1 else 0)) := (Z5 (Zj ((Zi (x := nD j) (y := nD k) rfl rfl).trans (YS _ _)) nil_of)).trans rfl
  have e2 : eOp ixD (eOp ixD (Za 3) (Za 2)) (Za 0) [some (nD j), some (.int n), some (nD k), some (TD T)] = some (.int (at2 T k j)) := (Zi (x := IL (T.getD k [])) (y := nD j) ((Zi (x := TD T) (y := nD k) rfl rfl).trans (J0 h hk)) rfl).trans (J4 h hk (by omega))
  refine (Zi ((Zi (a := Za 1) (x := .int n) rfl e1).trans (QF ?_ ?_)) e2).trans (UT _ _)
  · cases decide ((j : Int) = (k : Int)) <;> decide
  · cases decide ((j : Int) = (k : Int)) <;> decide⟩
 refine (YT (xs := (List.range q).map nD) ?_ rfl hc (by rw [List.length_map, List.length_range]; omega)).trans ?_
 · rw [<- JY]
   exact (XY (j := (q : Int)) (Zj rfl nil_of) (by omega) (by omega)).trans (by rw [Int.toNat_natCast])
 · unfold UZ
   rw [IL, List.map_map]
   rfl
theorem Zgy (h : Sq m e T) (hm : m <= 4) {q : Nat} (hq : q <= m) (v4 : Option D) : ∃ w4, kL (S5 T n (some (nD q)) (some (TD [])) v4) = some (.nx (S5 T n (some (nD q)) (some (TD (cor T n q q))) w4)) := by
 obtain ⟨δ', g, w4, e1⟩ := XX (γ := Zq 4) (φ := Z4 3 kC) (fun k δ => ∃ w4, δ = S5 T n (some (nD q)) (some (TD (cor T n q k))) w4) (ZJ 0 1 q) 0 (S5 T n (some (nD q)) (some (TD [])) v4) ⟨v4, rfl⟩ (by
  rintro k d δ hd ⟨w4, rfl⟩
  obtain ⟨hk, rfl⟩ := UG hd
  rw [Nat.zero_add]
  refine ⟨S5 T n (some (nD q)) (some (TD (cor T n q k))) (some (nD k)), rfl, _, Vm (xs := (cor T n q k).map IL) rfl (Zgx h hm hq (by omega) _) (by unfold cor; rw [List.length_map, List.length_map, List.length_range]; omega), some (nD k), ?_⟩
  have em : (cor T n q k).map IL ++ [IL (UZ T n q k)] = (cor T n q (k + 1)).map IL := by
   unfold cor
   rw [List.range_succ, List.map_append, List.map_append]
   rfl
  rw [em]
  rfl)
 subst e1
 rw [QC, Nat.zero_add] at g
 exact ⟨w4, YI ((XY (j := (q : Int)) (Zj rfl nil_of) (by omega) (by omega)).trans (by rw [Int.toNat_natCast])) g⟩
theorem Zfw (h : Sq m e T) (hn : Bd e n) {q : Nat} (hq : q <= m) : Sq q (e + 1) (cor T n q q) := by
 refine ⟨by unfold cor; rw [List.length_map, List.length_range], fun r hr => ?_, fun r hr x hx => ?_⟩
 · obtain ⟨c, _, rfl⟩ := List.mem_map.mp hr
   unfold UZ
   rw [List.length_map, List.length_range]
 · obtain ⟨c, hc, rfl⟩ := List.mem_map.mp hr
   obtain ⟨k, hk, rfl⟩ := List.mem_map.mp hx
   refine Bd.sub ?_ (UU h (Nat.lt_of_lt_of_le (List.mem_range.mp hc) hq) (Nat.lt_of_lt_of_le (List.mem_range.mp hk) hq))
   cases decide ((k : Int) = (c : Int)) with
   | true => rw [if_pos rfl, Int.mul_one]; exact hn
   | false => rw [if_neg Bool.false_ne_true, Int.mul_zero]; exact .zdet
theorem Zeq (h : Sq m e T) (hm : m <= 4) (hn : Bd e n) (he : (e + 2) * 4 <= 900) : V2 [TD T, .int n] = some (.bl (YK T n m)) := by
 have hi : kI (S5 T n none none none) = some ((List.range' 1 m).map nD) := by
  have e1 : kI (S5 T n none none none) = some (ZJ 1 1 m) := by
   refine (ZdL (i := 1) (j := ((m + 1 : Nat) : Int)) (Zj rfl (Zj ((Zi (y := .int 1) ((Z5 (Zj (x := TD T) rfl nil_of)).trans len_lst) rfl).trans ((add_int _ _).trans ?_)) nil_of)) (by omega) (by omega) (by decide) (by decide)).trans (by rw [show (((m + 1 : Nat) : Int) - 1).toNat = m by omega])
   rw [List.length_map, h.ln]
   rfl
  rw [e1]
  unfold ZJ
  rw [List.range'_eq_map_range, List.map_map]
  refine congrArg some (List.map_congr_left fun k _ => ?_)
  show D.int (1 + (k : Int) * 1) = D.int ((1 + k : Nat) : Int)
  exact congrArg D.int (by omega)
 have turn : ∀ q ∈ List.range' 1 m, ∀ δ, (∃ v2 v3 v4, δ = S5 T n v2 v3 v4) -> ∃ δ1, Zq 2 (nD q) δ = some δ1 /\ (decide (Yr T n q <= 0) = false -> ∃ δ2, kB δ1 = some (.nx δ2) /\ ∃ v2 v3 v4, δ2 = S5 T n v2 v3 v4) /\ (decide (Yr T n q <= 0) = true -> kB δ1 = some (.rt (.bl false))) := by
  rintro q hq δ ⟨v2, v3, v4, rfl⟩
  have hqm : q <= m := by
   obtain ⟨i, hi, rfl⟩ := List.mem_range'.mp hq
   omega
  obtain ⟨w4, g⟩ := Zgy (n := n) h hm hqm v4
  have s1 : Zf 3 (Zz eNil) (S5 T n (some (nD q)) v3 v4) = some (.nx (S5 T n (some (nD q)) (some (TD [])) v4)) := ZB rfl
  have hp := ZbQ (Zfw h hn hqm) (by omega) he
  have et : xB (eOp (Z3 fun i j => decide (i <= j)) (Zp 1 UN [] (Zb (Za 3) eNil)) (eC (.int 0))) (S5 T n (some (nD q)) (some (TD (cor T n q q))) w4) = some (decide (Yr T n q <= 0)) := Z0 ((Zi (y := .int 0) ((ZT (Zj (x := TD (cor T n q q)) rfl nil_of) rfl).trans hp) rfl).trans rfl)
  refine ⟨S5 T n (some (nD q)) v3 v4, rfl, fun hz => ?_, fun hz => ?_⟩
  · rw [hz] at et
    exact ⟨_, (Zr s1).trans ((Zr g).trans ((Yw et).trans rfl)), _, _, _, rfl⟩
  · rw [hz] at et
    exact (Zr s1).trans ((Zr g).trans ((Xk et).trans (ZQ rfl)))
 refine Yh (δ := S5 T n none none none) rfl ?_
 rw [Zep]
 cases hf : (List.range' 1 m).find? fun q => decide (Yr T n q <= 0) with
 | some q0 =>
  have h1 := ZaW (γ := Zq 2) (φ := kB) nD (fun q => decide (Yr T n q <= 0)) (fun _ => D.bl false) (fun δ => ∃ v2 v3 v4, δ = S5 T n v2 v3 v4) (List.range' 1 m) q0 (S5 T n none none none) hf ⟨_, _, _, rfl⟩ turn
  have hb : YK T n m = false := by
   unfold YK
   rw [List.all_eq_false]
   refine ⟨q0, List.mem_of_find?_eq_some hf, ?_⟩
   have := List.find?_some hf
   have := of_decide_eq_true this
   rw [decide_eq_false (by omega)]
   decide
  rw [hb]
  exact VZ (YI hi h1)
 | none =>
  have hall := List.find?_eq_none.mp hf
  obtain ⟨δ', h1, v2, v3, v4, e1⟩ := JQ (γ := Zq 2) (φ := kB) (fun δ => ∃ v2 v3 v4, δ = S5 T n v2 v3 v4) ((List.range' 1 m).map nD) (S5 T n none none none) ⟨_, _, _, rfl⟩ (by
   intro x hx δ hδ
   obtain ⟨q, hq, rfl⟩ := List.mem_map.mp hx
   obtain ⟨δ1, g1, g2, _⟩ := turn q hq δ hδ
   have hz : decide (Yr T n q <= 0) = false := by simpa using hall q hq
   obtain ⟨δ2, g3, g4⟩ := g2 hz
   exact ⟨δ1, g1, δ2, g3, g4⟩)
  have hb : YK T n m = true := by
   unfold YK
   rw [List.all_eq_true]
   intro q hq
   have := hall q hq
   have hz : ¬ Yr T n q <= 0 := by simpa using this
   exact decide_eq_true (by omega)
  rw [hb, Zr (YI hi h1)]
  exact ZQ rfl
end
end K27
namespace K27
open DL L2
theorem Zbw (ns : List Int) : sumLD [.lst (ns.map D.int)] = some (.int ns.sum) := by
 unfold sumLD
 dsimp only
 rw [Qp]
theorem ZdS : ∀ w : List Int, (∀ x ∈ w, 0 <= x) -> 0 <= w.sum
 | [], _ => by simp
 | a :: w, h => by
  have ih := ZdS w fun x hx => h x (List.mem_cons_of_mem _ hx)
  have := h a List.mem_cons_self
  rw [List.sum_cons]
  omega
theorem ZdT : ∀ (w : List Int) (b : Int), (∀ x ∈ w, x <= b) -> w.sum <= b * w.length
 | [], b, _ => by simp
 | a :: w, b, h => by
  have ih := ZdT w b fun x hx => h x (List.mem_cons_of_mem _ hx)
  have := h a List.mem_cons_self
  rw [List.sum_cons, List.length_cons, Int.natCast_add, Int.mul_add]
  simp
  omega
structure TbW (m : Nat) (T : List (List Int)) : Prop where
 m1 : 1 <= m
 m4 : m <= 4
 ln : T.length = m
 rl : ∀ r ∈ T, r.length = m
 en : ∀ r ∈ T, ∀ x ∈ r, 0 <= x /\ x < 1000000000000
section
variable {m : Nat} {T : List (List Int)}
theorem Zg3 {x : Int} (h0 : 0 <= x) (h1 : x <= 10000000000000) : Bd 13 x := by
 unfold Bd
 have : (10 : Nat) ^ 13 = 10000000000000 := rfl
 omega
theorem TbW.sq (h : TbW m T) : Sq m 13 T := ⟨h.ln, h.rl, fun r hr x hx => by
 have := h.en r hr x hx
 exact Zg3 this.1 (by omega)⟩
theorem TbW.nn (h : TbW m T) (k j : Nat) : 0 <= at2 T k j := by
 unfold at2
 rw [List.getD_eq_getElem?_getD]
 by_cases hj : j < (T.getD k []).length
 · rw [List.getElem?_eq_getElem hj]
   show 0 <= (T.getD k [])[j]
   by_cases hk : k < T.length
   · refine (h.en (T.getD k []) ?_ _ (List.getElem_mem hj)).1
     rw [List.getD_eq_getElem?_getD, List.getElem?_eq_getElem hk]
     exact List.getElem_mem hk
   · rw [List.getD_eq_getElem?_getD, List.getElem?_eq_none (by omega)] at hj
     exact absurd hj (Nat.not_lt_zero _)
 · rw [List.getElem?_eq_none (by omega)]
   exact Int.le_refl _
def rs (T : List (List Int)) (m k : Nat) : Int := ((List.range m).map (at2 T k)).sum
theorem Zgz (h : TbW m T) {k : Nat} (hk : k < m) : rs T m k = (T.getD k []).sum := by
 have e := h.rl _ (h.sq.row hk).2
 have := QT 0 (T.getD k [])
 rw [e] at this
 unfold rs
 exact congrArg List.sum this
def Yx (T : List (List Int)) : Int := Vk (T.map List.sum)
theorem ZgA (h : TbW m T) : 0 <= Yx T /\ Yx T <= 4000000000000 /\ ∀ k, k < m -> rs T m k <= Yx T := by
 have m1 := h.m1
 have m4 := h.m4
 obtain ⟨h1, h2⟩ := ZaM (ns := T.map List.sum) (by rw [List.length_map, h.ln]; omega)
 unfold Yx
 obtain ⟨r, hr, e⟩ := List.mem_map.mp h1
 have n0 := ZdS r fun x hx => (h.en r hr x hx).1
 have n1 := ZdT r 1000000000000 fun x hx => by have := (h.en r hr x hx).2; omega
 rw [h.rl r hr] at n1
 refine ⟨by omega, by omega, fun k hk => ?_⟩
 rw [Zgz h hk]
 exact h2 _ (List.mem_map.mpr ⟨_, (h.sq.row hk).2, rfl⟩)
noncomputable def mxE : DL.Env -> Option D := (eCB maxLD (Zb (ZO (ZU (Za 1)) (Zq 0) (fun _ => some true) (eCB sumLD (Zb (Za 0) eNil)) 1 []) eNil))
theorem ZgB (h : TbW m T) {δ : DL.Env} (hv : Za 1 δ = some (TD T)) : mxE δ = some (.int (Yx T)) := by
 have m1 := h.m1
 have m4 := h.m4
 have hc : ZX (Zq 0) (fun _ => some true) (eCB sumLD (Zb (Za 0) eNil)) [none] (T.map IL) = some (T.map fun r => D.int r.sum) := YW IL (fun r => D.int r.sum) T fun r _ => ⟨[some (IL r)], rfl, (Z5 (Zj (x := IL r) rfl nil_of)).trans (Zbw r)⟩
 have e : T.map (fun r => D.int r.sum) = (T.map List.sum).map D.int := by rw [List.map_map]; rfl
 rw [e] at hc
 have h1 : maxLD [.lst ((T.map List.sum).map D.int)] = some (.int (Yx T)) := by
  unfold maxLD
  dsimp only
  rw [Qp]
  exact if_pos (by rw [List.length_map, h.ln]; omega)
 unfold mxE
 exact (Z5 (Zj (YT (Xn hv) rfl hc (by rw [List.length_map, List.length_map, h.ln]; omega)) nil_of)).trans h1
end
structure Sh (k : Nat) (d : D) : Prop where
 can : PySem.PyData.canLay0 (toP d) = true
 dep : PySem.PyData.depth (toP d) <= k
theorem ZdU {k : Nat} : ∀ {xs : List D}, (∀ x ∈ xs, Sh k x) -> PySem.PyData.canLayAll0 (Xc xs) = true /\ PySem.PyData.depthAll (Xc xs) <= k
 | [], _ => ⟨rfl, Nat.zero_le _⟩
 | x :: xs, h => by
  obtain ⟨h1, h2⟩ := ZdU (xs := xs) fun y hy => h y (List.mem_cons_of_mem _ hy)
  have hx := h x List.mem_cons_self
  rw [Xc, PySem.PyData.canLayAll0, PySem.PyData.depthAll, hx.can, h1]
  exact ⟨rfl, Nat.max_le.mpr ⟨hx.dep, h2⟩⟩
theorem QU {k : Nat} {xs : List D} (h : ∀ x ∈ xs, Sh k x) : Sh (k + 1) (.lst xs) := by
 obtain ⟨h1, h2⟩ := ZdU h
 exact ⟨by rw [toP, PySem.PyData.canLay0]; exact h1, by rw [toP, PySem.PyData.depth]; omega⟩
theorem J9 (k : Nat) (i : Int) : Sh k (.int i) := ⟨rfl, Nat.zero_le _⟩
theorem QV {k : Nat} {d : D} (h : Sh k d) (hk : k <= 64) : PySem.SeqAt.shaped (toP d) = true := by
 unfold PySem.SeqAt.shaped
 rw [h.can, decide_eq_true (Nat.le_trans h.dep hk)]
 rfl
theorem QW {α : Type} {k : Nat} {f : α -> D} {l : List α} (h : ∀ x, Sh k (f x)) : ∀ y ∈ l.map f, Sh k y := fun y hy => by
 obtain ⟨x, _, rfl⟩ := List.mem_map.mp hy
 exact h x
theorem ZeV (T : List (List Int)) : Sh 2 (TD T) := QU (QW fun r => QU (QW fun a => J9 0 _))
def lim (w : Int) : Int := if w = 1 then 3 else if w = 2 then 12 else 1000000000000
def ent (c : Int) : Int := if c.fmod 4 = 0 then 0 else (c.fdiv 4).fmod (lim (c.fmod 4))
theorem ZeW (w : Int) : 0 < lim w /\ lim w <= 1000000000000 := by
 unfold lim
 split
 · omega
 · split <;> omega
theorem ZgC (c : Int) : 0 <= ent c /\ ent c < 1000000000000 := by
 obtain ⟨h0, h1⟩ := ZeW (c.fmod 4)
 unfold ent
 split
 · omega
 · have := UF (a := c.fdiv 4) h0
   omega
noncomputable def liE : DL.Env -> Option D := (Zz (Zb (eC (.int 3)) (Zb (eC (.int 12)) (Zb (eOp powW (eC (.int 10)) (eC (.int 12))) eNil))))
theorem ZgD (δ : DL.Env) : liE δ = some (.lst [.int 3, .int 12, .int 1000000000000]) := by
 have hp : eOp powW (eC (.int 10)) (eC (.int 12)) δ = some (.int 1000000000000) := (Zi (x := .int 10) (y := .int 12) rfl rfl).trans ((Zej ⟨by decide, by decide, by decide⟩).trans rfl)
 unfold liE
 exact QD (Zj (x := .int 3) rfl (Zj (x := .int 12) rfl (Zj hp nil_of))) (by show 3 <= 1000; decide)
theorem Zdm : f_QK = Zd (Zf 1 (eOp modW (Za 0) (eC (.int 4)))) (Zd (sIf (xB (eOp eqD (Za 1) (eC (.int 0)))) (Zn (eC (.int 0))) sNext) (Zn (eOp modW (eOp fdivW (Za 0) (eC (.int 4))) (eOp ixD liE (eOp subD (Za 1) (eC (.int 1))))))) := rfl
theorem Zfx {w : Int} (h0 : 0 < w) (h1 : w < 4) : ixD (.lst [.int 3, .int 12, .int 1000000000000]) (.int (w - 1)) = some (.int (lim w)) := by
 have : w = 1 \/ w = 2 \/ w = 3 := by omega
 rcases this with rfl | rfl | rfl <;> rfl
theorem Zdn (c : Int) : QM [.int c] = some (.int (ent c)) := by
 obtain ⟨b0, b1⟩ := UF (a := c) (b := 4) (by decide)
 refine Yh (δ := [some (.int c), none]) rfl ?_
 have t1 : Zf 1 (eOp modW (Za 0) (eC (.int 4))) [some (.int c), none] = some (.nx [some (.int c), some (.int (c.fmod 4))]) := ZB ((Zi (x := .int c) (y := .int 4) rfl rfl).trans (X9 (by decide)))
 rw [Zdm, Zr t1]
 have e1 : xB (eOp eqD (Za 1) (eC (.int 0))) [some (.int c), some (.int (c.fmod 4))] = some (decide (c.fmod 4 = 0)) := Z0 ((Zi (x := .int (c.fmod 4)) (y := .int 0) rfl rfl).trans (YS _ _))
 unfold ent
 generalize c.fmod 4 = v at *
 by_cases hv : v = 0
 · rw [if_pos hv]
   exact (VZ ((Xk (by rw [e1, decide_eq_true hv])).trans (ZQ rfl)))
 · rw [if_neg hv, Zr ((Yw (by rw [e1, decide_eq_false hv])).trans rfl)]
   refine ZQ ((Zi (x := .int (c.fdiv 4)) (y := .int (lim v)) ((Zi (x := .int c) (y := .int 4) rfl rfl).trans (US (e := 1) (by show 4 <= 10; decide) (by decide) (by decide))) ((Zi (y := .int (v - 1)) (ZgD _) ((Zi (x := .int v) (y := .int 1) rfl rfl).trans rfl)).trans (Zfx (by omega) b1))).trans (X9 (ZeW v).1))
theorem Zdo {ε : DL.Env -> Option D} {δ0 : DL.Env} (g : Nat -> D) (m : Nat) (h0 : 0 < δ0.length) (h : ∀ j : Nat, j < m -> ε (δ0.set 0 (some (.int (j : Int)))) = some (g j)) : ZX (Zq 0) (fun _ => some true) ε δ0 (ZJ 0 1 m) = some ((List.range m).map g) := by
 rw [JY]
 exact YW nD g (List.range m) fun j hj => ⟨δ0.set 0 (some (nD j)), by unfold Zq; simp [h0], h j (List.mem_range.mp hj)⟩
def Vq (ns : List Int) (m k : Nat) : List Int := (List.range m).map fun j => ent (ns.getD (2 + k * m + j) 0)
def tab (ns : List Int) (m k : Nat) : List (List Int) := (List.range k).map (Vq ns m)
theorem Zfy (ns : List Int) (m : Nat) (h1 : 1 <= m) (h5 : m <= 4) : TbW m (tab ns m m) := by
 refine ⟨h1, h5, by unfold tab; simp, fun r hr => ?_, fun r hr x hx => ?_⟩
 · obtain ⟨k, _, rfl⟩ := List.mem_map.mp hr
   unfold Vq
   simp
 · obtain ⟨k, _, rfl⟩ := List.mem_map.mp hr
   obtain ⟨j, _, rfl⟩ := List.mem_map.mp hx
   exact ZgC _
noncomputable def teE : DL.Env -> Option D := (Zp 1 QM [] (Zb (Zp 2 YU [] (Zb (Za 1) (Zb (eOp addX (eOp addX (Za 2) (eOp mulX (Za 3) (Za 4))) (Za 0)) eNil))) eNil))
noncomputable def tcE : DL.Env -> Option D := (ZO (ZE (Zb (Za 2) eNil)) (Zq 0) (fun _ => some true) teE 1 [0, 1, 4, 2])
theorem Zdp : f_QJ = Zd (Zf 3 (Zz eNil)) (Zd (ZP (ZE (Zb (Za 2) eNil)) (Zq 4) (Z4 3 tcE)) (Zn (Za 3))) := rfl
theorem ZgE (ns : List Int) (m k j : Nat) (hm : m <= 4) (hk : k <= 4) : teE [some (.int (j : Int)), some (IL ns), some (.int 2), some (.int (k : Int)), some (.int (m : Int))] = some (.int (ent (ns.getD (2 + k * m + j) 0))) := by
 have e1 : eOp addX (eOp addX (Za 2) (eOp mulX (Za 3) (Za 4))) (Za 0) [some (.int (j : Int)), some (IL ns), some (.int 2), some (.int (k : Int)), some (.int (m : Int))] = some (.int ((2 + k * m + j : Nat) : Int)) := by
  refine (Zi (x := .int (2 + (k : Int) * (m : Int))) (y := .int (j : Int)) ((Zi (x := .int 2) (y := .int ((k : Int) * (m : Int))) rfl ((Zi (x := .int (k : Int)) (y := .int (m : Int)) rfl rfl).trans (QF (by omega) (by omega)))).trans rfl) rfl).trans ?_
  show some (D.int (2 + (k : Int) * (m : Int) + (j : Int))) = _
  rw [Int.natCast_add, Int.natCast_add, Int.natCast_mul]
  rfl
 unfold teE
 exact (ZT (n := 1) (Zj ((ZT (n := 2) (Zj (x := IL ns) rfl (Zj e1 nil_of)) rfl).trans (JX ns _)) nil_of) rfl).trans (Zdn _)
theorem Zdq (ns : List Int) (m : Nat) (hm : m <= 4) : QN [IL ns, .int 2, .int (m : Int)] = some (TD (tab ns m m)) := by
 obtain ⟨δ', h1, v4, e⟩ := XX (γ := Zq 4) (φ := Z4 3 tcE) (fun k δ => ∃ v4, δ = [some (IL ns), some (.int 2), some (.int (m : Int)), some (TD (tab ns m k)), v4]) (ZJ 0 1 m) 0 [some (IL ns), some (.int 2), some (.int (m : Int)), some (TD (tab ns m 0)), none] ⟨_, rfl⟩ (by
  intro j x δ hx ⟨v4, e⟩
  subst e
  obtain ⟨hj, rfl⟩ := UG hx
  rw [Nat.zero_add]
  have hc : tcE [some (IL ns), some (.int 2), some (.int (m : Int)), some (TD (tab ns m j)), some (.int (j : Int))] = some (IL (Vq ns m j)) := by
   have e2 : (Vq ns m j).map D.int = (List.range m).map fun i => D.int (ent (ns.getD (2 + j * m + i) 0)) := by unfold Vq; rw [List.map_map]; rfl
   show _ = some (D.lst ((Vq ns m j).map D.int))
   rw [e2]
   unfold tcE
   exact YT ((XY (j := (m : Int)) rfl (by omega) (by omega)).trans (by rw [Int.toNat_natCast])) rfl (Zdo (δ0 := [none, some (IL ns), some (.int 2), some (.int (j : Int)), some (.int (m : Int))]) _ m (by show 0 < 5; decide) fun i _ => ZgE ns m j i hm (by omega)) (by simp; omega)
  refine ⟨_, rfl, [some (IL ns), some (.int 2), some (.int (m : Int)), some (TD (tab ns m (j + 1))), some (.int (j : Int))], (Vm (xs := (tab ns m j).map IL) rfl hc (by unfold tab; simp; omega)).trans ?_, _, rfl⟩
  have es : (tab ns m j).map IL ++ [IL (Vq ns m j)] = (tab ns m (j + 1)).map IL := by
   unfold tab
   rw [List.range_succ, List.map_append, List.map_append]
   rfl
  rw [es]
  rfl)
 subst e
 rw [Zek, Nat.zero_add] at h1
 refine Yh (δ := [some (IL ns), some (.int 2), some (.int (m : Int)), none, none]) rfl ?_
 rw [Zdp]
 refine (Zr (δ' := [some (IL ns), some (.int 2), some (.int (m : Int)), some (TD (tab ns m 0)), none]) rfl).trans ?_
 exact (Zr (YI ((XY (j := (m : Int)) rfl (by omega) (by omega)).trans (by rw [Int.toNat_natCast])) h1)).trans (ZQ rfl)
noncomputable def wI : DL.Env -> Option Out := (sIf (xB (eOp eqD (eOp modW (Za 0) (eC (.int 3))) (eC (.int 0)))) (Zn (eOp addX (eC (.int 1)) (eOp modW (eOp fdivW (Za 0) (eC (.int 3))) (eC (.int 5))))) sNext)
noncomputable def wR : DL.Env -> Option D := (eOp addX (eC (.int 1)) (eOp modW (eOp fdivW (Za 0) (eC (.int 3))) (eOp addX (Za 2) (eC (.int 2)))))
theorem Zcm : f_QN = Zd (Zf 2 mxE) (Zd wI (Zn wR)) := rfl
theorem Zer {m : Nat} {T : List (List Int)} (h : TbW m T) (c : Int) : ∃ n : Int, 1 <= n /\ n <= 5000000000000 /\ QO [.int c, TD T] = some (.int n) := by
 obtain ⟨b0, b1, _⟩ := ZgA h
 have t1 : Zf 2 mxE [some (.int c), some (TD T), none] = some (.nx [some (.int c), some (TD T), some (.int (Yx T))]) := ZB (ZgB h rfl)
 have e0 : eOp modW (Za 0) (eC (.int 3)) [some (.int c), some (TD T), some (.int (Yx T))] = some (.int (c.fmod 3)) := (Zi (x := .int c) (y := .int 3) rfl rfl).trans (X9 (by decide))
 have e1 : eOp fdivW (Za 0) (eC (.int 3)) [some (.int c), some (TD T), some (.int (Yx T))] = some (.int (c.fdiv 3)) := (Zi (x := .int c) (y := .int 3) rfl rfl).trans (US (e := 1) (by show 3 <= 10; decide) (by decide) (by decide))
 have et : xB (eOp eqD (eOp modW (Za 0) (eC (.int 3))) (eC (.int 0))) [some (.int c), some (TD T), some (.int (Yx T))] = some (decide (c.fmod 3 = 0)) := Z0 ((Zi (y := .int 0) e0 rfl).trans (YS _ _))
 by_cases hz : c.fmod 3 = 0
 · obtain ⟨c0, c1⟩ := UF (a := c.fdiv 3) (b := 5) (by decide)
   rw [decide_eq_true hz] at et
   refine ⟨1 + (c.fdiv 3).fmod 5, by omega, by omega, Yh (δ := [some (.int c), some (TD T), none]) rfl ?_⟩
   rw [Zcm, Zr t1]
   exact VZ ((Xk et).trans (ZQ ((Zi (x := .int 1) rfl ((Zi (y := .int 5) e1 rfl).trans (X9 (by decide)))).trans (add_int _ _))))
 · obtain ⟨c0, c1⟩ := UF (a := c.fdiv 3) (b := Yx T + 2) (by omega)
   rw [decide_eq_false hz] at et
   refine ⟨1 + (c.fdiv 3).fmod (Yx T + 2), by omega, by omega, Yh (δ := [some (.int c), some (TD T), none]) rfl ?_⟩
   have tn : wI [some (.int c), some (TD T), some (.int (Yx T))] = some (.nx [some (.int c), some (TD T), some (.int (Yx T))]) := (Yw et).trans rfl
   rw [Zcm, Zr t1, Zr tn]
   exact ZQ ((Zi (x := .int 1) rfl ((Zi e1 ((Zi (x := .int (Yx T)) (y := .int 2) rfl rfl).trans (add_int _ _))).trans (X9 (by omega)))).trans (add_int _ _))
end K27
namespace K27
open DL L2
theorem Zhu (a : Int) : lap [[a]] 1 [0] = a := by
 simp [lap, at2, List.range, List.range.loop]
theorem Zhv (a b e f : Int) : lap [[a, e], [b, f]] 2 [0, 1] = a * f - b * e := by
 simp [lap, at2, List.range, List.range.loop]
 grind
theorem Zhw (a b c e f g i j k : Int) : lap [[a, e, i], [b, f, j], [c, g, k]] 3 [0, 1, 2] = a * (f * k - g * j) - b * (e * k - g * i) + c * (e * j - f * i) := by
 simp [lap, at2, List.range, List.range.loop]
 grind
def d3 (a b c d e f g h i : Int) : Int := a * (e * i - f * h) - b * (d * i - f * g) + c * (d * h - e * g)
theorem Zhx (a b c d e f g h i j k l m n o p : Int) : lap [[a, e, i, m], [b, f, j, n], [c, g, k, o], [d, h, l, p]] 4 [0, 1, 2, 3] = a * d3 f g h j k l n o p - b * d3 e g h i k l m o p + c * d3 e f h i j l m n p - d * d3 e f g i j k m n o := by
 simp [lap, at2, d3, List.range, List.range.loop]
 grind
section
variable {T : List (List Int)} {m : Nat} {n : Int}
def Va (m : Nat) : List Int := List.replicate m 1
def c0 (T : List (List Int)) (n : Int) (m : Nat) : Mt := b0 (Yd T n m m) (Va m) m
theorem ZdZ {i j : Nat} (hi : i < m) (hj : j < m) : c0 T n m i j = (if j = i then n else 0) - at2 T j i := by
 have e1 : c0 T n m i j = at2 (Yd T n m m) i j := if_neg (by omega)
 rw [e1]
 unfold at2 Yd
 have e2 : ((List.range m).map (sid T n m)).getD i [] = sid T n m i := by rw [List.getD_eq_getElem?_getD, List.getElem?_map, List.getElem?_range hi]; rfl
 rw [e2]
 unfold sid
 rw [List.getD_eq_getElem?_getD, List.getElem?_map, List.getElem?_range hj]
 rfl
theorem ZdV {i : Nat} (hi : i < m) : c0 T n m i m = 1 := by
 have e1 : c0 T n m i m = (Va m).getD i 0 := if_pos rfl
 rw [e1]
 unfold Va
 rw [List.getD_eq_getElem?_getD, List.getElem?_replicate, if_pos hi]
 rfl
theorem ZeX (hnn : ∀ k j, 0 <= at2 T k j) : Sg m 0 (c0 T n m) := by
 refine ⟨fun i c hi _ hc hne => ?_, fun i hi => ?_, by show (0 : Int) < 1; decide⟩
 · show c0 T n m i c <= 0
   rw [ZdZ hi hc, if_neg (fun z => hne z.symm)]
   have := hnn c i
   omega
 · show 0 < c0 T n m i m
   rw [ZdV hi]
   decide
theorem ZeY (hm : m <= 4) {q : Nat} (h1 : 1 <= q) (hq : q <= m) : dm q (c0 T n m) = Yr T n q := by
 have c1 : Yr T n 1 = n - at2 T 0 0 := by
  have e : cor T n 1 1 = [[n * 1 - at2 T 0 0]] := rfl
  unfold Yr
  rw [e, Int.mul_one]
  exact Zhu _
 have c2 : Yr T n 2 = (n - at2 T 0 0) * (n - at2 T 1 1) - (0 - at2 T 1 0) * (0 - at2 T 0 1) := by
  have e : cor T n 2 2 = [[n * 1 - at2 T 0 0, n * 0 - at2 T 0 1], [n * 0 - at2 T 1 0, n * 1 - at2 T 1 1]] := rfl
  unfold Yr
  rw [e, Int.mul_one, Int.mul_zero]
  exact Zhv _ _ _ _
 have c3 : Yr T n 3 = d3 (n - at2 T 0 0) (0 - at2 T 1 0) (0 - at2 T 2 0) (0 - at2 T 0 1) (n - at2 T 1 1) (0 - at2 T 2 1) (0 - at2 T 0 2) (0 - at2 T 1 2) (n - at2 T 2 2) := by
  have e : cor T n 3 3 = [[n * 1 - at2 T 0 0, n * 0 - at2 T 0 1, n * 0 - at2 T 0 2], [n * 0 - at2 T 1 0, n * 1 - at2 T 1 1, n * 0 - at2 T 1 2], [n * 0 - at2 T 2 0, n * 0 - at2 T 2 1, n * 1 - at2 T 2 2]] := rfl
  unfold Yr
  rw [e, Int.mul_one, Int.mul_zero]
  exact Zhw _ _ _ _ _ _ _ _ _
 have c4 : Yr T n 4 = _ := Zhx (n * 1 - at2 T 0 0) (n * 0 - at2 T 1 0) (n * 0 - at2 T 2 0) (n * 0 - at2 T 3 0) (n * 0 - at2 T 0 1) (n * 1 - at2 T 1 1) (n * 0 - at2 T 2 1) (n * 0 - at2 T 3 1) (n * 0 - at2 T 0 2) (n * 0 - at2 T 1 2) (n * 1 - at2 T 2 2) (n * 0 - at2 T 3 2) (n * 0 - at2 T 0 3) (n * 0 - at2 T 1 3) (n * 0 - at2 T 2 3) (n * 1 - at2 T 3 3)
 rw [Int.mul_one, Int.mul_zero] at c4
 have : q = 1 \/ q = 2 \/ q = 3 \/ q = 4 := by omega
 have g : ∀ i j, i < q -> j < q -> c0 T n m i j = (if j = i then n else 0) - at2 T j i := fun i j hi hj => ZdZ (by omega) (by omega)
 rcases this with rfl | rfl | rfl | rfl
 · rw [c1]
   show c0 T n m 0 0 = _
   rw [g 0 0 (by decide) (by decide), if_pos rfl]
 · rw [c2]
   simp only [dm, e2]
   rw [g 0 0 (by decide) (by decide), g 0 1 (by decide) (by decide), g 1 0 (by decide) (by decide), g 1 1 (by decide) (by decide)]
   simp
 · rw [c3]
   simp only [dm, e2, e3]
   rw [g 0 0 (by decide) (by decide), g 0 1 (by decide) (by decide), g 0 2 (by decide) (by decide), g 1 0 (by decide) (by decide), g 1 1 (by decide) (by decide), g 1 2 (by decide) (by decide), g 2 0 (by decide) (by decide), g 2 1 (by decide) (by decide), g 2 2 (by decide) (by decide)]
   simp [d3]
 · rw [c4]
   simp only [dm, e2, e3, e4]
   rw [g 0 0 (by decide) (by decide), g 0 1 (by decide) (by decide), g 0 2 (by decide) (by decide), g 0 3 (by decide) (by decide), g 1 0 (by decide) (by decide), g 1 1 (by decide) (by decide), g 1 2 (by decide) (by decide), g 1 3 (by decide) (by decide), g 2 0 (by decide) (by decide), g 2 1 (by decide) (by decide), g 2 2 (by decide) (by decide), g 2 3 (by decide) (by decide), g 3 0 (by decide) (by decide), g 3 1 (by decide) (by decide), g 3 2 (by decide) (by decide), g 3 3 (by decide) (by decide)]
   simp [d3]
theorem Zcn (hm : m <= 4) : YK T n m = true ↔ ∀ q, q <= m -> 0 < dm q (c0 T n m) := by
 unfold YK
 rw [List.all_eq_true]
 constructor
 · intro h q hq
   by_cases h0 : q = 0
   · subst h0; show (0 : Int) < 1; decide
   · rw [ZeY hm (by omega) hq]
     exact of_decide_eq_true (h q (List.mem_range'_1.mpr (by omega)))
 · intro h q hq
   have := List.mem_range'_1.mp hq
   have h2 := h q (by omega)
   rw [ZeY hm (by omega) (by omega)] at h2
   exact decide_eq_true h2
theorem Zhy (h1 : 1 <= m) (hm : m <= 4) (b : Mt) (s : Int) : Lin m 0 b (fun j => s * Mn m b j m) (s * dm m b) := fun i _ hi => by
 have h := ZdM m b h1 hm i hi
 have e : List.range' 0 (m - 0) = List.range m := by rw [Nat.sub_zero, List.range_eq_range']
 rw [e]
 show ((List.range m).map fun c => b i c * (s * Mn m b c m)).sum = s * dm m b * b i m
 have hs : ∀ l : List Nat, (l.map fun c => b i c * (s * Mn m b c m)).sum = s * (l.map fun c => b i c * Mn m b c m).sum := fun l => by
  induction l with
  | nil => simp
  | cons x l ih =>
   rw [List.map_cons, List.map_cons, List.sum_cons, List.sum_cons, ih, Int.mul_add]
   grind
 rw [hs, h]
 grind
theorem Zdr (hnn : ∀ k j, 0 <= at2 T k j) (h1 : 1 <= m) (hm : m <= 4) {s : Int} (hs : s = 1 \/ s = -1) (hd : 0 < s * dm m (c0 T n m)) (hx : ∀ i, i < m -> 0 < s * Mn m (c0 T n m) i m) : YK T n m = true := (Zcn hm).mpr fun q hq => (ZdO (ZeX hnn) (Zhy h1 hm _ s) hm hd hx q hq).1.dpos
theorem Zav (hnn : ∀ k j, 0 <= at2 T k j) (hm : m <= 4) (h : YK T n m = true) : 0 < dm m (c0 T n m) /\ ∀ i, i < m -> 0 < Mn m (c0 T n m) i m := by
 have hd := (Zcn hm).mp h
 exact ⟨hd m (Nat.le_refl _), (Sg.upto (ZeX hnn) hm hd m (Nat.le_refl _)).rhs⟩
end
end K27
namespace K27
open DL L2
abbrev FD (m : Nat) (f : Nat -> Int × Int) : D := .lst ((List.range m).map fun i => prD (f i))
def lc (f : Nat -> Int × Int) : Nat -> Nat
 | 0 => 1
 | k + 1 => Nat.lcm (lc f k) (f k).2.natAbs
theorem ZdW (f : Nat -> Int × Int) : ∀ (k j : Nat), j < k -> (f j).2.natAbs ∣ lc f k
 | 0, _, h => absurd h (Nat.not_lt_zero _)
 | k + 1, j, h => by
  by_cases hj : j = k
  · rw [hj]; exact Nat.dvd_lcm_right _ _
  · exact Nat.dvd_trans (ZdW f k j (by omega)) (Nat.dvd_lcm_left _ _)
theorem ZdX (f : Nat -> Int × Int) {s : Nat} : ∀ k, (∀ j, j < k -> (f j).2.natAbs ∣ s) -> lc f k ∣ s
 | 0, _ => Nat.one_dvd _
 | k + 1, h => Nat.lcm_dvd (ZdX f k fun j hj => h j (by omega)) (h k (by omega))
section
variable {m : Nat} {c : Mt} {f : Nat -> Int × Int}
theorem U0 (hs : Sol m c f) : ∀ k, 0 < lc f k
 | 0 => Nat.one_pos
 | k + 1 => Nat.lcm_pos (U0 hs k) (by have := hs.pos k; omega)
theorem QX (hs : Sol m c f) : ∀ k, Bd (127 * k) (lc f k : Int)
 | 0 => by show ((1 : Nat) : Int).natAbs <= 10 ^ (127 * 0); decide
 | k + 1 => by
  have h1 : lc f (k + 1) <= lc f k * (f k).2.natAbs := Nat.le_of_dvd (Nat.mul_pos (U0 hs k) (by have := hs.pos k; omega)) (Nat.lcm_dvd (Nat.dvd_mul_right _ _) (Nat.dvd_mul_left _ _))
  have h2 := (QX hs k).mul (hs.b2 k)
  unfold Bd at *
  rw [Int.natAbs_mul] at h2
  rw [Int.natAbs_natCast] at *
  exact Nat.le_trans h1 h2
theorem Zes (hs : Sol m c f) (k : Nat) : ((lc f k : Int) * (f k).2).fdiv (Int.gcd (lc f k) (f k).2 : Nat) = (lc f (k + 1) : Int) := by
 have hp := hs.pos k
 have e1 : (f k).2 = ((f k).2.natAbs : Int) := by omega
 have hg : Int.gcd (lc f k) (f k).2 = Nat.gcd (lc f k) (f k).2.natAbs := rfl
 rw [Int.fdiv_eq_ediv_of_nonneg _ (by omega), hg]
 conv => lhs; rw [show (f k).2 = ((f k).2.natAbs : Int) from e1]
 rw [Int.natAbs_natCast, <- Int.natCast_mul, <- Int.natCast_ediv]
 rfl
theorem V5 {a b : DL.Env -> Option Out} {δ δ' : DL.Env} (h : a δ = some (.nx δ')) : YB a b δ = b δ' := by
 unfold YB
 rw [h]
theorem Zco {a b : DL.Env -> Option Out} {δ : DL.Env} (h : a δ = some (.rt .non)) : YB a b δ = some (.rt .non) := by
 unfold YB
 rw [h]
theorem Za3 {n : Nat} {f : DL.Env -> Option Out} {vs : List D} {δ : DL.Env} {d : D} (h1 : (vs.map some ++ List.replicate (n - vs.length) none) = δ) (h2 : f δ = some (.rt d)) : Ut n f vs = some d := by
 unfold Ut
 rw [h1, h2]
noncomputable def p2 : DL.Env -> Option Out := (Zf 2 (Zp 2 UL [] (Zb (Zp 2 V0 [] (Zb (Za 0) (Zb (Za 1) eNil))) (Zb (eOp Y5 (Zz (Zb (eC (.int 1)) eNil)) (eCB lenD (Zb (Za 0) eNil))) eNil))))
noncomputable def pM : DL.Env -> Option D := (eCB minLD (Zb (ZO (ZU (Za 2)) (Zq 0) (fun _ => some true) (eOp ixD (Za 0) (eC (.int 0))) 1 []) eNil))
noncomputable def pI : DL.Env -> Option Out := (sIf (xOr (xB (Yv (Za 2))) (xB (eOp (Z3 fun i j => decide (i <= j)) pM (eC (.int 0))))) (Zn (eC .non)) sNext)
noncomputable def pY : DL.Env -> Option D := (eOp ixD (Za 4) (eC (.int 1)))
noncomputable def pL : DL.Env -> Option Out := (Zf 3 (eOp fdivW (eOp mulX (Za 3) pY) (Zp 2 Vn [] (Zb (Za 3) (Zb pY eNil)))))
noncomputable def pE : DL.Env -> Option D := (eOp mulX (eOp ixD (Za 0) (eC (.int 0))) (eOp fdivW (Za 1) (eOp ixD (Za 0) (eC (.int 1)))))
noncomputable def pZ : DL.Env -> Option D := (ZO (ZU (Za 2)) (Zq 0) (fun _ => some true) pE 1 [3])
theorem Zaw : f_QS = YB p2 (YB pI (YB (Zf 3 (eC (.int 1))) (YB (ZP (ZU (Za 2)) (Zq 4) pL) (Zn pZ)))) := rfl
abbrev P5 (T : List (List Int)) (n : Int) (v2 v3 v4 : Option D) : DL.Env := [some (TD T), some (.int n), v2, v3, v4]
def fnd (m : Nat) (f : Nat -> Int × Int) : List Int := (List.range m).map fun i => (f i).1 * ((lc f m : Int).fdiv (f i).2)
theorem ZgF (hs : Sol m c f) (hm : m <= 4) (T : List (List Int)) (n : Int) : ∃ w4, ZP (ZU (Za 2)) (Zq 4) pL (P5 T n (some (FD m f)) (some (.int 1)) none) = some (.nx (P5 T n (some (FD m f)) (some (.int (lc f m))) w4)) := by
 obtain ⟨δ', g, w4, e⟩ := XX (γ := Zq 4) (φ := pL) (fun k δ => ∃ w4, δ = P5 T n (some (FD m f)) (some (.int (lc f k))) w4) ((List.range m).map fun i => prD (f i)) 0 (P5 T n (some (FD m f)) (some (.int 1)) none) ⟨none, rfl⟩ (by
  rintro k x δ hx ⟨w4, rfl⟩
  have hk : k < m := by
   have := (List.getElem?_eq_some_iff.mp hx).1
   rwa [List.length_map, List.length_range] at this
  rw [List.getElem?_map, List.getElem?_range hk] at hx
  cases hx
  rw [Nat.zero_add]
  have hb : Bd 508 (lc f k : Int) := (QX hs k).mono (by omega)
  have hp := hs.pos k
  have eY : pY (P5 T n (some (FD m f)) (some (.int (lc f k))) (some (prD (f k)))) = some (.int (f k).2) := (Zi (x := prD (f k)) (y := .int 1) rfl rfl).trans rfl
  have eG : Zp 2 Vn [] (Zb (Za 3) (Zb pY eNil)) (P5 T n (some (FD m f)) (some (.int (lc f k))) (some (prD (f k)))) = some (.int (Int.gcd (lc f k) (f k).2 : Nat)) := (ZT (Zj (x := .int (lc f k)) rfl (Zj eY nil_of)) rfl).trans (Zch _ _)
  have hg : 0 < Int.gcd (lc f k) (f k).2 := Int.gcd_pos_of_ne_zero_right _ (by omega)
  have hgb : Bd 127 ((Int.gcd (lc f k) (f k).2 : Nat) : Int) := by
   have h1 : Int.gcd (lc f k) (f k).2 <= (f k).2.natAbs := Nat.le_of_dvd (by omega) (Nat.gcd_dvd_right _ _)
   have := hs.b2 k
   unfold Bd at *
   rw [Int.natAbs_natCast]
   exact Nat.le_trans h1 this
  exact ⟨P5 T n (some (FD m f)) (some (.int (lc f k))) (some (prD (f k))), rfl, _, ZB ((Zi ((Zi (x := .int (lc f k)) rfl eY).trans (Vp hb (hs.b2 k) (by decide) (by decide))) eG).trans ((US hgb (by decide) (by omega)).trans (by rw [Zes hs k]))), some (prD (f k)), rfl⟩)
 subst e
 rw [List.length_map, List.length_range, Nat.zero_add] at g
 exact ⟨w4, YI (Xn rfl) g⟩
theorem ZgG (hs : Sol m c f) (hm : m <= 4) (T : List (List Int)) (n : Int) (v4 : Option D) : pZ (P5 T n (some (FD m f)) (some (.int (lc f m))) v4) = some (IL (fnd m f)) := by
 have hb : Bd 508 (lc f m : Int) := (QX hs m).mono (by omega)
 have hc : ZX (Zq 0) (fun _ => some true) pE [none, some (.int (lc f m))] ((List.range m).map fun i => prD (f i)) = some ((List.range m).map fun i => D.int ((f i).1 * ((lc f m : Int).fdiv (f i).2))) := YW (fun i => prD (f i)) (fun i => D.int ((f i).1 * ((lc f m : Int).fdiv (f i).2))) _ fun i _ => ⟨[some (prD (f i)), some (.int (lc f m))], rfl, by
  have hp := hs.pos i
  exact (Zi (x := .int (f i).1) ((Zi (x := prD (f i)) (y := .int 0) rfl rfl).trans rfl) ((Zi (x := .int (lc f m)) (y := .int (f i).2) rfl ((Zi (x := prD (f i)) (y := .int 1) rfl rfl).trans rfl)).trans (US (hs.b2 i) (by decide) (by omega)))).trans (Vp (hs.b1 i) (hb.div hp) (by decide) (by decide))⟩
 refine (YT (Xn rfl) rfl hc (by rw [List.length_map, List.length_range]; omega)).trans ?_
 unfold fnd
 rw [IL, List.map_map]
 rfl
theorem ZgH (h1 : 1 <= m) (hm : m <= 4) (f : Nat -> Int × Int) (T : List (List Int)) (n : Int) (v3 v4 : Option D) : ∃ i, pM (P5 T n (some (FD m f)) v3 v4) = some (.int i) /\ ((∀ k, k < m -> 0 < (f k).1) ↔ 0 < i) := by
 have hc : ZX (Zq 0) (fun _ => some true) (eOp ixD (Za 0) (eC (.int 0))) [none] ((List.range m).map fun i => prD (f i)) = some ((List.range m).map fun i => D.int (f i).1) := YW (fun i => prD (f i)) (fun i => D.int (f i).1) _ fun i _ => ⟨[some (prD (f i))], rfl, (Zi (x := prD (f i)) (y := .int 0) rfl rfl).trans rfl⟩
 have e : (List.range m).map (fun i => D.int (f i).1) = ((List.range m).map fun i => (f i).1).map D.int := by rw [List.map_map]; rfl
 rw [e] at hc
 have hl : 0 < ((List.range m).map fun i => (f i).1).length := by rw [List.length_map, List.length_range]; omega
 obtain ⟨z1, z2⟩ := JM hl
 refine ⟨Xj ((List.range m).map fun i => (f i).1), ?_, fun h => ?_, fun h k hk => ?_⟩
 · have e2 : minLD [.lst (((List.range m).map fun i => (f i).1).map D.int)] = some (.int (Xj ((List.range m).map fun i => (f i).1))) := by
    unfold minLD
    dsimp only
    rw [Qp]
    exact if_pos hl
   exact (Z5 (Zj (YT (Xn rfl) rfl hc (by rw [List.length_map, List.length_map, List.length_range]; omega)) nil_of)).trans e2
 · obtain ⟨k, hk, e3⟩ := List.mem_map.mp z1
   rw [<- e3]
   exact h k (List.mem_range.mp hk)
 · have := z2 (f k).1 (List.mem_map.mpr ⟨k, List.mem_range.mpr hk, rfl⟩)
   omega
end
end K27
namespace K27
open DL L2
theorem sgA {a x y N d : Int} (ha : a ≠ 0) (h1 : N = a * x) (h2 : d = a * y) (hy : 0 < y) (hd : 0 < d) (hN : 0 < N) : 0 < x := by
 have hp : 0 < a := by
  refine Int.not_le.mp fun z => ?_
  have := Int.mul_nonpos_of_nonneg_of_nonpos (Int.le_of_lt hy) z
  rw [Int.mul_comm] at this
  omega
 refine Int.not_le.mp fun z => ?_
 have := Int.mul_nonpos_of_nonneg_of_nonpos (Int.le_of_lt hp) z
 omega
theorem sgB {a x y N d s : Int} (ha : a ≠ 0) (h1 : N = a * x) (h2 : d = a * y) (hy : 0 < y) (hx : 0 < x) (hs : s = 1 \/ s = -1) (hd : 0 < s * d) : 0 < s * N := by
 have hp : 0 < s * a := by
  refine Int.not_le.mp fun z => ?_
  have := Int.mul_nonpos_of_nonneg_of_nonpos (Int.le_of_lt hy) z
  rw [h2, <- Int.mul_assoc, Int.mul_comm] at hd
  omega
 rw [h1, <- Int.mul_assoc]
 exact Int.mul_pos hp hx
section
variable {m : Nat} {T : List (List Int)} {n : Int}
theorem ZgI (h : TbW m T) (hn : Bd 13 n) : Tb m (Yd T n m m) (Va m) := by
 have hq := Zeo h.sq hn
 refine ⟨h.m1, h.m4, ⟨hq.ln, hq.rw, fun r hr x hx => (hq.bd r hr x hx).mono (by decide)⟩, by unfold Va; rw [List.length_replicate], fun x hx => ?_⟩
 rw [List.eq_of_mem_replicate hx]
 show (1 : Int).natAbs <= 10 ^ 31
 decide
theorem Zet (h : TbW m T) (v2 v3 v4 : Option D) : eOp Y5 (Zz (Zb (eC (.int 1)) eNil)) (eCB lenD (Zb (Za 0) eNil)) (P5 T n v2 v3 v4) = some (IL (Va m)) := by
 have h4 := h.m4
 have e1 : Zz (Zb (eC (.int 1)) eNil) (P5 T n v2 v3 v4) = some (.lst [.int 1]) := QD (Zj (x := .int 1) rfl nil_of) (by show 1 <= 1000; decide)
 have e2 : eCB lenD (Zb (Za 0) eNil) (P5 T n v2 v3 v4) = some (.int (m : Int)) := (Z5 (Zj (x := TD T) rfl nil_of)).trans (len_lst.trans (by rw [List.length_map, h.ln]))
 have e3 : Y5 (.lst [.int 1]) (.int (m : Int)) = some (.lst (List.replicate m [D.int 1]).flatten) := Zcd (a := [.int 1]) (n := m) (by show 1 * m <= 100000; omega) (by omega)
 refine (Zi e1 e2).trans (e3.trans ?_)
 unfold Va
 rw [IL, List.map_replicate]
 have : ∀ k : Nat, (List.replicate k [D.int 1]).flatten = List.replicate k (D.int 1) := fun k => by
  induction k with
  | zero => rfl
  | succ k ih => rw [List.replicate_succ, List.flatten_cons, ih, List.replicate_succ]; rfl
 rw [this]
theorem Zds (h : TbW m T) (hn : Bd 13 n) : (YK T n m = false /\ V1 [TD T, .int n] = some .non) \/ (YK T n m = true /\ ∃ f, Sol m (c0 T n m) f /\ (∀ i, i < m -> 0 < (f i).1) /\ 0 < dm m (c0 T n m) /\ V1 [TD T, .int n] = some (IL (fnd m f))) := by
 have h4 := h.m4
 have h1 := h.m1
 have hTb := ZgI h hn
 have eS : Zp 2 V0 [] (Zb (Za 0) (Zb (Za 1) eNil)) (P5 T n none none none) = some (TD (Yd T n m m)) := (ZT (Zj (x := TD T) rfl (Zj (x := .int n) rfl nil_of)) rfl).trans (Zdl h.sq h4 n)
 have ea : Zb (Zp 2 V0 [] (Zb (Za 0) (Zb (Za 1) eNil))) (Zb (eOp Y5 (Zz (Zb (eC (.int 1)) eNil)) (eCB lenD (Zb (Za 0) eNil))) eNil) (P5 T n none none none) = some [TD (Yd T n m m), IL (Va m)] := Zj eS (Zj (Zet h _ _ _) nil_of)
 rcases ZcT hTb with ⟨z, hs⟩ | ⟨z, f, hs, hf⟩
 · left
   have t2 : p2 (P5 T n none none none) = some (.nx (P5 T n (some .non) none none)) := ZB ((ZT ea rfl).trans hs)
   refine ⟨?_, Za3 (δ := P5 T n none none none) rfl ?_⟩
   · refine Bool.eq_false_iff.mpr fun hb => ?_
     have := (Zav h.nn h4 hb).1
     have z' : dm m (c0 T n m) = 0 := z
     omega
   · rw [Zaw, V5 t2]
     exact Zco ((Xk (show (xOr _ _) _ = some true from rfl)).trans (ZQ rfl))
 · have t2 : p2 (P5 T n none none none) = some (.nx (P5 T n (some (FD m f)) none none)) := ZB ((ZT ea rfl).trans hf)
   obtain ⟨i, ei, hi⟩ := ZgH h1 h4 f T n none none
   have et : xOr (xB (Yv (Za 2))) (xB (eOp (Z3 fun i j => decide (i <= j)) pM (eC (.int 0)))) (P5 T n (some (FD m f)) none none) = some (decide (i <= 0)) := JO (Z0 rfl) (Z0 ((Zi (y := .int 0) ei rfl).trans rfl))
   by_cases hpos : ∀ k, k < m -> 0 < (f k).1
   · right
     have hi0 := hi.mp hpos
     rw [decide_eq_false (by omega)] at et
     have hslow : YK T n m = true := by
      have hz : dm m (c0 T n m) ≠ 0 := z
      obtain ⟨s, hss, hsd⟩ : ∃ s : Int, (s = 1 \/ s = -1) /\ 0 < s * dm m (c0 T n m) := by
       rcases Int.lt_or_gt_of_ne hz with q | q
       · exact ⟨-1, .inr rfl, by omega⟩
       · exact ⟨1, .inl rfl, by omega⟩
      refine Zdr h.nn h1 h4 hss hsd fun k hk => ?_
      obtain ⟨a, a0, a1, a2⟩ := hs.fit k hk
      exact sgB a0 a1 a2 (hs.pos k) (hpos k hk) hss hsd
     refine ⟨hslow, f, hs, hpos, (Zav h.nn h4 hslow).1, Za3 (δ := P5 T n none none none) rfl ?_⟩
     obtain ⟨w4, gL⟩ := ZgF hs h4 T n
     have tI : pI (P5 T n (some (FD m f)) none none) = some (.nx (P5 T n (some (FD m f)) none none)) := (Yw et).trans rfl
     have t3 : Zf 3 (eC (.int 1)) (P5 T n (some (FD m f)) none none) = some (.nx (P5 T n (some (FD m f)) (some (.int 1)) none)) := ZB rfl
     rw [Zaw, V5 t2, V5 tI, V5 t3, V5 gL]
     exact ZQ (ZgG hs h4 T n w4)
   · left
     have hi0 : i <= 0 := Int.not_lt.mp fun q => hpos (hi.mpr q)
     rw [decide_eq_true hi0] at et
     refine ⟨?_, Za3 (δ := P5 T n none none none) rfl ?_⟩
     · refine Bool.eq_false_iff.mpr fun hb => hpos fun k hk => ?_
       obtain ⟨q1, q2⟩ := Zav h.nn h4 hb
       obtain ⟨a, a0, a1, a2⟩ := hs.fit k hk
       exact sgA a0 a1 a2 (hs.pos k) q1 (q2 k hk)
     · rw [Zaw, V5 t2]
       exact Zco ((Xk et).trans (ZQ rfl))
theorem QY (m : Nat) (f : Nat -> Int × Int) {i : Nat} (hi : i < m) : (fnd m f).getD i 0 = (f i).1 * ((lc f m : Int).fdiv (f i).2) := by
 unfold fnd
 rw [List.getD_eq_getElem?_getD, List.getElem?_map, List.getElem?_range hi]
 rfl
end
end K27
namespace K27
open DL L2
section
variable {m : Nat} {T : List (List Int)} {n : Int} {f : Nat -> Int × Int}
theorem ZfC {c : Mt} (hs : Sol m c f) {i : Nat} (hi : i < m) : (f i).2 * ((lc f m : Int).fdiv (f i).2) = lc f m /\ 0 < (lc f m : Int).fdiv (f i).2 := by
 have hp := hs.pos i
 obtain ⟨w, hw⟩ := ZdW f m i hi
 have e1 : (lc f m : Int) = (f i).2 * (w : Int) := by
  rw [hw, Int.natCast_mul]
  rw [show (((f i).2.natAbs : Nat) : Int) = (f i).2 by omega]
 have e2 : (lc f m : Int).fdiv (f i).2 = w := by rw [e1, Int.mul_fdiv_cancel_left _ (by omega)]
 rw [e2]
 refine ⟨e1.symm, ?_⟩
 have hl := U0 hs m
 refine Int.not_le.mp fun z => ?_
 have : w = 0 := by omega
 rw [this] at hw
 omega
theorem Zcp {α : Type} {d e : Int} {f g : α -> Int} : ∀ l : List α, (∀ x ∈ l, d * f x = e * g x) -> d * (l.map f).sum = e * (l.map g).sum
 | [], _ => by simp
 | x :: l, h => by
  have h1 := Zcp (d := d) (e := e) (f := f) (g := g) l fun y hy => h y (List.mem_cons_of_mem _ hy)
  have h2 := h x List.mem_cons_self
  rw [List.map_cons, List.map_cons, List.sum_cons, List.sum_cons, Int.mul_add, Int.mul_add, h1, h2]
theorem Zbx (n : Int) (g t : Nat -> Int) (j : Nat) : ∀ m : Nat, ((List.range m).map fun k => ((if k = j then n else 0) - t k) * g k).sum = (if j < m then n * g j else 0) - ((List.range m).map fun k => g k * t k).sum
 | 0 => by simp
 | m + 1 => by
  have ih := Zbx n g t j m
  rw [List.range_succ, List.map_append, List.map_append, List.sum_append, List.sum_append, ih]
  simp only [List.map_cons, List.map_nil, List.sum_cons, List.sum_nil]
  by_cases h1 : m = j
  · subst h1
    rw [if_pos rfl, if_neg (Nat.lt_irrefl _), if_pos (by omega), Int.sub_mul, Int.mul_comm (t m)]
    omega
  · rw [if_neg h1, Int.sub_mul, Int.zero_mul, Int.mul_comm (t m)]
    by_cases h2 : j < m
    · rw [if_pos h2, if_pos (by omega)]
      omega
    · rw [if_neg h2, if_neg (by omega)]
      omega
theorem Zeu (h1 : 1 <= m) (h4 : m <= 4) (hs : Sol m (c0 T n m) f) (hd : 0 < dm m (c0 T n m)) {j : Nat} (hj : j < m) : n * (fnd m f).getD j 0 - ((List.range m).map fun k => (fnd m f).getD k 0 * at2 T k j).sum = lc f m := by
 have hc := ZdM m (c0 T n m) h1 h4 j hj
 rw [ZdV hj, Int.one_mul] at hc
 have h2 : dm m (c0 T n m) * ((List.range m).map fun k => c0 T n m j k * (fnd m f).getD k 0).sum = (lc f m : Int) * ((List.range m).map fun k => c0 T n m j k * Mn m (c0 T n m) k m).sum := Zcp _ fun k hk => by
  have hk := List.mem_range.mp hk
  obtain ⟨a, a0, a1, a2⟩ := hs.fit k hk
  obtain ⟨w1, _⟩ := ZfC hs hk
  rw [QY m f hk, a1]
  generalize (lc f m : Int).fdiv (f k).2 = w at *
  rw [<- w1]
  conv => lhs; rw [a2]
  grind
 rw [hc, Int.mul_comm (lc f m : Int)] at h2
 have h3 := Int.eq_of_mul_eq_mul_left (Int.ne_of_gt hd) h2
 have e : ((List.range m).map fun k => c0 T n m j k * (fnd m f).getD k 0) = (List.range m).map fun k => ((if k = j then n else 0) - at2 T k j) * (fnd m f).getD k 0 := List.map_congr_left fun k hk => by rw [ZdZ hj (List.mem_range.mp hk)]
 rw [e, Zbx n (fun k => (fnd m f).getD k 0) (fun k => at2 T k j) j m, if_pos hj] at h3
 exact h3
theorem Zev (hs : Sol m (c0 T n m) f) (hpos : ∀ i, i < m -> 0 < (f i).1) {i : Nat} (hi : i < m) : 0 < (fnd m f).getD i 0 := by
 rw [QY m f hi]
 exact Int.mul_pos (hpos i hi) (ZfC hs hi).2
theorem Zew (hs : Sol m (c0 T n m) f) {g : Nat} (hg : g ∣ lc f m) (hf : ∀ i, i < m -> (g : Int) ∣ (fnd m f).getD i 0) : g = 1 := by
 obtain ⟨s, hsd⟩ := hg
 have hlp := U0 hs m
 have key : lc f m ∣ s := ZdX f m fun i hi => by
  obtain ⟨w1, w2⟩ := ZfC hs hi
  obtain ⟨t, ht⟩ := hf i hi
  rw [QY m f hi] at ht
  have hg0 : (g : Int) ≠ 0 := fun z => by
   have : g = 0 := by omega
   rw [this, Nat.zero_mul] at hsd
   omega
  have e1 : (f i).1 * (s : Int) = (f i).2 * t := by
   refine Int.eq_of_mul_eq_mul_left hg0 ?_
   have e2 : (g : Int) * (s : Int) = lc f m := by rw [hsd, Int.natCast_mul]
   calc (g : Int) * ((f i).1 * (s : Int)) = (f i).1 * ((g : Int) * (s : Int)) := by grind
    _ = (f i).1 * ((f i).2 * (lc f m : Int).fdiv (f i).2) := by rw [e2, w1]
    _ = (f i).2 * ((f i).1 * (lc f m : Int).fdiv (f i).2) := by grind
    _ = (f i).2 * ((g : Int) * t) := by rw [ht]
    _ = (g : Int) * ((f i).2 * t) := by grind
  have hdv : (f i).2 ∣ (f i).1 * (s : Int) := ⟨t, e1⟩
  have hco : Nat.Coprime (f i).2.natAbs (f i).1.natAbs := by
   have := hs.gcd i
   rw [Int.gcd_comm] at this
   exact this
  have h2 := Int.natAbs_dvd_natAbs.mpr hdv
  rw [Int.natAbs_mul, Int.natAbs_natCast] at h2
  exact Nat.Coprime.dvd_of_dvd_mul_left hco h2
 have hs0 : 0 < s := Nat.pos_of_ne_zero fun z => by rw [z, Nat.mul_zero] at hsd; omega
 have hle := Nat.le_of_dvd hs0 key
 rw [hsd] at hle
 have hg0 : 0 < g := Nat.pos_of_ne_zero fun z => by rw [z, Nat.zero_mul] at hsd; omega
 refine Nat.le_antisymm (Nat.not_lt.mp fun q => ?_) hg0
 have : 2 * s <= g * s := Nat.mul_le_mul_right s q
 omega
noncomputable def uT : DL.Env -> Option Bool := (xB (eOp neD (Za 2) (eC (.int 0))))
noncomputable def uB : DL.Env -> Option Out := (Zd (Zf 3 (eOp modW (Za 1) (Za 2))) (Zd (Zf 1 (Za 2)) (Zf 2 (Za 3))))
theorem Zdt : f_QI = Zd (Zf 1 (eC (.int 0))) (Zd (ZP (ZU (Za 0)) (Zq 2) (YD uT uB)) (Zn (eOp eqD (Za 1) (eC (.int 1))))) := rfl
def muA : DL.Env -> Nat
 | [_, _, some (.int y), _] => y.natAbs
 | _ => 0
theorem euA (X : D) (g k : Nat) (v : Option D) : ∃ δ, YD uT uB [some X, some (nD g), some (nD k), v] = some (.nx δ) /\ ∃ w2 w3, δ = [some X, some (nD (Nat.gcd g k)), w2, w3] := by
 obtain ⟨δ, h1, x, w3, h2, h3⟩ := Zau (τ := uT) (φ := uB) (fun δ => ∃ (x y : Nat) (v : Option D), δ = [some X, some (nD x), some (nD y), v] /\ Nat.gcd x y = Nat.gcd g k) (fun δ => ∃ (x : Nat) (w3 : Option D), δ = [some X, some (nD x), some (nD 0), w3] /\ x = Nat.gcd g k) muA (by
  rintro δ ⟨x, y, v, rfl, hg⟩
  have et : uT [some X, some (nD x), some (nD y), v] = some (!decide ((y : Int) = 0)) := Z0 ((Zi (x := nD y) (y := .int 0) rfl rfl).trans (XB _ _))
  by_cases hy : y = 0
  · subst hy
    refine .inl ⟨et, x, v, rfl, ?_⟩
    rw [<- hg, Nat.gcd_zero_right]
  · rw [decide_eq_false (by omega)] at et
    have em : eOp modW (Za 1) (Za 2) [some X, some (nD x), some (nD y), v] = some (nD (x % y)) := (Zi (x := nD x) (y := nD y) rfl rfl).trans ((X9 (by omega)).trans (by rw [Int.fmod_eq_emod_of_nonneg _ (by omega)]; rfl))
    have t1 : Zf 3 (eOp modW (Za 1) (Za 2)) [some X, some (nD x), some (nD y), v] = some (.nx [some X, some (nD x), some (nD y), some (nD (x % y))]) := ZB em
    refine .inr ⟨et, [some X, some (nD y), some (nD (x % y)), some (nD (x % y))], (Zr t1).trans rfl, ⟨y, x % y, _, rfl, ?_⟩, ?_⟩
    · rw [<- hg, Nat.gcd_comm x y, Nat.gcd_rec y x, Nat.gcd_comm]
    · show ((x % y : Nat) : Int).natAbs < ((y : Nat) : Int).natAbs
      rw [Int.natAbs_natCast, Int.natAbs_natCast]
      exact Nat.mod_lt _ (by omega)) [some X, some (nD g), some (nD k), v] ⟨g, k, v, rfl, rfl⟩
 subst h2
 exact ⟨_, h1, some (nD 0), w3, by rw [h3]⟩
theorem Zdu (l : List Nat) : UO [AD l] = some (.bl (decide (((l.foldl Nat.gcd 0 : Nat) : Int) = 1))) := by
 have hl : ∀ (l2 : List Nat) (g : Nat) (w2 w3 : Option D), ∃ w2' w3', Yf (Zq 2) (YD uT uB) (l2.map nD) [some (AD l), some (nD g), w2, w3] = some (.nx [some (AD l), some (nD (l2.foldl Nat.gcd g)), w2', w3']) := fun l2 => by
  induction l2 with
  | nil => exact fun g w2 w3 => ⟨w2, w3, rfl⟩
  | cons x l2 ih =>
   intro g w2 w3
   obtain ⟨δ, h1, u2, u3, h2⟩ := euA (AD l) g x w3
   subst h2
   obtain ⟨w2', w3', h3⟩ := ih (Nat.gcd g x) u2 u3
   refine ⟨w2', w3', ?_⟩
   rw [List.map_cons]
   unfold Yf
   have hγ : Zq 2 (nD x) [some (AD l), some (nD g), w2, w3] = some [some (AD l), some (nD g), some (nD x), w3] := rfl
   rw [hγ]
   dsimp only
   rw [h1]
   exact h3
 obtain ⟨w2, w3, g⟩ := hl l 0 none none
 refine Yh (δ := [some (AD l), none, none, none]) rfl ?_
 have t1 : Zf 1 (eC (.int 0)) [some (AD l), none, none, none] = some (.nx [some (AD l), some (nD 0), none, none]) := ZB rfl
 rw [Zdt, Zr t1, Zr (YI (Xn rfl) g)]
 exact ZQ ((Zi (x := nD (l.foldl Nat.gcd 0)) (y := .int 1) rfl rfl).trans (YS _ _))
theorem Zby : ∀ (l : List Nat) (g : Nat), l.foldl Nat.gcd g ∣ g /\ ∀ x ∈ l, l.foldl Nat.gcd g ∣ x
 | [], g => ⟨Nat.dvd_refl _, fun _ z => nomatch z⟩
 | y :: l, g => by
  obtain ⟨h1, h2⟩ := Zby l (Nat.gcd g y)
  refine ⟨Nat.dvd_trans h1 (Nat.gcd_dvd_left _ _), fun x hx => ?_⟩
  rcases List.mem_cons.mp hx with rfl | hx
  · exact Nat.dvd_trans h1 (Nat.gcd_dvd_right _ _)
  · exact h2 x hx
end
end K27
namespace K27
open DL L2
theorem ZgJ (r : List Int) : Sh 1 (IL r) := QU (QW fun a => J9 0 _)
theorem Zex {tab : List (String × Bool)} {ε : DL.Env -> Option D} {δ : DL.Env} {d : D} {b : Bool} (h : ε δ = some d) (hb : YA tab (fun _ => some d) δ = some (.bl b)) : YA tab ε δ = some (.bl b) := by
 unfold YA at *
 rw [h]
 exact hb
noncomputable def j0 : DL.Env -> Option Out := (sIf (xOr (Z9 (xB (YA QJ (Za 0)))) (xB (eOp neD (eCB lenD (Zb (Za 0) eNil)) (Za 1)))) (Zn (eC (.bl false))) sNext)
noncomputable def j1 : DL.Env -> Option Out := (sIf (Z9 (xB (Zp 1 UM [] (Zb (Za 2) eNil)))) (Zn (eC (.bl false))) sNext)
theorem Zfz : f_QO = Zd j0 (Zd (ZP (ZU (Za 0)) (Zq 2) j1) (Zn (eC (.bl true)))) := rfl
theorem Zey {F : List Int} {m : Nat} (hl : F.length = m) : QL [IL F, nD m] = some (.bl true) := by
 have t0 : j0 [some (IL F), some (nD m), none] = some (.nx [some (IL F), some (nD m), none]) := (Yw (JO (UD (b := true) (Z0 (Zex (d := IL F) rfl rfl))) (Z0 ((Zi (x := nD m) (y := nD m) ((Z5 (Zj (x := IL F) rfl nil_of)).trans (len_lst.trans (by rw [List.length_map, hl]))) rfl).trans ((XB _ _).trans (by rw [decide_eq_true rfl]; rfl)))))).trans rfl
 obtain ⟨δ', g, v2, e⟩ := JQ (γ := Zq 2) (φ := j1) (fun δ => ∃ v2, δ = [some (IL F), some (nD m), v2]) (F.map D.int) [some (IL F), some (nD m), none] ⟨none, rfl⟩ (by
  rintro x hx δ ⟨v2, rfl⟩
  obtain ⟨i, _, rfl⟩ := List.mem_map.mp hx
  exact ⟨[some (IL F), some (nD m), some (.int i)], rfl, _, (Yw (UD (b := true) (Z0 ((ZT (Zj (x := .int i) rfl nil_of) rfl).trans (ZcR _))))).trans rfl, _, rfl⟩)
 subst e
 refine Yh (δ := [some (IL F), some (nD m), none]) rfl ?_
 rw [Zfz, Zr t0, Zr (YI (Xn rfl) g)]
 exact ZQ rfl
noncomputable def z3 : DL.Env -> Option Out := (Zf 3 (eCB lenD (Zb (Za 0) eNil)))
noncomputable def zI : DL.Env -> Option Out := (sIf (xOr (Z9 (xB (Zp 2 QL [] (Zb (Za 2) (Zb (Za 3) eNil))))) (xB (eOp (Z3 fun i j => decide (i <= j)) (eCB minLD (Zb (Za 2) eNil)) (eC (.int 0))))) (Zn (eC (.bl false))) sNext)
noncomputable def zE : DL.Env -> Option D := (eOp mulX (eOp ixD (Za 1) (Za 0)) (eOp ixD (eOp ixD (Za 2) (Za 0)) (Za 3)))
noncomputable def zC : DL.Env -> Option D := (ZO (ZE (Zb (Za 3) eNil)) (Zq 0) (fun _ => some true) zE 1 [2, 0, 5])
noncomputable def zA : DL.Env -> Option Out := (Z4 4 (eOp subD (eOp mulX (Za 1) (eOp ixD (Za 2) (Za 5))) (eCB sumLD (Zb zC eNil))))
noncomputable def z0 : DL.Env -> Option D := (eOp ixD (Za 4) (eC (.int 0)))
noncomputable def zR : DL.Env -> Option D := (Yq (eOp (Z3 fun i j => decide (j < i)) z0 (eC (.int 0))) (Yq (eOp eqD (Za 4) (eOp Y5 (Zz (Zb z0 eNil)) (Za 3))) (Zp 1 UO [] (Zb (eOp addX (Za 2) (Zz (Zb z0 eNil))) eNil))))
theorem ZbR : f_QE = Zd z3 (Zd zI (Zd (Zf 4 (Zz eNil)) (Zd (ZP (ZE (Zb (Za 3) eNil)) (Zq 5) zA) (Zn zR)))) := rfl
theorem Zg4 {ι : DL.Env -> Option (List D)} {δ : DL.Env} {m : Nat} (h : ι δ = some [.int (m : Int)]) (hm : m <= 4) : ZE ι δ = some ((List.range m).map nD) := by
 rw [<- JY]
 exact (XY h (by omega) (by omega)).trans (by rw [Int.toNat_natCast])
abbrev Z6 (T : List (List Int)) (n : Int) (F : List Int) (v3 v4 v5 : Option D) : DL.Env := [some (TD T), some (.int n), some (IL F), v3, v4, v5]
section
variable {m : Nat} {T : List (List Int)} {n : Int} {f : Nat -> Int × Int}
theorem Za4 : (fnd m f).length = m := by unfold fnd; rw [List.length_map, List.length_range]
theorem ZdY (hs : Sol m (c0 T n m) f) (h4 : m <= 4) {i : Nat} (hi : i < m) : Bd 635 ((fnd m f).getD i 0) := by
 rw [QY m f hi]
 have hb : Bd 508 (lc f m : Int) := (QX hs m).mono (by omega)
 exact (hs.b1 i).mul (hb.div (hs.pos i))
theorem ZgK (h : TbW m T) (hn : Bd 13 n) (hs : Sol m (c0 T n m) f) (hd : 0 < dm m (c0 T n m)) {j : Nat} (hj : j < m) (xs : List D) (hx : xs.length <= 4) : zA (Z6 T n (fnd m f) (some (nD m)) (some (.lst xs)) (some (nD j))) = some (.nx (Z6 T n (fnd m f) (some (nD m)) (some (.lst (xs ++ [nD (lc f m)]))) (some (nD j)))) := by
 have h4 := h.m4
 have hat : ∀ {i : Nat}, i < m -> ixD (IL (fnd m f)) (nD i) = some (.int ((fnd m f).getD i 0)) := fun hi => UH (by rw [Za4]; exact hi)
 have hc : ZX (Zq 0) (fun _ => some true) zE [none, some (IL (fnd m f)), some (TD T), some (nD j)] ((List.range m).map nD) = some ((List.range m).map fun k => D.int ((fnd m f).getD k 0 * at2 T k j)) := YW nD (fun k => D.int ((fnd m f).getD k 0 * at2 T k j)) _ fun k hk => ⟨[some (nD k), some (IL (fnd m f)), some (TD T), some (nD j)], rfl, by
  have hk := List.mem_range.mp hk
  exact (Zi ((Zi (x := IL (fnd m f)) (y := nD k) rfl rfl).trans (hat hk)) ((Zi (y := nD j) ((Zi (x := TD T) (y := nD k) rfl rfl).trans (J0 h.sq hk)) rfl).trans (J4 h.sq hk hj))).trans (Vp (ZdY hs h4 hk) (UU h.sq hk hj) (by decide) (by decide))⟩
 have e : (List.range m).map (fun k => D.int ((fnd m f).getD k 0 * at2 T k j)) = ((List.range m).map fun k => (fnd m f).getD k 0 * at2 T k j).map D.int := by rw [List.map_map]; rfl
 rw [e] at hc
 have eC : eCB sumLD (Zb zC eNil) (Z6 T n (fnd m f) (some (nD m)) (some (.lst xs)) (some (nD j))) = some (.int ((List.range m).map fun k => (fnd m f).getD k 0 * at2 T k j).sum) := (Z5 (Zj (YT (Zg4 (Zj rfl nil_of) h4) rfl hc (by rw [List.length_map, List.length_map, List.length_range]; omega)) nil_of)).trans (Zbw _)
 have eM : eOp mulX (Za 1) (eOp ixD (Za 2) (Za 5)) (Z6 T n (fnd m f) (some (nD m)) (some (.lst xs)) (some (nD j))) = some (.int (n * (fnd m f).getD j 0)) := (Zi (x := .int n) rfl ((Zi (x := IL (fnd m f)) (y := nD j) rfl rfl).trans (hat hj))).trans (Vp hn (ZdY hs h4 hj) (by decide) (by decide))
 have eV : eOp subD (eOp mulX (Za 1) (eOp ixD (Za 2) (Za 5))) (eCB sumLD (Zb zC eNil)) (Z6 T n (fnd m f) (some (nD m)) (some (.lst xs)) (some (nD j))) = some (nD (lc f m)) := (Zi eM eC).trans ((UT _ _).trans (by rw [Zeu h.m1 h4 hs hd hj]))
 exact Vm (xs := xs) rfl eV (by omega)
theorem ZbS (h : TbW m T) (hn : Bd 13 n) (hs : Sol m (c0 T n m) f) (hpos : ∀ i, i < m -> 0 < (f i).1) (hd : 0 < dm m (c0 T n m)) : QP [TD T, .int n, IL (fnd m f)] = some (.bl true) := by
 have h4 := h.m4
 have h1 := h.m1
 have hlen : (fnd m f).length = m := Za4
 have t3 : z3 (Z6 T n (fnd m f) none none none) = some (.nx (Z6 T n (fnd m f) (some (nD m)) none none)) := ZB ((Z5 (Zj (x := TD T) rfl nil_of)).trans (len_lst.trans (by rw [List.length_map, h.ln])))
 have hmem : ∀ x ∈ fnd m f, 0 < x := fun x hx => by
  obtain ⟨i, hi, e⟩ := List.mem_iff_getElem.mp hx
  have := Zev hs hpos (i := i) (by omega)
  rw [List.getD_eq_getElem?_getD, List.getElem?_eq_getElem hi] at this
  rw [<- e]
  exact this
 obtain ⟨q1, _⟩ := JM (ns := fnd m f) (by omega)
 have hmin := hmem _ q1
 have eM : eCB minLD (Zb (Za 2) eNil) (Z6 T n (fnd m f) (some (nD m)) none none) = some (.int (Xj (fnd m f))) := by
  refine (Z5 (Zj (x := IL (fnd m f)) rfl nil_of)).trans ?_
  unfold minLD
  dsimp only
  rw [Qp]
  exact if_pos (by omega)
 have tI : zI (Z6 T n (fnd m f) (some (nD m)) none none) = some (.nx (Z6 T n (fnd m f) (some (nD m)) none none)) := (Yw (JO (UD (b := true) (Z0 ((ZT (Zj (x := IL (fnd m f)) rfl (Zj (x := nD m) rfl nil_of)) rfl).trans (Zey hlen)))) (Z0 ((Zi (y := .int 0) eM rfl).trans (show some (D.bl (decide (Xj (fnd m f) <= 0))) = some (.bl false) by rw [decide_eq_false (by omega)]))))).trans rfl
 have t4 : Zf 4 (Zz eNil) (Z6 T n (fnd m f) (some (nD m)) none none) = some (.nx (Z6 T n (fnd m f) (some (nD m)) (some (.lst [])) none)) := ZB rfl
 obtain ⟨δ', g, w5, e⟩ := XX (γ := Zq 5) (φ := zA) (fun k δ => ∃ w5, δ = Z6 T n (fnd m f) (some (nD m)) (some (AD (List.replicate k (lc f m)))) w5) ((List.range m).map nD) 0 (Z6 T n (fnd m f) (some (nD m)) (some (.lst [])) none) ⟨none, rfl⟩ (by
  rintro k x δ hx ⟨w5, rfl⟩
  have hk : k < m := by
   have := (List.getElem?_eq_some_iff.mp hx).1
   rwa [List.length_map, List.length_range] at this
  rw [List.getElem?_map, List.getElem?_range hk] at hx
  cases hx
  rw [Nat.zero_add]
  refine ⟨Z6 T n (fnd m f) (some (nD m)) (some (AD (List.replicate k (lc f m)))) (some (nD k)), rfl, _, ZgK h hn hs hd hk _ (by rw [List.length_map, List.length_replicate]; omega), some (nD k), ?_⟩
  rw [List.replicate_succ', AD, List.map_append]
  rfl)
 subst e
 rw [List.length_map, List.length_range, Nat.zero_add] at g
 have hgo : ∀ w5, zR (Z6 T n (fnd m f) (some (nD m)) (some (AD (List.replicate m (lc f m)))) w5) = some (.bl true) := fun w5 => by
  have e0 : z0 (Z6 T n (fnd m f) (some (nD m)) (some (AD (List.replicate m (lc f m)))) w5) = some (nD (lc f m)) := (Zi (x := AD (List.replicate m (lc f m))) (y := nD 0) rfl rfl).trans ((J5 (by rw [List.length_replicate]; omega)).trans (by rw [List.getD_eq_getElem?_getD, List.getElem?_replicate, if_pos (by omega)]; rfl))
  have hlp := U0 hs m
  have eL : Zz (Zb z0 eNil) (Z6 T n (fnd m f) (some (nD m)) (some (AD (List.replicate m (lc f m)))) w5) = some (.lst [nD (lc f m)]) := QD (Zj e0 nil_of) (by show 1 <= 1000; decide)
  have a1 : eOp (Z3 fun i j => decide (j < i)) z0 (eC (.int 0)) (Z6 T n (fnd m f) (some (nD m)) (some (AD (List.replicate m (lc f m)))) w5) = some (.bl true) := (Zi (y := .int 0) e0 rfl).trans (show some (D.bl (decide ((0 : Int) < (lc f m : Int)))) = some (.bl true) by rw [decide_eq_true (by omega)])
  have hfl : ∀ k : Nat, (List.replicate k [nD (lc f m)]).flatten = (List.replicate k (lc f m)).map nD := fun k => by
   induction k with
   | zero => rfl
   | succ k ih => rw [List.replicate_succ, List.flatten_cons, ih, List.replicate_succ, List.map_cons]; rfl
  have e3 : Y5 (.lst [nD (lc f m)]) (nD m) = some (AD (List.replicate m (lc f m))) := (Zcd (a := [nD (lc f m)]) (n := m) (by show 1 * m <= 100000; omega) (by omega)).trans (by rw [hfl])
  have hsh : PySem.SeqAt.shaped (toP (AD (List.replicate m (lc f m)))) = true := QV (k := 1) (QU (QW fun a => J9 0 _)) (by decide)
  have a2 : eOp eqD (Za 4) (eOp Y5 (Zz (Zb z0 eNil)) (Za 3)) (Z6 T n (fnd m f) (some (nD m)) (some (AD (List.replicate m (lc f m)))) w5) = some (.bl true) := (Zi (x := AD (List.replicate m (lc f m))) rfl ((Zi (y := nD m) eL rfl).trans e3)).trans (QE rfl hsh)
  have eA : eOp addX (Za 2) (Zz (Zb z0 eNil)) (Z6 T n (fnd m f) (some (nD m)) (some (AD (List.replicate m (lc f m)))) w5) = some (AD ((fnd m f).map Int.toNat ++ [lc f m])) := by
   refine (Zi (x := IL (fnd m f)) rfl eL).trans ((JS (by rw [List.length_map, hlen]; show m + 1 <= _; omega)).trans ?_)
   have e4 : (fnd m f).map D.int = ((fnd m f).map Int.toNat).map nD := by
    rw [List.map_map]
    refine List.map_congr_left fun x hx => ?_
    have := hmem x hx
    show D.int x = D.int ((x.toNat : Nat) : Int)
    rw [Int.toNat_of_nonneg (by omega)]
   rw [AD, List.map_append, <- e4]
   rfl
  have hone : ((fnd m f).map Int.toNat ++ [lc f m]).foldl Nat.gcd 0 = 1 := by
   obtain ⟨_, d2⟩ := Zby ((fnd m f).map Int.toNat ++ [lc f m]) 0
   refine Zew hs (d2 _ (List.mem_append_right _ List.mem_cons_self)) fun i hi => ?_
   have hx := JZ (l := fnd m f) (i := i) (by omega)
   have := d2 _ (List.mem_append_left _ (List.mem_map.mpr ⟨_, hx, rfl⟩))
   have hp := hmem _ hx
   have := Int.natCast_dvd_natCast.mpr this
   rwa [Int.toNat_of_nonneg (by omega)] at this
  have a3 : Zp 1 UO [] (Zb (eOp addX (Za 2) (Zz (Zb z0 eNil))) eNil) (Z6 T n (fnd m f) (some (nD m)) (some (AD (List.replicate m (lc f m)))) w5) = some (.bl true) := (ZT (Zj eA nil_of) rfl).trans ((Zdu _).trans (by rw [hone]; rfl))
  exact JP a1 (JP a2 a3)
 refine Yh (δ := Z6 T n (fnd m f) none none none) rfl ?_
 rw [ZbR, Zr t3, Zr tI, Zr t4, Zr (YI (Zg4 (Zj rfl nil_of) h4) g)]
 exact ZQ (hgo w5)
end
end K27
namespace K27
open DL L2
noncomputable def ZeZ : DL.Env -> Option D := (eOp addX (eC (.int 1)) (eOp modW (Zp 2 YU [] (Zb (Za 0) (Zb (eC (.int 0)) eNil))) (eC (.int 4))))
noncomputable def a1 : DL.Env -> Option Out := (Zf 1 (Zp 3 QN [] (Zb (Za 0) (Zb (eC (.int 2)) (Zb ZeZ eNil)))))
noncomputable def a2 : DL.Env -> Option Out := (Zf 2 (Zp 2 QO [] (Zb (Zp 2 YU [] (Zb (Za 0) (Zb (eC (.int 1)) eNil))) (Zb (Za 1) eNil))))
noncomputable def a3 : DL.Env -> Option Out := (Zf 3 (ZO (ZU (Za 1)) (Zq 0) (fun _ => some true) (eCB YH (Zb (Za 0) eNil)) 1 []))
noncomputable def aC : DL.Env -> Option D := (Zp 2 V1 [] (Zb (Za 3) (Zb (Za 2) eNil)))
noncomputable def b1 : DL.Env -> Option Out := (sIf (xB (eOp neD (Za 3) (Za 1))) (Zn (eC (.bl false))) sNext)
noncomputable def b2 : DL.Env -> Option Out := (sIf (Z9 (xB (Zp 2 V2 [] (Zb (Za 1) (Zb (Za 2) eNil))))) (Zn (Yv (Za 4))) sNext)
noncomputable def b3 : DL.Env -> Option Out := (sIf (Z9 (xB (Zp 3 QP [] (Zb (Za 1) (Zb (Za 2) (Zb (Za 4) eNil)))))) (Zn (eC (.bl false))) sNext)
noncomputable def b5 : DL.Env -> Option Out := (Zf 5 (eCB YH (Zb (Za 4) eNil)))
noncomputable def bZ : DL.Env -> Option D := (Yq (eOp eqD (XA aC) (Za 5)) (eOp eqD (Za 3) (Za 1)))
noncomputable def R1 : DL.Env -> Option Out := (Zd b1 (Zd b2 (fun _ => none)))
noncomputable def R2 : DL.Env -> Option Out := (Zd b1 (Zd b2 (Zd b3 (Zd b5 (Zd (Z4 4 (eC (.int 1))) (Zn bZ))))))
theorem ZfA : f_QT = Zd a1 (Zd a2 (Zd a3 (XW 4 aC R1 R2))) := rfl
abbrev LA (ns : List Int) (v1 v2 v3 v4 v5 : Option D) : DL.Env := [some (.lst (ns.map D.int)), v1, v2, v3, v4, v5]
theorem lnN {i : Nat} {ε : DL.Env -> Option D} {ψ1 ψ2 : DL.Env -> Option Out} {δ : DL.Env} (h : ε δ = some .non) : XW i ε ψ1 ψ2 δ = ψ1 (δ.set i (some .non)) := by
 unfold XW
 rw [h]
theorem lnL {i : Nat} {ε : DL.Env -> Option D} {ψ1 ψ2 : DL.Env -> Option Out} {δ : DL.Env} {xs : List D} (h : ε δ = some (.lst xs)) : XW i ε ψ1 ψ2 δ = ψ2 (δ.set i (some (.lst xs))) := by
 unfold XW
 rw [h]
theorem Zdv {ε : DL.Env -> Option D} {δ : DL.Env} {xs : List D} (h : ε δ = some (.lst xs)) : XA ε δ = some (.lst xs) := by
 unfold XA
 rw [h]
theorem all_true (ns : List Int) (hns : ns.length <= 63) : QQ [.lst (ns.map D.int)] = some (.bl true) := by
 obtain ⟨c0', c1'⟩ := UF (a := ns.getD 0 0) (b := 4) (by decide)
 obtain ⟨m, hm⟩ := Zfr (show 0 <= 1 + (ns.getD 0 0).fmod 4 by omega)
 have hT := Zfy ns m (by omega) (by omega)
 have hw := Zdq ns m (by omega)
 generalize tab ns m m = T at *
 obtain ⟨n, n1, n2, hwish⟩ := Zer hT (ns.getD 1 0)
 have hn : Bd 13 n := Zg3 (by omega) (by omega)
 have m4 := hT.m4
 have hl := hT.ln
 have hslow := Zeq hT.sq m4 hn (by decide)
 have hz : Zp 2 YU [] (Zb (Za 0) (Zb (eC (.int 0)) eNil)) (LA ns none none none none none) = some (.int (ns.getD 0 0)) := (ZT (Zj (x := .lst (ns.map D.int)) rfl (Zj (x := .int 0) rfl nil_of)) rfl).trans (JX ns 0)
 have hmany : ZeZ (LA ns none none none none none) = some (.int (m : Int)) := (Zi (x := .int 1) (y := .int ((ns.getD 0 0).fmod 4)) rfl ((Zi (y := .int 4) hz rfl).trans (X9 (by decide)))).trans ((add_int _ _).trans (by rw [hm]))
 have t1 : a1 (LA ns none none none none none) = some (.nx (LA ns (some (TD T)) none none none none)) := ZB ((ZT (Zj (x := .lst (ns.map D.int)) rfl (Zj (x := .int 2) rfl (Zj hmany nil_of))) rfl).trans hw)
 have hz1 : Zp 2 YU [] (Zb (Za 0) (Zb (eC (.int 1)) eNil)) (LA ns (some (TD T)) none none none none) = some (.int (ns.getD 1 0)) := (ZT (Zj (x := .lst (ns.map D.int)) rfl (Zj (x := .int 1) rfl nil_of)) rfl).trans (JX ns 1)
 have t2 : a2 (LA ns (some (TD T)) none none none none) = some (.nx (LA ns (some (TD T)) (some (.int n)) none none none)) := ZB ((ZT (Zj hz1 (Zj (x := TD T) rfl nil_of)) rfl).trans hwish)
 have hc : ZX (Zq 0) (fun _ => some true) (eCB YH (Zb (Za 0) eNil)) [none] (T.map IL) = some (T.map IL) := YW IL IL T fun r _ => ⟨[some (IL r)], rfl, (Z5 (Zj (x := IL r) rfl nil_of)).trans QS⟩
 have t3 : a3 (LA ns (some (TD T)) (some (.int n)) none none none) = some (.nx (LA ns (some (TD T)) (some (.int n)) (some (TD T)) none none)) := ZB (YT (Xn rfl) rfl hc (by rw [List.length_map]; omega))
 have ha : ∀ v4 v5, Zb (Za 3) (Zb (Za 2) eNil) (LA ns (some (TD T)) (some (.int n)) (some (TD T)) v4 v5) = some [TD T, .int n] := fun _ _ => Zj rfl (Zj rfl nil_of)
 have s1 : ∀ v4 v5, b1 (LA ns (some (TD T)) (some (.int n)) (some (TD T)) v4 v5) = some (.nx (LA ns (some (TD T)) (some (.int n)) (some (TD T)) v4 v5)) := fun v4 v5 => (Yw (Z0 ((Zi (x := TD T) (y := TD T) rfl rfl).trans (Zdf rfl (QV (ZeV T) (by decide)))))).trans rfl
 have e2 : ∀ v4 v5, Z9 (xB (Zp 2 V2 [] (Zb (Za 1) (Zb (Za 2) eNil)))) (LA ns (some (TD T)) (some (.int n)) (some (TD T)) v4 v5) = some (!YK T n m) := fun v4 v5 => UD (Z0 ((ZT (Zj (x := TD T) rfl (Zj (x := .int n) rfl nil_of)) rfl).trans hslow))
 refine Yh (δ := LA ns none none none none none) rfl ?_
 rw [ZfA, Zr t1, Zr t2, Zr t3]
 rcases Zds hT hn with ⟨z, hp⟩ | ⟨z, f, hs, hpos, hd, hp⟩
 · have ec : aC (LA ns (some (TD T)) (some (.int n)) (some (TD T)) none none) = some .non := (ZT (ha _ _) rfl).trans hp
   rw [lnN ec]
   show R1 (LA ns (some (TD T)) (some (.int n)) (some (TD T)) (some .non) none) = _
   unfold R1
   rw [Zr (s1 _ _)]
   exact VZ ((Xk (by rw [e2, z]; rfl)).trans (ZQ rfl))
 · have ec : ∀ v4 v5, aC (LA ns (some (TD T)) (some (.int n)) (some (TD T)) v4 v5) = some (IL (fnd m f)) := fun v4 v5 => (ZT (ha _ _) rfl).trans hp
   rw [lnL (ec _ _)]
   show R2 (LA ns (some (TD T)) (some (.int n)) (some (TD T)) (some (IL (fnd m f))) none) = _
   have s2 : b2 (LA ns (some (TD T)) (some (.int n)) (some (TD T)) (some (IL (fnd m f))) none) = some (.nx (LA ns (some (TD T)) (some (.int n)) (some (TD T)) (some (IL (fnd m f))) none)) := (Yw (by rw [e2, z]; rfl)).trans rfl
   have s3 : b3 (LA ns (some (TD T)) (some (.int n)) (some (TD T)) (some (IL (fnd m f))) none) = some (.nx (LA ns (some (TD T)) (some (.int n)) (some (TD T)) (some (IL (fnd m f))) none)) := (Yw (UD (b := true) (Z0 ((ZT (Zj (x := TD T) rfl (Zj (x := .int n) rfl (Zj (x := IL (fnd m f)) rfl nil_of))) rfl).trans (ZbS hT hn hs hpos hd))))).trans rfl
   have s5 : b5 (LA ns (some (TD T)) (some (.int n)) (some (TD T)) (some (IL (fnd m f))) none) = some (.nx (LA ns (some (TD T)) (some (.int n)) (some (TD T)) (some (IL (fnd m f))) (some (IL (fnd m f))))) := ZB ((Z5 (Zj (x := IL (fnd m f)) rfl nil_of)).trans QS)
   have s6 : Z4 4 (eC (.int 1)) (LA ns (some (TD T)) (some (.int n)) (some (TD T)) (some (IL (fnd m f))) (some (IL (fnd m f)))) = some (.nx (LA ns (some (TD T)) (some (.int n)) (some (TD T)) (some (.lst ((fnd m f).map D.int ++ [.int 1]))) (some (IL (fnd m f))))) := Vm (xs := (fnd m f).map D.int) rfl rfl (by rw [List.length_map, Za4]; omega)
   have eZ : bZ (LA ns (some (TD T)) (some (.int n)) (some (TD T)) (some (.lst ((fnd m f).map D.int ++ [.int 1]))) (some (IL (fnd m f)))) = some (.bl true) := JP ((Zi (x := IL (fnd m f)) (y := IL (fnd m f)) (Zdv (ec _ _)) rfl).trans (QE rfl (QV (ZgJ _) (by decide)))) ((Zi (x := TD T) (y := TD T) rfl rfl).trans (QE rfl (QV (ZeV T) (by decide))))
   unfold R2
   rw [Zr (s1 _ _), Zr s2, Zr s3, Zr s5, Zr s6]
   exact ZQ eZ
end K27
namespace K27
open PySem PySem.Spec L2 DL
def QZ (K : PySem.W.Frag) : Sp := fun vs H Q _ => ∃ (a : Addr) (ns : List Int), vs = [.ref a] /\ SqL K H a (ns.map V.int) /\ ns.length <= 63 /\ ∀ H', Q (.bl true) H'
theorem ZfB (hall : ∀ ns : List Int, ns.length <= 63 -> QQ [.lst (ns.map D.int)] = some (.bl true)) {P : Program} {w : World} {K : PySem.W.Frag} {mg : Str -> Option Value} {base : Heap} {t : Adr} (T : Txt K mg t) : FnOk P w K mg base CX0 11 t.a_QT t.d_QT ["script"] (QZ K) :=
 (Zgp T).imp fun vs H Q E ⟨a, ns, hv, hr, hl, q⟩ => by
   subst hv
   refine ⟨fun _ => False, [.lst (ns.map D.int)], .bl true, fun _ z => z.elim, .cons ?_ .nil, rfl, hall ns hl, fun v H' _ r => ?_⟩
   · unfold Rep
     refine ⟨a, _, rfl, fun z => z.elim, hr, ?_⟩
     have := RepL.of_vals (cA := ⟨t.c, K⟩) (av := fun _ => False) (H := H) (xs := ns.map D.int) (by rw [List.all_map]; exact List.all_eq_true.mpr fun _ _ => rfl)
     rw [List.map_map] at this
     exact this
   · cases (show v = _ from r)
     exact q H'
theorem all_mk (hall : ∀ ns : List Int, ns.length <= 63 -> QQ [.lst (ns.map D.int)] = some (.bl true)) {l : PySem.W.OpenLaw} {w : World} {K : PySem.W.Frag} {h : Heap} {mg : Str -> Option Value} {fa : Addr} (X : K.In h) (G : h.Ns mainGlobals mg) (hfa : mg "law" = some (.ref fa))
 {f0 : Addr} {od0 an0 : Option Addr} {sl0 : Array (Option Value)} {oc0 kV0 dc0 pm0 cd0 ct0 : Value}
 {f1 : Addr} {od1 an1 : Option Addr} {sl1 : Array (Option Value)} {oc1 kV1 dc1 pm1 cd1 ct1 : Value}
 {f2 : Addr} {od2 an2 : Option Addr} {sl2 : Array (Option Value)} {oc2 kV2 dc2 pm2 cd2 ct2 : Value}
 {f3 : Addr} {od3 an3 : Option Addr} {sl3 : Array (Option Value)} {oc3 kV3 dc3 pm3 cd3 ct3 : Value}
 {f4 : Addr} {od4 an4 : Option Addr} {sl4 : Array (Option Value)} {oc4 kV4 dc4 pm4 cd4 ct4 : Value}
 {f5 : Addr} {od5 an5 : Option Addr} {sl5 : Array (Option Value)} {oc5 kV5 dc5 pm5 cd5 ct5 : Value}
 {f6 : Addr} {od6 an6 : Option Addr} {sl6 : Array (Option Value)} {oc6 kV6 dc6 pm6 cd6 ct6 : Value}
 {f7 : Addr} {od7 an7 : Option Addr} {sl7 : Array (Option Value)} {oc7 kV7 dc7 pm7 cd7 ct7 : Value}
 {f8 : Addr} {od8 an8 : Option Addr} {sl8 : Array (Option Value)} {oc8 kV8 dc8 pm8 cd8 ct8 : Value}
 {f9 : Addr} {od9 an9 : Option Addr} {sl9 : Array (Option Value)} {oc9 kV9 dc9 pm9 cd9 ct9 : Value}
 {f10 : Addr} {od10 an10 : Option Addr} {sl10 : Array (Option Value)} {oc10 kV10 dc10 pm10 cd10 ct10 : Value}
 {f11 : Addr} {od11 an11 : Option Addr} {sl11 : Array (Option Value)} {oc11 kV11 dc11 pm11 cd11 ct11 : Value}
 {f12 : Addr} {od12 an12 : Option Addr} {sl12 : Array (Option Value)} {oc12 kV12 dc12 pm12 cd12 ct12 : Value}
 {f13 : Addr} {od13 an13 : Option Addr} {sl13 : Array (Option Value)} {oc13 kV13 dc13 pm13 cd13 ct13 : Value}
 {f14 : Addr} {od14 an14 : Option Addr} {sl14 : Array (Option Value)} {oc14 kV14 dc14 pm14 cd14 ct14 : Value}
 {f15 : Addr} {od15 an15 : Option Addr} {sl15 : Array (Option Value)} {oc15 kV15 dc15 pm15 cd15 ct15 : Value}
 {f16 : Addr} {od16 an16 : Option Addr} {sl16 : Array (Option Value)} {oc16 kV16 dc16 pm16 cd16 ct16 : Value}
 {f17 : Addr} {od17 an17 : Option Addr} {sl17 : Array (Option Value)} {oc17 kV17 dc17 pm17 cd17 ct17 : Value}
 {f18 : Addr} {od18 an18 : Option Addr} {sl18 : Array (Option Value)} {oc18 kV18 dc18 pm18 cd18 ct18 : Value}
 {f19 : Addr} {od19 an19 : Option Addr} {sl19 : Array (Option Value)} {oc19 kV19 dc19 pm19 cd19 ct19 : Value}
 (a0 : PySem.W.nsIn K mainGlobals "common_divisor" = some (some (.ref f0)))
 (l0 : K.lookup f0 = some ⟨oc0, od0, .func (PySem.W.fnOf "common_divisor" "common_divisor" (ZS XZ) (ZK XZ) (Zo XZ) .none kV0 dc0 pm0 an0 cd0 ct0), sl0⟩)
 (c0 : PySem.W.codeIn K cd0 "common_divisor" = true)
 (k0 : PySem.W.keepIn K (.ref f0) = true)
 (a1 : PySem.W.nsIn K mainGlobals "reduced" = some (some (.ref f1)))
 (l1 : K.lookup f1 = some ⟨oc1, od1, .func (PySem.W.fnOf "reduced" "reduced" (ZS X0) (ZK X0) (Zo X0) .none kV1 dc1 pm1 an1 cd1 ct1), sl1⟩)
 (c1 : PySem.W.codeIn K cd1 "reduced" = true)
 (k1 : PySem.W.keepIn K (.ref f1) = true)
 (a2 : PySem.W.nsIn K mainGlobals "row_to_take" = some (some (.ref f2)))
 (l2 : K.lookup f2 = some ⟨oc2, od2, .func (PySem.W.fnOf "row_to_take" "row_to_take" (ZS XC) (ZK XC) (Zo XC) .none kV2 dc2 pm2 an2 cd2 ct2), sl2⟩)
 (c2 : PySem.W.codeIn K cd2 "row_to_take" = true)
 (k2 : PySem.W.keepIn K (.ref f2) = true)
 (a3 : PySem.W.nsIn K mainGlobals "exchanged" = some (some (.ref f3)))
 (l3 : K.lookup f3 = some ⟨oc3, od3, .func (PySem.W.fnOf "exchanged" "exchanged" (ZS X1) (ZK X1) (Zo X1) .none kV3 dc3 pm3 an3 cd3 ct3), sl3⟩)
 (c3 : PySem.W.codeIn K cd3 "exchanged" = true)
 (k3 : PySem.W.keepIn K (.ref f3) = true)
 (a4 : PySem.W.nsIn K mainGlobals "cleared" = some (some (.ref f4)))
 (l4 : K.lookup f4 = some ⟨oc4, od4, .func (PySem.W.fnOf "cleared" "cleared" (ZS XD) (ZK XD) (Zo XD) .none kV4 dc4 pm4 an4 cd4 ct4), sl4⟩)
 (c4 : PySem.W.codeIn K cd4 "cleared" = true)
 (k4 : PySem.W.keepIn K (.ref f4) = true)
 (a5 : PySem.W.nsIn K mainGlobals "solved" = some (some (.ref f5)))
 (l5 : K.lookup f5 = some ⟨oc5, od5, .func (PySem.W.fnOf "solved" "solved" (ZS Xl) (ZK Xl) (Zo Xl) .none kV5 dc5 pm5 an5 cd5 ct5), sl5⟩)
 (c5 : PySem.W.codeIn K cd5 "solved" = true)
 (k5 : PySem.W.keepIn K (.ref f5) = true)
 (a6 : PySem.W.nsIn K mainGlobals "press_sides" = some (some (.ref f6)))
 (l6 : K.lookup f6 = some ⟨oc6, od6, .func (PySem.W.fnOf "press_sides" "press_sides" (ZS XE) (ZK XE) (Zo XE) .none kV6 dc6 pm6 an6 cd6 ct6), sl6⟩)
 (c6 : PySem.W.codeIn K cd6 "press_sides" = true)
 (k6 : PySem.W.keepIn K (.ref f6) = true)
 (a7 : PySem.W.nsIn K mainGlobals "press" = some (some (.ref f7)))
 (l7 : K.lookup f7 = some ⟨oc7, od7, .func (PySem.W.fnOf "press" "press" (ZS Xm) (ZK Xm) (Zo Xm) .none kV7 dc7 pm7 an7 cd7 ct7), sl7⟩)
 (c7 : PySem.W.codeIn K cd7 "press" = true)
 (k7 : PySem.W.keepIn K (.ref f7) = true)
 (a8 : PySem.W.nsIn K mainGlobals "_law_cell_at" = some (some (.ref f8)))
 (l8 : K.lookup f8 = some ⟨oc8, od8, .func (PySem.W.fnOf "_law_cell_at" "_law_cell_at" (ZS X2) (ZK X2) (Zo X2) .none kV8 dc8 pm8 an8 cd8 ct8), sl8⟩)
 (c8 : PySem.W.codeIn K cd8 "_law_cell_at" = true)
 (k8 : PySem.W.keepIn K (.ref f8) = true)
 (a9 : PySem.W.nsIn K mainGlobals "_law_is_whole" = some (some (.ref f9)))
 (l9 : K.lookup f9 = some ⟨oc9, od9, .func (PySem.W.fnOf "_law_is_whole" "_law_is_whole" (ZS X3) (ZK X3) (Zo X3) .none kV9 dc9 pm9 an9 cd9 ct9), sl9⟩)
 (c9 : PySem.W.codeIn K cd9 "_law_is_whole" = true)
 (k9 : PySem.W.keepIn K (.ref f9) = true)
 (a10 : PySem.W.nsIn K mainGlobals "_law_row" = some (some (.ref f10)))
 (l10 : K.lookup f10 = some ⟨oc10, od10, .func (PySem.W.fnOf "_law_row" "_law_row" (ZS X4) (ZK X4) (Zo X4) .none kV10 dc10 pm10 an10 cd10 ct10), sl10⟩)
 (c10 : PySem.W.codeIn K cd10 "_law_row" = true)
 (k10 : PySem.W.keepIn K (.ref f10) = true)
 (a11 : PySem.W.nsIn K mainGlobals "_law_entry" = some (some (.ref f11)))
 (l11 : K.lookup f11 = some ⟨oc11, od11, .func (PySem.W.fnOf "_law_entry" "_law_entry" (ZS X5) (ZK X5) (Zo X5) .none kV11 dc11 pm11 an11 cd11 ct11), sl11⟩)
 (c11 : PySem.W.codeIn K cd11 "_law_entry" = true)
 (k11 : PySem.W.keepIn K (.ref f11) = true)
 (a12 : PySem.W.nsIn K mainGlobals "_law_table" = some (some (.ref f12)))
 (l12 : K.lookup f12 = some ⟨oc12, od12, .func (PySem.W.fnOf "_law_table" "_law_table" (ZS XF) (ZK XF) (Zo XF) .none kV12 dc12 pm12 an12 cd12 ct12), sl12⟩)
 (c12 : PySem.W.codeIn K cd12 "_law_table" = true)
 (k12 : PySem.W.keepIn K (.ref f12) = true)
 (a13 : PySem.W.nsIn K mainGlobals "_law_wish" = some (some (.ref f13)))
 (l13 : K.lookup f13 = some ⟨oc13, od13, .func (PySem.W.fnOf "_law_wish" "_law_wish" (ZS XG) (ZK XG) (Zo XG) .none kV13 dc13 pm13 an13 cd13 ct13), sl13⟩)
 (c13 : PySem.W.codeIn K cd13 "_law_wish" = true)
 (k13 : PySem.W.keepIn K (.ref f13) = true)
 (a14 : PySem.W.nsIn K mainGlobals "_law_signed" = some (some (.ref f14)))
 (l14 : K.lookup f14 = some ⟨oc14, od14, .func (PySem.W.fnOf "_law_signed" "_law_signed" (ZS X6) (ZK X6) (Zo X6) .none kV14 dc14 pm14 an14 cd14 ct14), sl14⟩)
 (c14 : PySem.W.codeIn K cd14 "_law_signed" = true)
 (k14 : PySem.W.keepIn K (.ref f14) = true)
 (a15 : PySem.W.nsIn K mainGlobals "_law_product" = some (some (.ref f15)))
 (l15 : K.lookup f15 = some ⟨oc15, od15, .func (PySem.W.fnOf "_law_product" "_law_product" (ZS X7) (ZK X7) (Zo X7) .none kV15 dc15 pm15 an15 cd15 ct15), sl15⟩)
 (c15 : PySem.W.codeIn K cd15 "_law_product" = true)
 (k15 : PySem.W.keepIn K (.ref f15) = true)
 (a16 : PySem.W.nsIn K mainGlobals "_law_slow" = some (some (.ref f16)))
 (l16 : K.lookup f16 = some ⟨oc16, od16, .func (PySem.W.fnOf "_law_slow" "_law_slow" (ZS XH) (ZK XH) (Zo XH) .none kV16 dc16 pm16 an16 cd16 ct16), sl16⟩)
 (c16 : PySem.W.codeIn K cd16 "_law_slow" = true)
 (k16 : PySem.W.keepIn K (.ref f16) = true)
 (a17 : PySem.W.nsIn K mainGlobals "_law_alone" = some (some (.ref f17)))
 (l17 : K.lookup f17 = some ⟨oc17, od17, .func (PySem.W.fnOf "_law_alone" "_law_alone" (ZS X8) (ZK X8) (Zo X8) .none kV17 dc17 pm17 an17 cd17 ct17), sl17⟩)
 (c17 : PySem.W.codeIn K cd17 "_law_alone" = true)
 (k17 : PySem.W.keepIn K (.ref f17) = true)
 (a18 : PySem.W.nsIn K mainGlobals "_law_pressed" = some (some (.ref f18)))
 (l18 : K.lookup f18 = some ⟨oc18, od18, .func (PySem.W.fnOf "_law_pressed" "_law_pressed" (ZS XI) (ZK XI) (Zo XI) .none kV18 dc18 pm18 an18 cd18 ct18), sl18⟩)
 (c18 : PySem.W.codeIn K cd18 "_law_pressed" = true)
 (k18 : PySem.W.keepIn K (.ref f18) = true)
 (a19 : PySem.W.nsIn K mainGlobals "law" = some (some (.ref f19)))
 (l19 : K.lookup f19 = some ⟨oc19, od19, .func (PySem.W.fnOf "law" "law" (ZS YV) (ZK YV) (Zo YV) .none kV19 dc19 pm19 an19 cd19 ct19), sl19⟩)
 (c19 : PySem.W.codeIn K cd19 "law" = true)
 (k19 : PySem.W.keepIn K (.ref f19) = true)
 (ZhR : PySem.W.nsIn K mainGlobals "abs" = some none)
 (ZhS : PySem.W.nsIn K mainGlobals "bool" = some none)
 (ZhT : PySem.W.nsIn K mainGlobals "enumerate" = some none)
 (ZhU : PySem.W.nsIn K mainGlobals "int" = some none)
 (ZhV : PySem.W.nsIn K mainGlobals "isinstance" = some none)
 (ZhW : PySem.W.nsIn K mainGlobals "len" = some none)
 (ZhX : PySem.W.nsIn K mainGlobals "list" = some none)
 (ZhY : PySem.W.nsIn K mainGlobals "max" = some none)
 (ZhZ : PySem.W.nsIn K mainGlobals "min" = some none)
 (Zh0 : PySem.W.nsIn K mainGlobals "range" = some none)
 (Zh1 : PySem.W.nsIn K mainGlobals "sum" = some none)
 (Zh2 : PySem.W.nsIn K mainGlobals "zip" = some none)
 (Zhz : PySem.W.kitOne K (.type "NoneType") (.type "bool") = some false)
 (ZhC : PySem.W.kitOne K (.type "bool") (.type "bool") = some true)
 (ZhF : PySem.W.kitOne K (.type "int") (.type "bool") = some false)
 (ZhL : PySem.W.kitOne K (.type "str") (.type "bool") = some false)
 (ZhI : PySem.W.kitOne K (.type "list") (.type "bool") = some false)
 (ZhO : PySem.W.kitOne K (.type "tuple") (.type "bool") = some false)
 (ZhA : PySem.W.kitOne K (.type "NoneType") (.type "int") = some false)
 (ZhD : PySem.W.kitOne K (.type "bool") (.type "int") = some true)
 (ZhG : PySem.W.kitOne K (.type "int") (.type "int") = some true)
 (ZhM : PySem.W.kitOne K (.type "str") (.type "int") = some false)
 (ZhJ : PySem.W.kitOne K (.type "list") (.type "int") = some false)
 (ZhP : PySem.W.kitOne K (.type "tuple") (.type "int") = some false)
 (ZhB : PySem.W.kitOne K (.type "NoneType") (.type "list") = some false)
 (ZhE : PySem.W.kitOne K (.type "bool") (.type "list") = some false)
 (ZhH : PySem.W.kitOne K (.type "int") (.type "list") = some false)
 (ZhN : PySem.W.kitOne K (.type "str") (.type "list") = some false)
 (ZhK : PySem.W.kitOne K (.type "list") (.type "list") = some true)
 (ZhQ : PySem.W.kitOne K (.type "tuple") (.type "list") = some false)
 : ∃ fd : FuncData, (∀ (s : Shared) (v : Value), BindsTo s fd ⟨[v], []⟩ [("script", v)]) /\ ∀ base : Heap, K.In base -> base.Ns mainGlobals mg -> FnOk l.prog w K mg base CX0 11 fa fd ["script"] (QZ K) := by
 have e := hfa.symm.trans (PySem.W.mg_of X G a19)
 cases e
 have F0 : FunX K "common_divisor" "common_divisor" XZ f0 _ := (Zy (st := XZ) l0 c0 k0).x
 have b0 := (Zy (st := XZ) l0 c0 k0).binds (ps := ["a", "b"]) fun _ _ _ _ _ _ us hl => match us, hl with | [_, _], _ => rfl
 have F1 : FunX K "reduced" "reduced" X0 f1 _ := (Zy (st := X0) l1 c1 k1).x
 have b1 := (Zy (st := X0) l1 c1 k1).binds (ps := ["a", "b"]) fun _ _ _ _ _ _ us hl => match us, hl with | [_, _], _ => rfl
 have F2 : FunX K "row_to_take" "row_to_take" XC f2 _ := (Zy (st := XC) l2 c2 k2).x
 have b2 := (Zy (st := XC) l2 c2 k2).binds (ps := ["rows", "place"]) fun _ _ _ _ _ _ us hl => match us, hl with | [_, _], _ => rfl
 have F3 : FunX K "exchanged" "exchanged" X1 f3 _ := (Zy (st := X1) l3 c3 k3).x
 have b3 := (Zy (st := X1) l3 c3 k3).binds (ps := ["rows", "one", "other"]) fun _ _ _ _ _ _ us hl => match us, hl with | [_, _, _], _ => rfl
 have F4 : FunX K "cleared" "cleared" XD f4 _ := (Zy (st := XD) l4 c4 k4).x
 have b4 := (Zy (st := XD) l4 c4 k4).binds (ps := ["rows", "place", "divided_by"]) fun _ _ _ _ _ _ us hl => match us, hl with | [_, _, _], _ => rfl
 have F5 : FunX K "solved" "solved" Xl f5 _ := (Zy (st := Xl) l5 c5 k5).x
 have b5 := (Zy (st := Xl) l5 c5 k5).binds (ps := ["table", "right"]) fun _ _ _ _ _ _ us hl => match us, hl with | [_, _], _ => rfl
 have F6 : FunX K "press_sides" "press_sides" XE f6 _ := (Zy (st := XE) l6 c6 k6).x
 have b6 := (Zy (st := XE) l6 c6 k6).binds (ps := ["table", "n"]) fun _ _ _ _ _ _ us hl => match us, hl with | [_, _], _ => rfl
 have F7 : FunX K "press" "press" Xm f7 _ := (Zy (st := Xm) l7 c7 k7).x
 have b7 := (Zy (st := Xm) l7 c7 k7).binds (ps := ["table", "n"]) fun _ _ _ _ _ _ us hl => match us, hl with | [_, _], _ => rfl
 have F8 : FunX K "_law_cell_at" "_law_cell_at" X2 f8 _ := (Zy (st := X2) l8 c8 k8).x
 have b8 := (Zy (st := X2) l8 c8 k8).binds (ps := ["script", "k"]) fun _ _ _ _ _ _ us hl => match us, hl with | [_, _], _ => rfl
 have F9 : FunX K "_law_is_whole" "_law_is_whole" X3 f9 _ := (Zy (st := X3) l9 c9 k9).x
 have b9 := (Zy (st := X3) l9 c9 k9).binds (ps := ["found"]) fun _ _ _ _ _ _ us hl => match us, hl with | [_], _ => rfl
 have F10 : FunX K "_law_row" "_law_row" X4 f10 _ := (Zy (st := X4) l10 c10 k10).x
 have b10 := (Zy (st := X4) l10 c10 k10).binds (ps := ["found", "many"]) fun _ _ _ _ _ _ us hl => match us, hl with | [_, _], _ => rfl
 have F11 : FunX K "_law_entry" "_law_entry" X5 f11 _ := (Zy (st := X5) l11 c11 k11).x
 have b11 := (Zy (st := X5) l11 c11 k11).binds (ps := ["cell"]) fun _ _ _ _ _ _ us hl => match us, hl with | [_], _ => rfl
 have F12 : FunX K "_law_table" "_law_table" XF f12 _ := (Zy (st := XF) l12 c12 k12).x
 have b12 := (Zy (st := XF) l12 c12 k12).binds (ps := ["script", "at", "many"]) fun _ _ _ _ _ _ us hl => match us, hl with | [_, _, _], _ => rfl
 have F13 : FunX K "_law_wish" "_law_wish" XG f13 _ := (Zy (st := XG) l13 c13 k13).x
 have b13 := (Zy (st := XG) l13 c13 k13).binds (ps := ["cell", "table"]) fun _ _ _ _ _ _ us hl => match us, hl with | [_, _], _ => rfl
 have F14 : FunX K "_law_signed" "_law_signed" X6 f14 _ := (Zy (st := X6) l14 c14 k14).x
 have b14 := (Zy (st := X6) l14 c14 k14).binds (ps := ["table", "columns"]) fun _ _ _ _ _ _ us hl => match us, hl with | [_, _], _ => rfl
 have F15 : FunX K "_law_product" "_law_product" X7 f15 _ := (Zy (st := X7) l15 c15 k15).x
 have b15 := (Zy (st := X7) l15 c15 k15).binds (ps := ["table"]) fun _ _ _ _ _ _ us hl => match us, hl with | [_], _ => rfl
 have F16 : FunX K "_law_slow" "_law_slow" XH f16 _ := (Zy (st := XH) l16 c16 k16).x
 have b16 := (Zy (st := XH) l16 c16 k16).binds (ps := ["table", "n"]) fun _ _ _ _ _ _ us hl => match us, hl with | [_, _], _ => rfl
 have F17 : FunX K "_law_alone" "_law_alone" X8 f17 _ := (Zy (st := X8) l17 c17 k17).x
 have b17 := (Zy (st := X8) l17 c17 k17).binds (ps := ["numbers"]) fun _ _ _ _ _ _ us hl => match us, hl with | [_], _ => rfl
 have F18 : FunX K "_law_pressed" "_law_pressed" XI f18 _ := (Zy (st := XI) l18 c18 k18).x
 have b18 := (Zy (st := XI) l18 c18 k18).binds (ps := ["table", "n", "found"]) fun _ _ _ _ _ _ us hl => match us, hl with | [_, _, _], _ => rfl
 have F19 : FunX K "law" "law" YV fa _ := (Zy (st := YV) l19 c19 k19).x
 have b19 := (Zy (st := YV) l19 c19 k19).binds (ps := ["script"]) fun _ _ _ _ _ _ us hl => match us, hl with | [_], _ => rfl
 have T : Txt K mg { a_QA := f0, d_QA := _, a_QP := f1, d_QP := _, a_QF := f2, d_QF := _, a_QM := f3, d_QM := _, a_QQ := f4, d_QQ := _, a_QR := f5, d_QR := _, a_QG := f6, d_QG := _, a_QS := f7, d_QS := _, a_QD := f8, d_QD := _, a_QB := f9, d_QB := _, a_QO := f10, d_QO := _, a_QK := f11, d_QK := _, a_QJ := f12, d_QJ := _, a_QN := f13, d_QN := _, a_QH := f14, d_QH := _, a_QC := f15, d_QC := _, a_QL := f16, d_QL := _, a_QI := f17, d_QI := _, a_QE := f18, d_QE := _, a_QT := fa, d_QT := _ } := { f_QA := F0, b_QA := b0, g_QA := PySem.W.mg_of X G a0, k_QA := k0, f_QP := F1, b_QP := b1, g_QP := PySem.W.mg_of X G a1, k_QP := k1, f_QF := F2, b_QF := b2, g_QF := PySem.W.mg_of X G a2, k_QF := k2, f_QM := F3, b_QM := b3, g_QM := PySem.W.mg_of X G a3, k_QM := k3, f_QQ := F4, b_QQ := b4, g_QQ := PySem.W.mg_of X G a4, k_QQ := k4, f_QR := F5, b_QR := b5, g_QR := PySem.W.mg_of X G a5, k_QR := k5, f_QG := F6, b_QG := b6, g_QG := PySem.W.mg_of X G a6, k_QG := k6, f_QS := F7, b_QS := b7, g_QS := PySem.W.mg_of X G a7, k_QS := k7, f_QD := F8, b_QD := b8, g_QD := PySem.W.mg_of X G a8, k_QD := k8, f_QB := F9, b_QB := b9, g_QB := PySem.W.mg_of X G a9, k_QB := k9, f_QO := F10, b_QO := b10, g_QO := PySem.W.mg_of X G a10, k_QO := k10, f_QK := F11, b_QK := b11, g_QK := PySem.W.mg_of X G a11, k_QK := k11, f_QJ := F12, b_QJ := b12, g_QJ := PySem.W.mg_of X G a12, k_QJ := k12, f_QN := F13, b_QN := b13, g_QN := PySem.W.mg_of X G a13, k_QN := k13, f_QH := F14, b_QH := b14, g_QH := PySem.W.mg_of X G a14, k_QH := k14, f_QC := F15, b_QC := b15, g_QC := PySem.W.mg_of X G a15, k_QC := k15, f_QL := F16, b_QL := b16, g_QL := PySem.W.mg_of X G a16, k_QL := k16, f_QI := F17, b_QI := b17, g_QI := PySem.W.mg_of X G a17, k_QI := k17, f_QE := F18, b_QE := b18, g_QE := PySem.W.mg_of X G a18, k_QE := k18, f_QT := F19, b_QT := b19, g_QT := PySem.W.mg_of X G a19, k_QT := k19, n_abs := PySem.W.mg_none_of X G ZhR, n_bool := PySem.W.mg_none_of X G ZhS, n_enumerate := PySem.W.mg_none_of X G ZhT, n_int := PySem.W.mg_none_of X G ZhU, n_isinstance := PySem.W.mg_none_of X G ZhV, n_len := PySem.W.mg_none_of X G ZhW, n_list := PySem.W.mg_none_of X G ZhX, n_max := PySem.W.mg_none_of X G ZhY, n_min := PySem.W.mg_none_of X G ZhZ, n_range := PySem.W.mg_none_of X G Zh0, n_sum := PySem.W.mg_none_of X G Zh1, n_zip := PySem.W.mg_none_of X G Zh2, isi_bool := JB (by intro p hp; simp only [QH, List.mem_cons, List.mem_nil_iff, or_false] at hp; rcases hp with rfl | rfl | rfl | rfl | rfl | rfl <;> first | exact Zhz | exact ZhC | exact ZhF | exact ZhL | exact ZhI | exact ZhO), isi_int := JB (by intro p hp; simp only [QI, List.mem_cons, List.mem_nil_iff, or_false] at hp; rcases hp with rfl | rfl | rfl | rfl | rfl | rfl <;> first | exact ZhA | exact ZhD | exact ZhG | exact ZhM | exact ZhJ | exact ZhP), isi_list := JB (by intro p hp; simp only [QJ, List.mem_cons, List.mem_nil_iff, or_false] at hp; rcases hp with rfl | rfl | rfl | rfl | rfl | rfl <;> first | exact ZhB | exact ZhE | exact ZhH | exact ZhN | exact ZhK | exact ZhQ) }
 exact ⟨PySem.W.fnOf "law" "law" (ZS YV) (ZK YV) (Zo YV) .none kV19 dc19 pm19 an19 cd19 ct19, fun s v => .of_eq rfl, fun base _ _ => ZfB hall T⟩
theorem walk {l : PySem.W.OpenLaw} {q : Program} {loose : List Str} {XP : (Str -> Option Value) -> Heap -> Prop} {YP : World -> Heap -> Prop} {d : DefRec} {K : Params -> PySem.W.Frag} (hn : l.most = some 63) (hdf : d.params.defaults = [])
 (hY : ∀ (w : World) (h : Heap), YP w h -> (K w.params).In h)
 (F : ∀ (w : World) (mg : Str -> Option Value) (fa : Addr) (h : Heap), (K w.params).In h -> h.Ns mainGlobals mg -> mg d.name = some (.ref fa) ->
   ∃ fd : FuncData, (∀ (s : Shared) (u : Value), BindsTo s fd ⟨[u], []⟩ [("script", u)]) /\ ∀ base : Heap, (K w.params).In base -> base.Ns mainGlobals mg -> FnOk l.prog w (K w.params) mg base CX0 11 fa fd ["script"] (QZ (K w.params))) :
 PySem.W.WalkO q loose XP YP l.row.toRowW d [] (fun f vs => PySem.call f vs) :=
 L2.walk_of (n := 63) (k := 11) (x := "script") (CX := fun _ => CX0) (sp := fun w => QZ (K w.params)) hn (by decide) hdf ⟨rfl, by decide, by decide⟩ hY F (fun _ _ a ns hl _ hS => ⟨a, ns, rfl, hS, hl, fun _ => rfl⟩) fun _ _ _ _ _ z => z
end K27
open PySem PySem.W PyProof.Rows
set_option maxRecDepth 100000 in
set_option maxHeartbeats 0 in
theorem PySem.Challenge.cw_grooveway_k27_presses_holds : PySem.Challenge.rw_grooveway_k27_presses.Holds := by
 w_on; o_law; k_head; (case hw => w_witness2)
 k_fill
 refine K27.walk (l := PySem.Challenge.rw_grooveway_k27_presses) rfl rfl (fun w h Y => PySem.W.kIn_of Y) ?F
 case F =>
  intro w mg fa h KX G hmg
  refine' K27.all_mk K27.all_true KX G hmg ?a0 ?l0 ?c0 ?k0 ?a1 ?l1 ?c1 ?k1 ?a2 ?l2 ?c2 ?k2 ?a3 ?l3 ?c3 ?k3 ?a4 ?l4 ?c4 ?k4 ?a5 ?l5 ?c5 ?k5 ?a6 ?l6 ?c6 ?k6 ?a7 ?l7 ?c7 ?k7 ?a8 ?l8 ?c8 ?k8 ?a9 ?l9 ?c9 ?k9 ?a10 ?l10 ?c10 ?k10 ?a11 ?l11 ?c11 ?k11 ?a12 ?l12 ?c12 ?k12 ?a13 ?l13 ?c13 ?k13 ?a14 ?l14 ?c14 ?k14 ?a15 ?l15 ?c15 ?k15 ?a16 ?l16 ?c16 ?k16 ?a17 ?l17 ?c17 ?k17 ?a18 ?l18 ?c18 ?k18 ?a19 ?l19 ?c19 ?k19 ?ZhR ?ZhS ?ZhT ?ZhU ?ZhV ?ZhW ?ZhX ?ZhY ?ZhZ ?Zh0 ?Zh1 ?Zh2 ?Zhz ?ZhC ?ZhF ?ZhL ?ZhI ?ZhO ?ZhA ?ZhD ?ZhG ?ZhM ?ZhJ ?ZhP ?ZhB ?ZhE ?ZhH ?ZhN ?ZhK ?ZhQ
  (case a0 | l0 | c0 | k0 | a1 | l1 | c1 | k1 | a2 | l2 | c2 | k2 | a3 | l3 | c3 | k3 | a4 | l4 | c4 | k4 | a5 | l5 | c5 | k5 | a6 | l6 | c6 | k6 | a7 | l7 | c7 | k7 | a8 | l8 | c8 | k8 | a9 | l9 | c9 | k9 | a10 | l10 | c10 | k10 | a11 | l11 | c11 | k11 | a12 | l12 | c12 | k12 | a13 | l13 | c13 | k13 | a14 | l14 | c14 | k14 | a15 | l15 | c15 | k15 | a16 | l16 | c16 | k16 | a17 | l17 | c17 | k17 | a18 | l18 | c18 | k18 | a19 | l19 | c19 | k19 | ZhR | ZhS | ZhT | ZhU | ZhV | ZhW | ZhX | ZhY | ZhZ | Zh0 | Zh1 | Zh2 => k_is)
  (case Zhz | ZhC | ZhF | ZhL | ZhI | ZhO | ZhA | ZhD | ZhG | ZhM | ZhJ | ZhP | ZhB | ZhE | ZhH | ZhN | ZhK | ZhQ => kit_is)
