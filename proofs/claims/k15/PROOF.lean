import PyProof.Rows.All
import Wide.All
import OpenK.AllK
import Wide.FinOn
import Lean
import PyProof.EqAt
import PyProof.EqKinds
import PyProof.TupleCall
import PyProof.Rows.StrCountLaw
import PyProof.Rows.StrFirst
import PyProof.Rows.StrLast
import PyProof.Rows.StrNews2
import PyProof.Rows.StrSplitCount
import PyProof.StrBlockI
import PyProof.StrLawsIn
import PyProof.StrLawsLast
import PyProof.EnumMake
import PyProof.FString
import PyProof.ReprStr
import PyProof.StrLawsRepr
import PyProof.ListStr
import PySem.Challenge.RW_grooveway_k15_parted_rooms
set_option Elab.async false
set_option linter.all false
set_option maxRecDepth 100000
set_option maxHeartbeats 4000000
namespace L2
open PySem PySem.Spec PyProof.Rows
abbrev Key := Sum Int Str
def Vb : Key -> Value -> Bool
 | .inl k, v => Value.isInt k v
 | .inr x, v => Value.isStrOf x v
def Zf0 (w : World) : Key -> Int
 | .inl k => hashInt k
 | .inr x => hashStr w x
theorem Xa : ∀ {k : Key} {v : Value}, Vb k v = true -> (∃ i t, k = Sum.inl i /\ v = Value.int i t) \/ (∃ x t, k = Sum.inr x /\ v = Value.str x t)
 | .inl i, v, h => by
  obtain ⟨t, e⟩ := Value.isInt_shape (k := i) (v := v) h
  exact .inl ⟨i, t, rfl, e⟩
 | .inr x, v, h => by
  obtain ⟨t, e⟩ := Value.isStrOf_shape (x := x) (v := v) h
  exact .inr ⟨x, t, rfl, e⟩
theorem ZbM (i : Int) (t : Tok) : Vb (.inl i) (.int i t) = true := by simp [Vb, Value.isInt]
theorem ZbN (x : Str) (t : Tok) : Vb (.inr x) (.str x t) = true := by simp [Vb, Value.isStrOf]
theorem Zei (a b : Int) : decide ((Sum.inl a : Key) = Sum.inl b) = (a == b) := by
 by_cases e : a = b
 · subst e; simp
 · have h : ¬ (Sum.inl a : Key) = Sum.inl b := fun q => e (Sum.inl.inj q)
   rw [decide_eq_false h]
   exact (beq_eq_false_iff_ne.mpr e).symm
theorem Zej (a b : Str) : decide ((Sum.inr a : Key) = Sum.inr b) = decide (a = b) := by
 by_cases e : a = b
 · subst e; simp
 · have h : ¬ (Sum.inr a : Key) = Sum.inr b := fun q => e (Sum.inr.inj q)
   rw [decide_eq_false h, decide_eq_false e]
theorem Zek (a : Int) (b : Str) : decide ((Sum.inl a : Key) = Sum.inr b) = false := decide_eq_false (fun q => nomatch q)
theorem Zel (a : Str) (b : Int) : decide ((Sum.inr a : Key) = Sum.inl b) = false := decide_eq_false (fun q => nomatch q)
def Yi (prog : Program) (w : World) : PySem.KeyKind prog w Key where
 is := Vb
 hash := Zf0 w
 inj := fun v a b ha hb => by
  rcases Xa ha with ⟨i, t, rfl, rfl⟩ | ⟨x, t, rfl, rfl⟩
  · rcases Xa hb with ⟨j, u, rfl, e⟩ | ⟨y, u, rfl, e⟩
    · injection e with e1 _; rw [e1]
    · exact nomatch e
  · rcases Xa hb with ⟨j, u, rfl, e⟩ | ⟨y, u, rfl, e⟩
    · exact nomatch e
    · injection e with e1 _; rw [e1]
 byValue := fun k v h => by
  rcases Xa h with ⟨i, t, rfl, rfl⟩ | ⟨x, t, rfl, rfl⟩ <;> rfl
 pyHash := fun hv h => by
  rcases Xa hv with ⟨i, t, rfl, rfl⟩ | ⟨x, t, rfl, rfl⟩
  · exact wpAny_pyHash_int h
  · exact wpAny_pyHash_str h
 eqBool := fun hu hv h => by
  rcases Xa hu with ⟨i, t, rfl, rfl⟩ | ⟨x, t, rfl, rfl⟩
  · rcases Xa hv with ⟨j, u, rfl, rfl⟩ | ⟨y, u, rfl, rfl⟩
    · rw [Zei] at h; exact wpAny_eqBool_int h
    · rw [Zek] at h; exact SeqAt.EqAt.int_str i t y u _ _ _ _ h
  · rcases Xa hv with ⟨j, u, rfl, rfl⟩ | ⟨y, u, rfl, rfl⟩
    · rw [Zel] at h; exact SeqAt.EqAt.str_int x t j u _ _ _ _ h
    · rw [Zej] at h; exact wpAny_eqBool_str h
 «strs» := fun k x t v h => by
  rcases Xa h with ⟨i, u, rfl, e⟩ | ⟨y, u, rfl, e⟩
  · exact nomatch e
  · injection e with e1 _
    subst e1
    cases v <;> rfl
theorem ZaB (prog : Program) (w : World) (i : Int) (t : Tok) : (Yi prog w).is (.inl i) (.int i t) = true := ZbM i t
theorem ZaC (prog : Program) (w : World) (x : Str) (t : Tok) : (Yi prog w).is (.inr x) (.str x t) = true := ZbN x t
end L2
namespace L2
open PySem PySem.Spec PyProof.Rows
inductive V where
 | non | bl (b : Bool) | int (i : Int) | str (x : Str) | byt (b : Array UInt8) | flt (b : UInt64) | ref (a : Addr) | ty (n : String)
 deriving DecidableEq
def RelV : V -> Value -> Prop
 | .non, u => u = Value.none
 | .bl b, u => u = Value.bool b
 | .int i, u => ∃ t, u = Value.int i t
 | .str x, u => ∃ t, u = Value.str x t
 | .byt b, u => ∃ t, u = Value.bytes b t
 | .flt b, u => ∃ t, u = Value.float b t
 | .ref a, u => u = Value.ref a
 | .ty n, u => u = Value.type n
abbrev Vals : List V -> List Value -> Prop := Paired RelV
theorem Vals.length {xs : List V} {us : List Value} (r : Vals xs us) : xs.length = us.length := Paired.length r
theorem Vals.get : ∀ {xs : List V} {us : List Value} {i : Nat} {x : V}, Vals xs us -> xs[i]? = some x -> ∃ u, us[i]? = some u /\ RelV x u
 | _, _, _, _, .nil, e => by simp at e
 | _, _, 0, _, .cons r _, e => by simp at e; subst e; exact ⟨_, rfl, r⟩
 | _, _, i + 1, x, .cons _ t, e => by
  obtain ⟨u, h1, h2⟩ := Vals.get (i := i) (x := x) t (by simpa using e)
  exact ⟨u, by simpa using h1, h2⟩
theorem Vals.set {x : V} {u : Value} (r : RelV x u) : ∀ {xs : List V} {us : List Value} (i : Nat), Vals xs us -> Vals (xs.set i x) (us.set i u)
 | _, _, _, .nil => .nil
 | _, _, 0, .cons _ t => .cons r t
 | _, _, i + 1, .cons q t => .cons q (Vals.set r i t)
theorem Vals.append : ∀ {xs ys : List V} {us ws : List Value}, Vals xs us -> Vals ys ws -> Vals (xs ++ ys) (us ++ ws)
 | _, _, _, _, .nil, s => s
 | _, _, _, _, .cons r t, s => .cons r (Vals.append t s)
def RelO : Option V -> Option Value -> Prop
 | some v, some u => RelV v u
 | none, none => True
 | _, _ => False
def KV {κ : Type} : List (κ × V) -> List (κ × Value) -> Prop := Paired fun (p : κ × V) (q : κ × Value) => p.1 = q.1 /\ RelV p.2 q.2
def kV : Key -> V
 | .inl i => .int i
 | .inr x => .str x
inductive HO where
 | lst (xs : List V)
 | tup (xs : List V)
 | dK (kvs : List (Key × V)) | dT (kvs : List (List Key × V))
 | set (S : Int -> Bool) (n : Nat)
 | ins (C dx : Addr) (fs : List (Str × V))
 | own (x : Addr)
 | xd (fs : List (Str × V))
 | met (f x : Addr)
 | rng (lo hi : Int)
 | frz (o : Obj) (u : HO)
 | tbl (ps : Array Value)
 | ext (φ : Heap -> Prop)
abbrev Hp := Addr -> Option HO
def upd (H : Hp) (a : Addr) (o : HO) : Hp := fun b => if b = a then some o else H b
theorem ZE {H : Hp} {a : Addr} {o : HO} : upd H a o a = some o := by unfold upd; rw [if_pos rfl]
theorem Zn {H : Hp} {a b : Addr} {o : HO} (h : b ≠ a) : upd H a o b = H b := by unfold upd; rw [if_neg h]
theorem ne_of {H : Hp} {a b : Addr} {o u : HO} (h : H a = some o) (h' : H b = some u) (d : o ≠ u) : a ≠ b := by
 intro e; subst e; rw [h] at h'; exact d (Option.some.inj h')
theorem YI {H : Hp} {a b : Addr} {o : HO} (h : H a = some o) (h' : H b = none) : a ≠ b := by
 intro e; subst e; rw [h] at h'; cases h'
def TupN (h : Heap) (a : Addr) (its : Array Value) : Prop := ∃ o, h.get? a = some o /\ o.cls = .type "tuple" /\ (∃ n, o.data = .seq its n) /\ o.dict = none
theorem TupN.tup {h : Heap} {a : Addr} {its : Array Value} (x : TupN h a its) : IsTup h a its := let ⟨o, e, c, d, _⟩ := x; ⟨o, e, c, d⟩
theorem TupN.new (h : Heap) (its : Array Value) : TupN (h.push { cls := .type "tuple", data := .seq its }) h.objs.size its := ⟨_, Heap.get?_push_size _ rfl, rfl, ⟨_, rfl⟩, rfl⟩
section
variable (P : Program) (w : World)
def ObjOk (H : Hp) (h : Heap) (a : Addr) : HO -> Prop
 | .lst xs => xs.length <= sizeLine /\ ∃ (its : List Value) (n : Nat), Vals xs its /\ h.get? a = some { cls := .type "list", data := .seq its.toArray n }
 | .tup xs => xs.length <= sizeLine /\ ∃ its : List Value, Vals xs its /\ TupN h a its.toArray
 | .dK kvs => kvs.length <= sizeLine /\ (a == sysModules) = false /\ ∃ vs, KV kvs vs /\ h.DictOf (Yi P w) a vs
 | .dT kvs => kvs.length <= sizeLine /\ (a == sysModules) = false /\ ∃ xs : List (List Key × Addr × Value),
  Paired (fun (p : List Key × V) (q : List Key × Addr × Value) => p.1 = q.1 /\ H q.2.1 = some (.tup (p.1.map kV)) /\ RelV p.2 q.2.2) kvs xs /\
  ∃ o es ep, h.get? a = some o /\ o.ExactDict /\ o.data = .dict es ep /\ es.toList = xs.map (entryOfKey (tupleKind (Yi P w))) /\ (xs.map (·.1)).Nodup
 | .set S n => h.SetOf (intKind P w) a S n
 | .ins C dx fs => H dx = some (.own a) /\ fs.length <= 1000 /\ dx ≠ a /\ h.get? a = some (PySem.W.instObj C dx) /\
  ∃ mA, h.Ns1 dx mA /\ (∀ f, RelO (fs.lookup f) (mA f)) /\ PySem.Within mA (fs.map (·.1))
 | .own _ => ∃ o, h.get? a = some o
 | .xd fs => ∃ mA, h.Ns1 a mA /\ ∀ f, RelO (fs.lookup f) (mA f)
 | .rng lo hi => ∃ t u v, h.get? a = some { cls := .type "range", data := .fields #[.int lo t, .int hi u, .int 1 v] }
 | .frz o u => h.get? a = some o /\ ObjOk H h a u
 | .tbl ps => h.get? a = some { cls := .none, data := .fields ps }
 | .met f x => h.get? a = some (PySem.W.methodObj (.ref f) (.ref x))
 | .ext φ => φ h /\ (∃ o, h.get? a = some o) /\ ∀ h1 h2 : Heap, φ h1 -> (∀ o, h1.get? a = some o -> h2.get? a = some o) -> φ h2
def HOk (H : Hp) (h : Heap) : Prop := ∀ a o, H a = some o -> ObjOk P w H h a o
end
section
variable {P : Program} {w : World} {H H' : Hp} {h h' : Heap} {a : Addr} {o : HO}
theorem ObjOk.lt (x : ObjOk P w H h a o) : a < h.objs.size := by
 cases o with
 | lst xs => obtain ⟨_, _, _, _, e⟩ := x; exact Heap.lt_size e
 | tup xs => obtain ⟨_, _, _, p⟩ := x; exact p.tup.lt
 | dK kvs => obtain ⟨_, _, _, _, o, _, _, e, _⟩ := x; exact Heap.lt_size e
 | dT kvs => obtain ⟨_, _, _, _, o, _, _, e, _⟩ := x; exact Heap.lt_size e
 | set S n => obtain ⟨o, _, _, _, e, _⟩ := x; exact Heap.lt_size e
 | ins C dx fs => obtain ⟨_, _, _, e, _⟩ := x; exact Heap.lt_size e
 | own y => obtain ⟨_, e⟩ := x; exact Heap.lt_size e
 | xd fs => obtain ⟨_, ⟨_, _, _, e, _⟩, _⟩ := x; exact Heap.lt_size e
 | rng lo hi => obtain ⟨_, _, _, e⟩ := x; exact Heap.lt_size e
 | frz ob u => obtain ⟨e, _⟩ := x; exact Heap.lt_size e
 | tbl ps => exact Heap.lt_size (show h.get? a = some _ from x)
 | met f y => exact Heap.lt_size (show h.get? a = some _ from x)
 | ext φ => obtain ⟨_, ⟨_, e⟩, _⟩ := x; exact Heap.lt_size e
theorem Paired.mapP {α β : Type} {F G : α -> β -> Prop} : ∀ {l₁ : List α} {l₂ : List β}, Paired F l₁ l₂ -> (∀ a b, F a b -> G a b) -> Paired G l₁ l₂
 | _, _, .nil, _ => .nil
 | _, _, .cons r t, f => .cons (f _ _ r) (Paired.mapP t f)
theorem ObjOk.stay (x : ObjOk P w H h a o) (k : ∀ b u, (b = a \/ H b = some (.own a)) -> h.get? b = some u -> h'.get? b = some u)
 (ho : ∀ b, H b = some (.own a) -> H' b = some (.own a)) (ht : ∀ b xs, H b = some (.tup xs) -> H' b = some (.tup xs)) : ObjOk P w H' h' a o := by
 induction o with
 | lst xs => obtain ⟨z, its, n, r, e⟩ := x; exact ⟨z, its, n, r, k _ _ (.inl rfl) e⟩
 | tup xs => obtain ⟨z, its, r, ob, e, c⟩ := x; exact ⟨z, its, r, ob, k _ _ (.inl rfl) e, c⟩
 | dK kvs => obtain ⟨z, y, vs, r, ob, es, ep, e, c⟩ := x; exact ⟨z, y, vs, r, ob, es, ep, k _ _ (.inl rfl) e, c⟩
 | dT kvs =>
  obtain ⟨z, y, xs, r, ob, es, ep, e, c⟩ := x
  exact ⟨z, y, xs, Paired.mapP r fun p q z => ⟨z.1, ht _ _ z.2.1, z.2.2⟩, ob, es, ep, k _ _ (.inl rfl) e, c⟩
 | set S n => obtain ⟨ob, es, ep, t, e, c⟩ := x; exact ⟨ob, es, ep, t, k _ _ (.inl rfl) e, c⟩
 | ins C dx fs =>
  obtain ⟨d, z, ne, e, mA, ⟨od, es, ep, e2, c⟩, r⟩ := x
  exact ⟨ho _ d, z, ne, k _ _ (.inl rfl) e, mA, ⟨od, es, ep, k _ _ (.inr d) e2, c⟩, r⟩
 | own y => obtain ⟨ob, e⟩ := x; exact ⟨ob, k _ _ (.inl rfl) e⟩
 | xd fs => obtain ⟨mA, ⟨od, es, ep, e, c⟩, r⟩ := x; exact ⟨mA, ⟨od, es, ep, k _ _ (.inl rfl) e, c⟩, r⟩
 | rng lo hi => obtain ⟨t, u, v, e⟩ := x; exact ⟨t, u, v, k _ _ (.inl rfl) e⟩
 | frz ob u ih => obtain ⟨e, q⟩ := x; exact ⟨k _ _ (.inl rfl) e, ih q⟩
 | tbl ps =>
  have e : h.get? a = some { cls := .none, data := .fields ps } := x
  show h'.get? a = some { cls := .none, data := .fields ps }
  exact k a _ (.inl rfl) e
 | met f y =>
  have e : h.get? a = some (PySem.W.methodObj (.ref f) (.ref y)) := x
  show h'.get? a = some (PySem.W.methodObj (.ref f) (.ref y))
  exact k a _ (.inl rfl) e
 | ext φ => obtain ⟨p, ⟨o, e⟩, st⟩ := x; exact ⟨st _ _ p fun o q => k _ _ (.inl rfl) q, ⟨o, k _ _ (.inl rfl) e⟩, st⟩
theorem HOk.lt (x : HOk P w H h) (e : H a = some o) : a < h.objs.size := (x a o e).lt
theorem HOk.fresh (x : HOk P w H h) (e : h.objs.size <= a) : H a = none := by
 cases q : H a with
 | none => rfl
 | some u => exact absurd (Nat.lt_of_lt_of_le (x.lt q) e) (Nat.lt_irrefl _)
theorem HOk.kept (x : HOk P w H h) (k : ∀ b u, h.get? b = some u -> h'.get? b = some u) : HOk P w H h' := fun a o e =>
 (x a o e).stay (fun b u _ q => k b u q) (fun _ q => q) fun _ _ q => q
theorem HOk.laid (x : HOk P w H h) (k : ∀ b u, h.get? b = some u -> h'.get? b = some u) (hp : h.objs.size <= a) (new : ObjOk P w (upd H a o) h' a o) : HOk P w (upd H a o) h' := fun b u e => by
 have hn := x.fresh hp
 by_cases hb : b = a
 · subst hb; rw [ZE] at e; cases e; exact new
 · rw [Zn hb] at e
   exact (x b u e).stay (fun c v _ q => k c v q) (fun c q => by rw [Zn (YI q hn)]; exact q) fun c xs q => by rw [Zn (YI q hn)]; exact q
end
def Rd (H : Hp) (a : Addr) (u : HO) : Prop := H a = some u \/ ∃ o, H a = some (.frz o u)
theorem Rd.ok {P : Program} {w : World} {H : Hp} {h : Heap} {a : Addr} {u : HO} (r : Rd H a u) (x : HOk P w H h) : ObjOk P w H h a u := by
 rcases r with r | ⟨o, r⟩
 · exact x a u r
 · obtain ⟨_, q⟩ := x a _ r
   exact q
def Mut : Option HO -> Prop
 | some (.lst _) => True
 | some (.dK _) => True
 | some (.dT _) => True
 | some (.set _ _) => True
 | some (.ins _ _ _) => True
 | some (.ext _) => True
 | _ => False
section
variable {P : Program} {w : World} {H : Hp} {h h' : Heap} {x e : Addr} {o' : HO}
theorem HOk.write (ok : HOk P w H h) (mu : Mut (H x)) (he : e = x \/ H e = some (.own x)) (k : ∀ b u, b ≠ e -> h.get? b = some u -> h'.get? b = some u) (heo : ∃ u, h'.get? e = some u)
 (new : ObjOk P w (upd H x o') h' x o') : HOk P w (upd H x o') h' := fun b u q => by
 have nown : ∀ c y, H c = some (.own y) -> c ≠ x := fun c y r z => by subst z; rw [r] at mu; exact mu
 have ntup : ∀ c xs, H c = some (.tup xs) -> c ≠ x := fun c xs r z => by subst z; rw [r] at mu; exact mu
 by_cases hb : b = x
 · subst hb; rw [ZE] at q; cases q; exact new
 · rw [Zn hb] at q
   by_cases hbe : b = e
   · have q' : H b = some (.own x) := by
      rcases he with z | z
      · exact absurd (hbe.trans z) hb
      · rw [hbe]; exact z
     rw [q] at q'; cases q'
     obtain ⟨v, hv⟩ := heo
     exact ⟨v, by rw [hbe]; exact hv⟩
   · refine (ok b u q).stay (fun c v hc r => k c v ?_ r) (fun c r => by rw [Zn (nown c b r)]; exact r) fun c xs r => by rw [Zn (ntup c xs r)]; exact r
     rcases hc with rfl | hc
     · exact hbe
     · rintro rfl
       rcases he with z | z
       · exact nown c b hc z
       · rw [hc] at z; cases z; exact hb rfl
end
structure Un (fs ex : List Addr) (H H' : Hp) (h h' : Heap) : Prop where
 keep : ∀ b o, h.get? b = some o -> H b = none -> b ∉ fs -> b ∉ ex -> h'.get? b = some o
 slot : ∀ b o, h.get? b = some o -> H b = none -> b ∈ fs -> b ∉ ex -> ∃ sl, h'.get? b = some { o with slots := sl }
 free : ∀ b o, h.get? b = some o -> H b = none -> b ∉ ex -> H' b = none
 there : ∀ b o, h.get? b = some o -> b ∉ ex -> ∃ o', h'.get? b = some o'
 tups : ∀ b xs, H b = some (.tup xs) -> H' b = some (.tup xs)
 frzs : ∀ b o u, H b = some (.frz o u) -> H' b = some (.frz o u)
 tbls : ∀ b ps, H b = some (.tbl ps) -> ∃ more, H' b = some (.tbl (ps ++ more))
section
variable {fs fs' ex ex' : List Addr} {H H1 H2 : Hp} {h h1 h2 h' : Heap} {a x e : Addr} {o : HO}
theorem Un.any (u : Un fs ex H H1 h h1) {b : Addr} {ob : Obj} (q : h.get? b = some ob) (n : H b = none) (hx : b ∉ ex) : ∃ sl, h1.get? b = some { ob with slots := sl } := by
 by_cases hb : b ∈ fs
 · exact u.slot b ob q n hb hx
 · exact ⟨ob.slots, u.keep b ob q n hb hx⟩
theorem Un.kept (k : ∀ b u, h.get? b = some u -> h'.get? b = some u) : Un fs ex H H h h' :=
 ⟨fun b ob q _ _ _ => k b ob q, fun b ob q _ _ _ => ⟨ob.slots, k b ob q⟩, fun _ _ _ n _ => n, fun b ob q _ => ⟨ob, k b ob q⟩, fun _ _ q => q, fun _ _ _ q => q, fun _ ps q => ⟨#[], by rw [q]; simp⟩⟩
theorem Un.refl : Un fs ex H H h h := Un.kept fun _ _ q => q
theorem Un.laid (k : ∀ b u, h.get? b = some u -> h'.get? b = some u) (hp : h.objs.size <= a) (hn : H a = none) : Un fs ex H (upd H a o) h h' where
 keep := fun b u q _ _ _ => k b u q
 slot := fun b u q _ _ _ => ⟨u.slots, k b u q⟩
 free := fun b u q n _ => by rw [Zn (Nat.ne_of_lt (Nat.lt_of_lt_of_le (Heap.lt_size q) hp))]; exact n
 there := fun b u q _ => ⟨u, k b u q⟩
 tups := fun b xs q => by rw [Zn (YI q hn)]; exact q
 frzs := fun b u xs q => by rw [Zn (YI q hn)]; exact q
 tbls := fun b ps q => ⟨#[], by rw [Zn (YI q hn), q]; simp⟩
theorem Un.write (mu : Mut (H x)) (he : e = x \/ H e = some (.own x)) (k : ∀ b u, b ≠ e -> h.get? b = some u -> h'.get? b = some u) (heo : ∃ u, h'.get? e = some u) : Un fs ex H (upd H x o) h h' := by
 have hx : ∀ b, H b = none -> b ≠ x := fun b n z => by subst z; rw [n] at mu; exact mu
 have hb : ∀ b, H b = none -> b ≠ e := fun b n z => by
  subst z
  rcases he with r | r
  · exact hx b n r
  · rw [n] at r; cases r
 have hm : ∀ b u, H b = some u -> ¬ Mut (some u) -> b ≠ x := fun b u q nm z => by subst z; rw [q] at mu; exact nm mu
 refine ⟨fun b u q n _ _ => k b u (hb b n) q, fun b u q n _ _ => ⟨u.slots, k b u (hb b n) q⟩, fun b u q n _ => by rw [Zn (hx b n)]; exact n, fun b u q _ => ?_,
  fun b xs q => by rw [Zn (hm b _ q fun z => z)]; exact q, fun b u xs q => by rw [Zn (hm b _ q fun z => z)]; exact q, fun b ps q => ⟨#[], by rw [Zn (hm b _ q fun z => z), q]; simp⟩⟩
 by_cases hbe : b = e
 · subst hbe; exact heo
 · exact ⟨u, k b u hbe q⟩
end
def trk (h : Heap) (H : Hp) : List Addr := (List.range h.objs.size).filter fun a => (H a).isSome
def Xb (h : Heap) (H : Hp) : Heap := PySem.W.hideAll h (trk h H)
theorem ZbO (h : Heap) (H : Hp) : (Xb h H).objs.size = h.objs.size := PySem.W.hideAll_size _ _
theorem Zch {h : Heap} {H : Hp} {b : Addr} {o : Obj} (e : h.get? b = some o) (n : H b = none) : (Xb h H).get? b = some o :=
 PySem.W.hideAll_get _ e fun hm => by
  have q : (H b).isSome = true := (List.mem_filter.mp hm).2
  rw [n] at q; simp at q
theorem Zdb {h : Heap} {H : Hp} {b : Addr} {o : Obj} (e : (Xb h H).get? b = some o) : h.get? b = some o /\ H b = none := by
 have e' : h.get? b = some o := PySem.W.of_hideAll (trk h H) e
 refine ⟨e', ?_⟩
 cases q : H b with
 | none => rfl
 | some x =>
  have hm : b ∈ trk h H := List.mem_filter.mpr ⟨List.mem_range.mpr (Heap.lt_size e'), by simp [q]⟩
  have z : (Xb h H).get? b = none := PySem.W.hideAll_none (trk h H) hm
  rw [z] at e; cases e
end L2
namespace L2
open PySem PySem.Spec PyProof.Rows
structure Mod (K : PySem.W.Frag) (mg : Str -> Option Value) (base : Heap) : Prop where
 kin : K.In base
 glob : base.Ns mainGlobals mg
 blt : ∃ mb, base.Ns builtinsNs mb /\ ∀ x : Str, x ≠ "__name__" -> mb x = bootBuiltins x
 nolimit : base.NoLimit
structure Cx where
 prog : Program
 w : World
 K : PySem.W.Frag
 mg : Str -> Option Value
 base : Heap
 A : Around
 N : List Str
 s₀ : Shared
 H₀ : Hp
 env : Env
 outer : List Env
 stack : List Env
 ex : List Addr
 fn : Str -> Bool
 calm : Bool
 pn : List (Addr × Obj)
 xe : Value -> Shared -> Prop
def frs (l : List Env) : List Addr := l.filterMap (·.frame)
abbrev Cx.fs (X : Cx) : List Addr := frs X.outer
def Vis (sc : Scope) (x : Str) : Prop := sc.names.lookup x = some .local \/ sc.names.lookup x = some .cell \/ sc.names.lookup x = some .free
def Loc (sc : Scope) (x : Str) : Prop := sc.names.lookup x = some .local \/ sc.names.lookup x = some .cell
def Jc (env : Env) (h : Heap) (m : Str -> Option Value) (x : Str) (u : Value) : Prop :=
 (env.kindOf x = some .local /\ m x = some u) \/ ((env.kindOf x = some .cell \/ env.kindOf x = some .free) /\ ∃ c, env.cells.lookup x = some c /\ h.IsCell c (some u))
structure Cx.Ok (X : Cx) : Prop where
 mod : Mod X.K X.mg X.base
 kind : X.env.scope.kind = .function
 glob : X.env.globals = mainGlobals
 blt : X.env.builtins = builtinsNs
 above : X.s₀.heap.objs.size <= X.env.locals
 inj : ∀ x y c, X.env.cells.lookup x = some c -> X.env.cells.lookup y = some c -> x = y
 has : ∀ x, (X.env.kindOf x = some .cell \/ X.env.kindOf x = some .free) -> ∃ c, X.env.cells.lookup x = some c
 cab : ∀ x c, X.fn x = true -> X.env.cells.lookup x = some c -> X.s₀.heap.objs.size <= c
 hd : X.calm = true -> X.A.handled = none
 frames : X.A.frames = some X.stack
 stk : X.stack = X.outer \/ (X.stack = X.env :: X.outer /\ X.env.frame = some X.env.locals)
 exf : ∀ b ∈ X.ex, b ≠ X.env.locals /\ ∀ x c, X.env.cells.lookup x = some c -> c ≠ b
 bs : ∀ b o, X.base.get? b = some o -> X.s₀.heap.get? b = some o /\ X.H₀ b = none
 bsz : X.base.objs.size <= X.s₀.heap.objs.size
 noex : ∀ b o, X.base.get? b = some o -> b ∉ X.ex
 exfs : ∀ b ∈ X.ex, b ∉ X.fs
 funs : X.s₀.heap.FunFrames X.base X.outer
 frf : ∀ b ∈ X.fs, X.H₀ b = none
structure Inv (X : Cx) (pins : List (Addr × Obj)) (σ : List (Option V)) (H : Hp) (s : Shared) : Prop where
 ok : X.Ok
 os : s.os = X.s₀.os
 bare : AllBare s.gens
 base : Un X.fs X.ex X.H₀ H X.s₀.heap s.heap
 loc : ∃ m, s.heap.Ns X.env.locals m /\ ∀ (i : Nat) (x : Str) (v : V), X.N[i]? = some x -> σ[i]? = some (some v) -> Vis X.env.scope x -> ∃ u, RelV v u /\ Jc X.env s.heap m x u
 cell : ∀ x c, X.env.cells.lookup x = some c -> ∃ v, s.heap.IsCell c v
 free : H X.env.locals = none
 freeC : ∀ x c, X.env.cells.lookup x = some c -> H c = none
 pin : ∀ p ∈ X.pn ++ pins, s.heap.get? p.1 = some p.2 /\ H p.1 = none /\ p.1 ≠ X.env.locals /\ p.1 ∉ X.fs /\ ∀ v, p.2.data ≠ .cell v
 hok : HOk X.prog X.w H s.heap
 len : σ.length = X.N.length
section
variable {X : Cx} {pins : List (Addr × Obj)} {σ : List (Option V)} {H H' : Hp} {s : Shared} {h' : Heap}
theorem Cx.Ok.nofr (ok : X.Ok) {b : Addr} {o : Obj} (e : X.base.get? b = some o) : b ∉ X.fs := fun hb => by
 have := (ok.funs.mem hb).1
 rw [e] at this; cases this
theorem Inv.bs (I : Inv X pins σ H s) : ∀ b o, X.base.get? b = some o -> s.heap.get? b = some o /\ H b = none := fun b o e =>
 ⟨I.base.keep b o (I.ok.bs b o e).1 (I.ok.bs b o e).2 (I.ok.nofr e) (I.ok.noex b o e), I.base.free b o (I.ok.bs b o e).1 (I.ok.bs b o e).2 (I.ok.noex b o e)⟩
theorem Inv.bk (I : Inv X pins σ H s) : ∀ b o, X.base.get? b = some o -> s.heap.get? b = some o := fun b o e => (I.bs b o e).1
theorem Inv.mod (I : Inv X pins σ H s) : Mod X.K X.mg X.base := I.ok.mod
theorem Inv.kIn (I : Inv X pins σ H s) : X.K.In s.heap := I.ok.mod.kin.keeps I.bk
theorem Inv.nolimit (I : Inv X pins σ H s) : s.heap.NoLimit := I.ok.mod.nolimit.keeps I.bk
theorem Inv.fr (I : Inv X pins σ H s) : ∃ m, Fr X.base X.env.locals s.heap m :=
 let ⟨m, hn, _⟩ := I.loc
 ⟨m, hn, I.bk, Nat.le_trans I.ok.bsz I.ok.above⟩
theorem Inv.lt (I : Inv X pins σ H s) : X.env.locals < s.heap.objs.size := let ⟨_, hn, _⟩ := I.loc; hn.lt
theorem Inv.sz (I : Inv X pins σ H s) : X.s₀.heap.objs.size <= s.heap.objs.size := Nat.le_trans I.ok.above (Nat.le_of_lt I.lt)
theorem Inv.nofs (I : Inv X pins σ H s) {a : Addr} (h : s.heap.objs.size <= a) : a ∉ X.fs := fun hb => by
 obtain ⟨_, o, ho, _⟩ := I.ok.funs.mem hb
 exact absurd (Nat.lt_of_lt_of_le (Heap.lt_size ho) (Nat.le_trans I.sz h)) (Nat.lt_irrefl _)
theorem Inv.cne (I : Inv X pins σ H s) : ∀ x c, X.env.cells.lookup x = some c -> c ≠ X.env.locals := fun x c e z => by
 obtain ⟨v, o, ho, hd⟩ := I.cell x c e
 obtain ⟨m, ⟨o', es, ep, ho', hd', _⟩, _⟩ := I.loc
 rw [z, ho'] at ho; cases ho; rw [hd'] at hd; cases hd
theorem Inv.funs (I : Inv X pins σ H s) : s.heap.FunFrames X.base X.outer := by
 have all : ∀ (l : List Env), (∀ b ∈ frs l, b ∈ X.fs) -> X.s₀.heap.FunFrames X.base l -> s.heap.FunFrames X.base l := by
  intro l
  induction l with
  | nil => intro _ _; trivial
  | cons env r ih =>
   intro hs hl
   obtain ⟨hk, ⟨L, o, hf, hn, ho, hd⟩, hr⟩ := hl
   have hL : L ∈ X.fs := hs L (by unfold frs; rw [List.filterMap_cons, hf]; exact List.mem_cons_self)
   obtain ⟨sl, e⟩ := I.base.slot L o ho (I.ok.frf L hL) hL fun z => I.ok.exfs L z hL
   exact ⟨hk, ⟨L, _, hf, hn, e, hd⟩, ih (fun b hb => hs b (by unfold frs; rw [List.filterMap_cons, hf]; exact List.mem_cons_of_mem _ hb)) hr⟩
 exact all X.outer (fun _ hb => hb) I.ok.funs
theorem Inv.stack (I : Inv X pins σ H s) : s.heap.FunFrames X.base X.stack := by
 rcases I.ok.stk with e | ⟨e, hf⟩
 · rw [e]; exact I.funs
 · rw [e]
   obtain ⟨m, hn, _⟩ := I.loc
   refine .cons (by rw [I.ok.kind]; decide) hf hn ?_ I.funs
   exact Heap.get?_none_of_le (Nat.le_trans I.ok.bsz I.ok.above)
theorem Inv.stkSub (I : Inv X pins σ H s) : ∀ b ∈ frs X.stack, b ∈ X.env.locals :: X.fs := fun b hb => by
 rcases I.ok.stk with e | ⟨e, hf⟩
 · rw [e] at hb; exact List.mem_cons_of_mem _ hb
 · rw [e] at hb
   unfold frs at hb
   rw [List.filterMap_cons, hf] at hb
   exact hb
theorem Inv.stkFree (I : Inv X pins σ H s) : ∀ b ∈ frs X.stack, H b = none := fun b hb => by
 rcases List.mem_cons.mp (I.stkSub b hb) with e | hb
 · rw [e]; exact I.free
 · obtain ⟨_, o, ho, _⟩ := I.ok.funs.mem hb
   exact I.base.free b o ho (I.ok.frf b hb) fun z => I.ok.exfs b z hb
theorem Inv.step {g' : Array GenState} {t' : Nat} {d' : Drawn} {ch : List Addr} (I : Inv X pins σ H s)
 (hch : ∀ b ∈ ch, (b ∈ X.ex \/ X.s₀.heap.objs.size <= b) /\ b ≠ X.env.locals /\ (∀ x c, X.env.cells.lookup x = some c -> c ≠ b) /\ ∀ p ∈ X.pn ++ pins, p.1 ≠ b)
 (keep : ∀ b o, b ≠ X.env.locals -> b ∉ X.fs -> b ∉ ch -> s.heap.get? b = some o -> H b = none -> h'.get? b = some o)
 (slot : ∀ b o, b ≠ X.env.locals -> b ∈ X.fs -> b ∉ ch -> s.heap.get? b = some o -> H b = none -> ∃ sl, h'.get? b = some { o with slots := sl }) (free : ∀ b o, b ∉ ch -> s.heap.get? b = some o -> H b = none -> H' b = none)
 (there : ∀ b o, b ∉ ch -> s.heap.get? b = some o -> ∃ o', h'.get? b = some o')
 (tups : ∀ b xs, H b = some (.tup xs) -> H' b = some (.tup xs)) (frzs : ∀ b o u, H b = some (.frz o u) -> H' b = some (.frz o u)) (tbls : ∀ b ps, H b = some (.tbl ps) -> ∃ more, H' b = some (.tbl (ps ++ more)))
 (ns : ∀ m, s.heap.Ns X.env.locals m -> h'.Ns X.env.locals m) (hok : HOk X.prog X.w H' h') (hg : AllBare g') :
 Inv X pins σ H' { s with heap := h', gens := g', drawn := d', toks := t' } := by
 have neL : ∀ b o, X.s₀.heap.get? b = some o -> b ≠ X.env.locals := fun b o e => Nat.ne_of_lt (Nat.lt_of_lt_of_le (Heap.lt_size e) I.ok.above)
 have neC : ∀ b o, X.s₀.heap.get? b = some o -> b ∉ X.ex -> b ∉ ch := fun b o e hx hb => by
  rcases (hch b hb).1 with z | z
  · exact hx z
  · exact absurd (Nat.lt_of_lt_of_le (Heap.lt_size e) z) (Nat.lt_irrefl _)
 have cellK : ∀ x c, X.env.cells.lookup x = some c -> ∀ v, s.heap.IsCell c v -> h'.IsCell c v := fun x c e v ⟨o, ho, hd⟩ => by
  have nch : c ∉ ch := fun z => (hch c z).2.2.1 x c e rfl
  by_cases hc : c ∈ X.fs
  · obtain ⟨sl, q⟩ := slot c o (I.cne x c e) hc nch ho (I.freeC x c e)
    exact ⟨_, q, hd⟩
  · exact ⟨o, keep c o (I.cne x c e) hc nch ho (I.freeC x c e), hd⟩
 refine ⟨I.ok, I.os, hg, ⟨fun b o e n hb hx => ?_, fun b o e n hb hx => ?_, fun b o e n hx => ?_, fun b o e hx => ?_, fun b xs e => tups b xs (I.base.tups b xs e), fun b o xs e => frzs b o xs (I.base.frzs b o xs e), fun b ps e => ?_⟩, ?_, fun x c e => ?_, ?_, fun x c e => ?_, fun p hp => ?_, hok, I.len⟩
 · exact keep b o (neL b o e) hb (neC b o e hx) (I.base.keep b o e n hb hx) (I.base.free b o e n hx)
 · obtain ⟨sl, e1⟩ := I.base.slot b o e n hb hx
   obtain ⟨sl', e2⟩ := slot b _ (neL b o e) hb (neC b o e hx) e1 (I.base.free b o e n hx)
   exact ⟨sl', e2⟩
 · obtain ⟨o', e1⟩ := I.base.there b o e hx
   exact free b o' (neC b o e hx) e1 (I.base.free b o e n hx)
 · obtain ⟨o', e1⟩ := I.base.there b o e hx
   exact there b o' (neC b o e hx) e1
 · obtain ⟨m1, e1⟩ := I.base.tbls b ps e
   obtain ⟨m2, e2⟩ := tbls b _ e1
   exact ⟨m1 ++ m2, by rw [e2, Array.append_assoc]⟩
 · obtain ⟨m, hn, hl⟩ := I.loc
   refine ⟨m, ns m hn, fun i x v e1 e2 e3 => ?_⟩
   obtain ⟨u, r, l⟩ := hl i x v e1 e2 e3
   refine ⟨u, r, ?_⟩
   rcases l with l | ⟨k, c, e, z⟩
   · exact .inl l
   · exact .inr ⟨k, c, e, cellK x c e _ z⟩
 · obtain ⟨v, z⟩ := I.cell x c e
   exact ⟨v, cellK x c e v z⟩
 · obtain ⟨m, ⟨o, _, _, ho, _⟩, _⟩ := I.loc
   exact free _ o (fun z => (hch _ z).2.1 rfl) ho I.free
 · obtain ⟨v, o, ho, hd⟩ := I.cell x c e
   exact free c o (fun z => (hch c z).2.2.1 x c e rfl) ho (I.freeC x c e)
 · obtain ⟨e, n, ne, nf, d⟩ := I.pin p hp
   have nch : p.1 ∉ ch := fun z => (hch p.1 z).2.2.2 p hp rfl
   exact ⟨keep p.1 p.2 ne nf nch e n, free p.1 p.2 nch e n, ne, nf, d⟩
theorem Inv.un {t' : Nat} (I : Inv X pins σ H s) (u : Un X.fs [] H H' s.heap h') (hok : HOk X.prog X.w H' h') : Inv X pins σ H' { s with heap := h', toks := t' } := by
 obtain ⟨m, ⟨o, es, ep, ho, r⟩, _⟩ := id I.loc
 obtain ⟨sl, hL⟩ := u.any ho I.free (by simp)
 exact I.step (g' := s.gens) (d' := s.drawn) (ch := []) (fun _ z => nomatch z) (fun b o _ hb _ e n => u.keep b o e n hb (by simp)) (fun b o _ hb _ e n => u.slot b o e n hb (by simp)) (fun b o _ e n => u.free b o e n (by simp)) (fun b o _ e => u.there b o e (by simp)) u.tups u.frzs u.tbls (fun m' hm => by
  obtain ⟨o', es', ep', ho', r'⟩ := hm
  rw [ho] at ho'; cases ho'
  exact ⟨_, es', ep', hL, r'⟩) hok I.bare
theorem Inv.call {g' : Array GenState} {t' : Nat} {d' : Drawn} {ch : List Addr} (I : Inv X pins σ H s) (u : Un (frs X.stack) ch H H' s.heap h') (hok : HOk X.prog X.w H' h') (hg : AllBare g')
 (hch : ∀ b ∈ ch, (b ∈ X.ex \/ X.s₀.heap.objs.size <= b) /\ b ≠ X.env.locals /\ (∀ x c, X.env.cells.lookup x = some c -> c ≠ b) /\ ∀ p ∈ X.pn ++ pins, p.1 ≠ b) :
 Inv X pins σ H' { s with heap := h', gens := g', drawn := d', toks := t' } := by
 obtain ⟨m, ⟨o, es, ep, ho, r⟩, _⟩ := id I.loc
 obtain ⟨sl, hL⟩ := u.any ho I.free fun z => (hch _ z).2.1 rfl
 exact I.step (ch := ch) hch (fun b o hL hb hc e n => u.keep b o e n (fun z => (List.mem_cons.mp (I.stkSub b z)).elim hL hb) hc) (fun b o _ _ hc e n => u.any e n hc) (fun b o hc e n => u.free b o e n hc) (fun b o hc e => u.there b o e hc) u.tups u.frzs u.tbls (fun m' hm => by
  obtain ⟨o', es', ep', ho', r'⟩ := hm
  rw [ho] at ho'; cases ho'
  exact ⟨_, es', ep', hL, r'⟩) hok hg
theorem Inv.turned {t' : Nat} {it : Addr} (I : Inv X pins σ H s) (k : ∀ b o, b ≠ it -> s.heap.get? b = some o -> h'.get? b = some o) (hn : H it = none) (hL : it ≠ X.env.locals)
 (h1 : it ∈ X.ex \/ X.s₀.heap.objs.size <= it) (h2 : ∀ x c, X.env.cells.lookup x = some c -> c ≠ it) (h3 : ∀ p ∈ X.pn ++ pins, p.1 ≠ it) : Inv X pins σ H { s with heap := h', toks := t' } := by
 have nit : ∀ b u, H b = some u -> b ≠ it := fun b u e z => by rw [z, hn] at e; cases e
 refine I.step (g' := s.gens) (d' := s.drawn) (ch := [it]) (fun b hb => ?_) (fun b o _ _ hc e _ => k b o (fun z => hc (by simp [z])) e) (fun b o _ _ hc e _ => ⟨o.slots, k b o (fun z => hc (by simp [z])) e⟩) (fun _ _ _ _ n => n)
  (fun b o hc e => ⟨o, k b o (fun z => hc (by simp [z])) e⟩) (fun _ _ e => e) (fun _ _ _ e => e) (fun b ps e => ⟨#[], by rw [e]; simp⟩) (fun m hm => ?_) (fun b u e => ?_) I.bare
 · have e : b = it := by simpa using hb
   subst e
   exact ⟨h1, hL, h2, h3⟩
 · obtain ⟨o, es, ep, ho, r⟩ := hm
   exact ⟨o, es, ep, k _ o (Ne.symm hL) ho, r⟩
 · refine (I.hok b u e).stay (fun c v hc q => k c v ?_ q) (fun _ q => q) fun _ _ q => q
   rcases hc with z | z
   · rw [z]; exact nit b u e
   · exact nit c _ z
theorem Inv.tok (I : Inv X pins σ H s) (t : Nat) : Inv X pins σ H { s with toks := t } := I.un (h' := s.heap) (t' := t) Un.refl I.hok
theorem Inv.kept {t' : Nat} (I : Inv X pins σ H s) (k : ∀ b u, s.heap.get? b = some u -> h'.get? b = some u) : Inv X pins σ H { s with heap := h', toks := t' } := I.un (Un.kept k) (I.hok.kept k)
theorem Inv.laid {a : Addr} {o : HO} {t' : Nat} (I : Inv X pins σ H s) (k : ∀ b u, s.heap.get? b = some u -> h'.get? b = some u) (hp : s.heap.objs.size <= a) (new : ObjOk X.prog X.w (upd H a o) h' a o) :
 Inv X pins σ (upd H a o) { s with heap := h', toks := t' } := I.un (Un.laid k hp (I.hok.fresh hp)) (I.hok.laid k hp new)
theorem Inv.write {x e : Addr} {o : HO} {t' : Nat} (I : Inv X pins σ H s) (mu : Mut (H x)) (he : e = x \/ H e = some (.own x)) (k : ∀ b u, b ≠ e -> s.heap.get? b = some u -> h'.get? b = some u) (heo : ∃ u, h'.get? e = some u)
 (new : ObjOk X.prog X.w (upd H x o) h' x o) : Inv X pins σ (upd H x o) { s with heap := h', toks := t' } := I.un (Un.write mu he k heo) (I.hok.write mu he k heo new)
theorem Inv.pins_of {pins' : List (Addr × Obj)} (I : Inv X pins σ H s) (h : ∀ p ∈ pins', s.heap.get? p.1 = some p.2 /\ H p.1 = none /\ p.1 ≠ X.env.locals /\ p.1 ∉ X.fs /\ ∀ v, p.2.data ≠ .cell v) : Inv X pins' σ H s :=
 ⟨I.ok, I.os, I.bare, I.base, I.loc, I.cell, I.free, I.freeC, fun p hp => (List.mem_append.mp hp).elim (fun z => I.pin p (List.mem_append_left _ z)) (h p), I.hok, I.len⟩
theorem Jd {N : List Str} (hN : N.Nodup) {i j : Nat} {x : Str} (a : N[i]? = some x) (b : N[j]? = some x) : i = j := by
 obtain ⟨h1, e1⟩ := List.getElem?_eq_some_iff.mp a
 obtain ⟨h2, e2⟩ := List.getElem?_eq_some_iff.mp b
 exact (List.getElem_inj hN).mp (e1.trans e2.symm)
theorem ZbP {M : Model} {A : Around} {E : Value -> Shared -> Prop} {i : Nat} {x : Str} {v : V} {u : Value} {Q : Unit -> Shared -> Prop} (I : Inv X pins σ H s) (hN : X.N.Nodup) (hi : X.N[i]? = some x) (hx : Loc X.env.scope x) (r : RelV v u)
 (h : ∀ s', Inv X pins (σ.set i (some v)) H s' -> (∃ a, Heap.SameBut a s.heap s'.heap /\ (a = X.env.locals \/ X.env.cells.lookup x = some a)) -> Q () s') (hf : X.fn x = true \/ X.env.scope.names.lookup x = some .local := by first | exact .inl rfl | exact .inr rfl | assumption) : wpAny M A (storeName X.env x u) Q E s := by
 obtain ⟨m, hn, hl⟩ := id I.loc
 have hcls : (X.env.scope.kind == .class || (X.env.scope.kind == .module && X.env.locals != X.env.globals)) = false := by rw [I.ok.kind]; rfl
 have hiσ : i < σ.length := by rw [I.len]; exact (List.getElem?_eq_some_iff.mp hi).1
 have cne := I.cne
 have tracked : ∀ {a : Addr} {h' : Heap}, (∃ o, s.heap.get? a = some o /\ H a = none) -> Heap.SameBut a s.heap h' -> HOk X.prog X.w H h' := fun {a h'} ha hs b ob e => by
  obtain ⟨_, _, hfree⟩ := ha
  refine (I.hok b ob e).stay (fun c w' hc q => (hs.2 c ?_).trans q) (fun _ q => q) fun _ _ q => q
  rintro rfl
  rcases hc with rfl | hc
  · rw [hfree] at e; cases e
  · rw [hfree] at hc; cases hc
 rcases hx with hk | hk
 · refine wpAny_storeName_local hk hn (fun h' hn' hs => ?_) hcls
   obtain ⟨oL, _, _, hoL, _⟩ := id hn
   refine h _ ⟨I.ok, I.os, I.bare, ⟨fun b o e n hb hx => ?_, fun b o e n hb hx => ?_, I.base.free, fun b o e hx => ?_, I.base.tups, I.base.frzs, I.base.tbls⟩, ⟨_, hn', fun j y v' e1 e2 e3 => ?_⟩, fun y c e => ?_, I.free, I.freeC, fun p hp => ?_, tracked ⟨oL, hoL, I.free⟩ hs, by simpa using I.len⟩ ⟨_, hs, .inl rfl⟩
   · exact (hs.2 b (Nat.ne_of_lt (Nat.lt_of_lt_of_le (Heap.lt_size e) I.ok.above))).trans (I.base.keep b o e n hb hx)
   · obtain ⟨sl, e1⟩ := I.base.slot b o e n hb hx
     exact ⟨sl, (hs.2 b (Nat.ne_of_lt (Nat.lt_of_lt_of_le (Heap.lt_size e) I.ok.above))).trans e1⟩
   · obtain ⟨o', e1⟩ := I.base.there b o e hx
     exact ⟨o', (hs.2 b (Nat.ne_of_lt (Nat.lt_of_lt_of_le (Heap.lt_size e) I.ok.above))).trans e1⟩
   · by_cases hj : j = i
     · subst hj
       rw [hi] at e1; cases e1
       rw [List.getElem?_set_self hiσ] at e2
       cases e2
       exact ⟨u, r, .inl ⟨hk, by simp⟩⟩
     · rw [List.getElem?_set_ne (Ne.symm hj)] at e2
       obtain ⟨u', r', q⟩ := hl j y v' e1 e2 e3
       refine ⟨u', r', ?_⟩
       rcases q with ⟨k, e⟩ | ⟨k, c, e, z⟩
       · refine .inl ⟨k, ?_⟩
         have : y ≠ x := fun e => hj (Jd hN e1 (e ▸ hi))
         simp [this, e]
       · exact .inr ⟨k, c, e, z.sameBut hs (cne y c e)⟩
   · obtain ⟨w', z⟩ := I.cell y c e
     exact ⟨w', z.sameBut hs (cne y c e)⟩
   · obtain ⟨e, n, ne, nf, d⟩ := I.pin p hp
     exact ⟨(hs.2 p.1 ne).trans e, n, ne, nf, d⟩
 · have hfn : X.fn x = true := by
    rcases hf with z | z
    · exact z
    · rw [z] at hk; cases hk
   obtain ⟨c, hc⟩ := I.ok.has x (.inl hk)
   obtain ⟨w', z⟩ := I.cell x c hc
   refine wpAny_storeName_cell I.ok.kind hk hc z (fun h' hc' hs => ?_)
   obtain ⟨oc, hoc, hocd⟩ := id z
   refine h { s with heap := h' } ⟨I.ok, I.os, I.bare, ⟨fun b o e n hb hx => ?_, fun b o e n hb hx => ?_, I.base.free, fun b o e hx => ?_, I.base.tups, I.base.frzs, I.base.tbls⟩, ⟨m, hn.sameBut hs (Ne.symm (cne x c hc)), fun j y v' e1 e2 e3 => ?_⟩, fun y c' e => ?_, I.free, I.freeC, fun p hp => ?_, tracked ⟨oc, hoc, I.freeC x c hc⟩ hs, by simpa using I.len⟩ ⟨c, hs, .inr hc⟩
   · exact (hs.2 b (Nat.ne_of_lt (Nat.lt_of_lt_of_le (Heap.lt_size e) (I.ok.cab x c hfn hc)))).trans (I.base.keep b o e n hb hx)
   · obtain ⟨sl, e1⟩ := I.base.slot b o e n hb hx
     exact ⟨sl, (hs.2 b (Nat.ne_of_lt (Nat.lt_of_lt_of_le (Heap.lt_size e) (I.ok.cab x c hfn hc)))).trans e1⟩
   · obtain ⟨o', e1⟩ := I.base.there b o e hx
     exact ⟨o', (hs.2 b (Nat.ne_of_lt (Nat.lt_of_lt_of_le (Heap.lt_size e) (I.ok.cab x c hfn hc)))).trans e1⟩
   · by_cases hj : j = i
     · subst hj
       rw [hi] at e1; cases e1
       rw [List.getElem?_set_self hiσ] at e2
       cases e2
       exact ⟨u, r, .inr ⟨.inl hk, c, hc, hc'⟩⟩
     · rw [List.getElem?_set_ne (Ne.symm hj)] at e2
       obtain ⟨u', r', q⟩ := hl j y v' e1 e2 e3
       refine ⟨u', r', ?_⟩
       rcases q with q | ⟨k, c', e, z'⟩
       · exact .inl q
       · refine .inr ⟨k, c', e, z'.sameBut hs ?_⟩
         rintro rfl
         exact hj (Jd hN e1 (I.ok.inj _ _ _ e hc ▸ hi))
   · by_cases hcc : c' = c
     · subst hcc; exact ⟨_, hc'⟩
     · obtain ⟨w2, z2⟩ := I.cell y c' e
       exact ⟨w2, z2.sameBut hs hcc⟩
   · obtain ⟨e, n, ne, nf, d⟩ := I.pin p hp
     refine ⟨(hs.2 p.1 ?_).trans e, n, ne, nf, d⟩
     intro q
     rw [q, hoc] at e
     have q' : oc = p.2 := Option.some.inj e
     exact d w' (by rw [<- q']; exact hocd)
theorem Je {M : Model} {A : Around} {E : Value -> Shared -> Prop} {i : Nat} {x : Str} {v : V} {u : Value} {Q : Unit -> Shared -> Prop} (I : Inv X pins σ H s) (hN : X.N.Nodup) (hi : X.N[i]? = some x) (hx : Loc X.env.scope x) (r : RelV v u)
 (h : ∀ s', Inv X pins (σ.set i (some v)) H s' -> Q () s') (hf : X.fn x = true \/ X.env.scope.names.lookup x = some .local := by first | exact .inl rfl | exact .inr rfl | assumption) : wpAny M A (storeName X.env x u) Q E s :=
 ZbP I hN hi hx r (fun s' I' _ => h s' I') hf
theorem Inv.call' {s' : Shared} {ch : List Addr} (I : Inv X pins σ H s) (ho : s'.os = s.os) (u : Un (frs X.stack) ch H H' s.heap s'.heap) (hok : HOk X.prog X.w H' s'.heap) (hg : AllBare s'.gens)
 (hch : ∀ b ∈ ch, (b ∈ X.ex \/ X.s₀.heap.objs.size <= b) /\ b ≠ X.env.locals /\ (∀ x c, X.env.cells.lookup x = some c -> c ≠ b) /\ ∀ p ∈ X.pn ++ pins, p.1 ≠ b) : Inv X pins σ H' s' := by
 obtain ⟨h', g', d', t', o'⟩ := s'
 have e : o' = s.os := ho
 subst e
 exact I.call (g' := g') (t' := t') (d' := d') u hok hg hch
end
abbrev XK := Value -> Option Addr -> Hp -> Prop
abbrev St := List (Option V)
abbrev VK := V -> Hp -> Prop
abbrev TE := St -> Hp -> VK -> Prop
abbrev TT := St -> Hp -> (Bool -> Hp -> Prop) -> Prop
abbrev TA := St -> Hp -> (List V -> Hp -> Prop) -> Prop
structure Ends where
 nx : St -> Hp -> Prop
 rt : VK
 bk : St -> Hp -> Prop := fun _ _ => False
 ct : St -> Hp -> Prop := fun _ _ => False
abbrev TS := Ends -> St -> Hp -> Prop
def EP (X : Cx) (pins : List (Addr × Obj)) (σ : St) (Q : VK) (u : Value) (s' : Shared) : Prop := ∃ v H', Inv X pins σ H' s' /\ RelV v u /\ Q v H'
def TP (X : Cx) (pins : List (Addr × Obj)) (σ : St) (Q : Bool -> Hp -> Prop) (b : Bool) (s' : Shared) : Prop := ∃ H', Inv X pins σ H' s' /\ Q b H'
def AP (X : Cx) (pins : List (Addr × Obj)) (σ : St) (Q : List V -> Hp -> Prop) (us : List Value) (s' : Shared) : Prop := ∃ vs H', Inv X pins σ H' s' /\ Vals vs us /\ Q vs H'
def SP (X : Cx) (pins : List (Addr × Obj)) (D : Ends) (f : Flow) (s' : Shared) : Prop :=
 match f with
 | .next => ∃ σ' H', Inv X pins σ' H' s' /\ D.nx σ' H'
 | .brk => ∃ σ' H', Inv X pins σ' H' s' /\ D.bk σ' H'
 | .cont => ∃ σ' H', Inv X pins σ' H' s' /\ D.ct σ' H'
 | .ret u => ∃ v σ' H', Inv X pins σ' H' s' /\ RelV v u /\ D.rt v H'
def PE (X : Cx) (e : Expr) (t : TE) : Prop :=
 ∀ (pins : List (Addr × Obj)) (s : Shared) (σ : St) (H : Hp) (Q : VK), Inv X pins σ H s -> t σ H Q -> wpAny (model X.prog X.w) X.A (eval e X.env) (EP X pins σ Q) X.xe s
def PT (X : Cx) (e : Expr) (t : TT) : Prop :=
 ∀ (pins : List (Addr × Obj)) (s : Shared) (σ : St) (H : Hp) (Q : Bool -> Hp -> Prop), Inv X pins σ H s -> t σ H Q -> wpAny (model X.prog X.w) X.A (isTrue e X.env (eval e X.env)) (TP X pins σ Q) X.xe s
def PW (X : Cx) (e : Expr) (t : TT) : Prop :=
 ∀ (whole : Sem Value) (pins : List (Addr × Obj)) (s : Shared) (σ : St) (H : Hp) (Q : Bool -> Hp -> Prop), Inv X pins σ H s -> t σ H Q -> wpAny (model X.prog X.w) X.A (isTrue e X.env whole) (TP X pins σ Q) X.xe s
theorem PW.pt {X : Cx} {e : Expr} {t : TT} (h : PW X e t) : PT X e t := h _
def PA (X : Cx) (es : List Expr) (t : TA) : Prop :=
 ∀ (pos : Pos) (pins : List (Addr × Obj)) (s : Shared) (σ : St) (H : Hp) (Q : List V -> Hp -> Prop), Inv X pins σ H s -> t σ H Q -> wpAny (model X.prog X.w) X.A (spliced (backTo pos (starEach es X.env))) (AP X pins σ Q) X.xe s
def PS (X : Cx) (st : Stmt) (t : TS) : Prop :=
 ∀ (pins : List (Addr × Obj)) (s : Shared) (σ : St) (H : Hp) (D : Ends), Inv X pins σ H s -> t D σ H -> wpAny (model X.prog X.w) X.A (exec st X.env) (SP X pins D) X.xe s
def PSs (X : Cx) (st : List Stmt) (t : TS) : Prop :=
 ∀ (pins : List (Addr × Obj)) (s : Shared) (σ : St) (H : Hp) (D : Ends), Inv X pins σ H s -> t D σ H -> wpAny (model X.prog X.w) X.A (execs st X.env) (SP X pins D) X.xe s
theorem thn {α : Type} {t : Sem α} {Q Q' : α -> Shared -> Prop} {M : Model} {A : Around} {E : Value -> Shared -> Prop} {s : Shared} (h : wpAny M A t Q E s) (hQ : ∀ a s, Q a s -> Q' a s) : wpAny M A t Q' E s := wpAny_mono h hQ fun _ _ x => x
end L2
namespace L2
open PySem PySem.Spec PyProof.Rows
section
variable {X : Cx}
def Yq (i : Nat) : TE := fun σ H Q => ∃ v, σ[i]? = some (some v) /\ Q v H
def tC (v : V) : TE := fun _ H Q => Q v H
theorem Zem {i : Nat} {x : Str} {pos : Pos} (hN : X.N[i]? = some x) (hv : Vis X.env.scope x) (hd : (x == ("__debug__" : Str)) = false := by decide) (hcd : (x == ("__classdict__" : Str)) = false := by decide) : PE X (.Name x pos) (Yq i) := by
 intro pins s σ H Q I h
 obtain ⟨v, e, h⟩ := h
 obtain ⟨m, hn, hl⟩ := I.loc
 obtain ⟨u, r, l⟩ := hl i x v hN e hv
 have fin : EP X pins σ Q u s := ⟨v, H, I, r, h⟩
 rcases l with ⟨hk, hm⟩ | ⟨hk, c, hc, hcell⟩
 · exact wpAny_Name (wpAny_loadName_local I.ok.kind hk hn hm fin) hd
 · rcases hk with hk | hk
   · exact wpAny_Name (wpAny_loadName_cell I.ok.kind hk hc hcell fin) hd
   · exact wpAny_Name (wpAny_loadName_free I.ok.kind hk hc hcell fin hcd) hd
theorem ZH {i j pos} : PE X (.Constant (.int i) j pos) (tC (.int i)) := fun _ _ _ H _ I h => wpAny_Constant_int ⟨.int i, H, I.tok _, ⟨_, rfl⟩, h⟩
theorem Xx {b j pos} : PE X (.Constant (.bool b) j pos) (tC (.bl b)) := fun _ _ _ H _ I h => Constant_bool ⟨.bl b, H, I, rfl, h⟩
theorem Vc {j pos} : PE X (.Constant .none j pos) (tC .non) := fun _ _ _ H _ I h => Constant_none ⟨.non, H, I, rfl, h⟩
theorem Zen {x j pos} : PE X (.Constant (.str x) j pos) (tC (.str x)) := fun _ _ _ H _ I h => Calls.Constant_str ⟨.str x, H, I.tok _, ⟨_, rfl⟩, h⟩
def Gl (X : Cx) (x : Str) : Prop := X.env.kindOf x = some .globalImplicit
theorem Jf {E : Value -> Shared -> Prop} {pins : List (Addr × Obj)} {s : Shared} {σ : St} {H : Hp} {x : Str} {u : Value} {pos : Pos} {Q : Value -> Shared -> Prop} (I : Inv X pins σ H s) (hg : Gl X x) (hm : X.mg x = some u) (h : Q u s)
 (hd : (x == ("__debug__" : Str)) = false := by decide) : wpAny (model X.prog X.w) X.A (eval (.Name x pos) X.env) Q E s :=
 Calls.Name_function_global I.ok.kind hg (Calls.loadGlobal_global (by rw [I.ok.glob]; exact I.mod.glob.keeps I.bk) hm h) hd
theorem VB {E : Value -> Shared -> Prop} {pins : List (Addr × Obj)} {s : Shared} {σ : St} {H : Hp} {x : Str} {u : Value} {pos : Pos} {Q : Value -> Shared -> Prop} (I : Inv X pins σ H s) (hg : Gl X x) (hm : X.mg x = none) (hv : bootBuiltins x = some u) (h : Q u s)
 (hn : x ≠ "__name__" := by decide) (hd : (x == ("__debug__" : Str)) = false := by decide) : wpAny (model X.prog X.w) X.A (eval (.Name x pos) X.env) Q E s := by
 obtain ⟨mb, h1, h2⟩ := I.mod.blt
 exact Calls.Name_function_global I.ok.kind hg (Calls.loadGlobal_builtin (by rw [I.ok.glob]; exact I.mod.glob.keeps I.bk) hm (by rw [I.ok.blt]; exact h1.keeps I.bk) ((h2 x hn).trans hv) h) hd
theorem Zdc {x : Str} {v : V} {u : Value} {pos : Pos} (hg : Gl X x) (hm : X.mg x = none) (hv : bootBuiltins x = some u) (r : RelV v u) (hn : x ≠ "__name__" := by decide) (hd : (x == ("__debug__" : Str)) = false := by decide) : PE X (.Name x pos) (tC v) :=
 fun _ _ _ H _ I h => VB I hg hm hv ⟨v, H, I, r, h⟩ hn hd
variable {a b : Expr} {ta tb : TE} {pos : Pos}
def PC (X : Cx) (op : CmpOp) (a b : Expr) (t : TE) : Prop :=
 ∀ (pins : List (Addr × Obj)) (s : Shared) (σ : St) (H : Hp) (Q : VK), Inv X pins σ H s -> t σ H Q ->
  wpAny (model X.prog X.w) X.A (eval a X.env) (fun v s₁ => wpAny (model X.prog X.w) X.A (eval b X.env) (fun u s₂ => wpAny (model X.prog X.w) X.A (compareOp op v u) (EP X pins σ Q) X.xe s₂) X.xe s₁) X.xe s
theorem Jg (b : Expr) {op : CmpOp} (h : op ≠ .In) (h2 : op ≠ .NotIn) : behindInMarks op b = false := by
 have e1 : (op == CmpOp.In) = false := by cases op <;> first | rfl | exact absurd rfl h
 have e2 : (op == CmpOp.NotIn) = false := by cases op <;> first | rfl | exact absurd rfl h2
 cases b <;> simp [behindInMarks, e1, e2]
def Jh (ta : TE) : TE := fun σ H Q => ta σ H fun x H1 => Q (.bl (decide (x = .non))) H1
def Ji (ta : TE) : TE := fun σ H Q => ta σ H fun x H1 => Q (.bl (!decide (x = .non))) H1
theorem RelV.none_iff {x : V} {v : Value} (r : RelV x v) : (v == Value.none) = decide (x = .non) := by
 cases x with
 | non => cases r; rfl
 | bl _ => cases r; rfl
 | int _ => obtain ⟨t, rfl⟩ := r; rfl
 | str _ => obtain ⟨t, rfl⟩ := r; rfl
 | byt _ => obtain ⟨t, rfl⟩ := r; rfl
 | flt _ => obtain ⟨t, rfl⟩ := r; rfl
 | ref _ => cases r; rfl
 | ty _ => cases r; rfl
theorem Ue {j pos'} (ha : PE X a ta) : PC X .Is a (.Constant .none j pos') (Jh ta) := by
 intro pins s σ H Q I h
 refine thn (ha pins s σ H _ I h) fun v s1 ⟨x, H1, I1, r1, q1⟩ => ?_
 exact Constant_none (is_none_gen ⟨.bl _, H1, I1, by rw [r1.none_iff]; rfl, q1⟩)
theorem Jj {j pos'} (ha : PE X a ta) : PC X .IsNot a (.Constant .none j pos') (Ji ta) := by
 intro pins s σ H Q I h
 refine thn (ha pins s σ H _ I h) fun v s1 ⟨x, H1, I1, r1, q1⟩ => ?_
 exact Constant_none (isnot_none_gen ⟨.bl _, H1, I1, by rw [r1.none_iff]; rfl, q1⟩)
def tB (t : TE) : TT := fun σ H Q => t σ H fun x H1 => ∃ c, x = .bl c /\ Q c H1
theorem Jk {op : CmpOp} {t : TE} (h : PC X op a b t) (h1 : behindInMarks op b = false := by first | exact Jg _ (by decide) (by decide) | rfl) : PE X (.Compare a [op] [b] pos) t := fun pins s σ H Q I hw => wpAny_Compare1 (h pins s σ H Q I hw) h1
theorem XV {op : CmpOp} {t : TE} (h : PC X op a b t) (h1 : behindInMarks op b = false := by first | exact Jg _ (by decide) (by decide) | rfl) : PT X (.Compare a [op] [b] pos) (tB t) := by
 intro pins s σ H Q I hw
 refine wpAny_isTrue_Compare1 (thn (h pins s σ H _ I hw) fun v s1 h1 => thn h1 fun u s2 h2 => thn h2 fun c s3 ⟨x, H1, I1, r1, q1⟩ => ?_) h1
 obtain ⟨d, rfl, q⟩ := q1
 cases r1
 exact wpAny_truthy_bool ⟨H1, I1, q⟩
theorem Jl {e : Expr} {t : TE} (h : PE X e t) (he : ∀ whole, isTrue e X.env whole = (do let v <- whole; standAt e.pos; holding [v] (truthy v)) := by intro _; rfl) : PT X e (tB t) := by
 intro pins s σ H Q I hw
 refine isTrue_plain (thn (h pins s σ H _ I hw) fun v s1 ⟨x, H1, I1, r1, q1⟩ => ?_) (he _)
 obtain ⟨d, rfl, q⟩ := q1
 cases r1
 exact wpAny_truthy_bool ⟨H1, I1, q⟩
variable {tA tB' : TT} {rest : List Expr}
def Jm (t u : TT) : TT := fun σ H Q => t σ H fun c H1 => if c = true then u σ H1 Q else Q false H1
def tOr (t u : TT) : TT := fun σ H Q => t σ H fun c H1 => if c = true then Q true H1 else u σ H1 Q
def Jn (t : TT) : TT := fun σ H Q => t σ H fun c H1 => Q (!c) H1
theorem Jo (ha : PT X a tA) : PW X (.BoolOp .And [a] pos) tA := by
 intro wh pins s σ H Q I h
 refine isTrue_and (thn (ha pins s σ H Q I h) fun c s1 e => ?_)
 cases c with
 | true => exact isTrue_and_nil e
 | false => exact e
theorem Zeo (ha : PT X a tA) : PW X (.BoolOp .Or [a] pos) tA := by
 intro wh pins s σ H Q I h
 refine isTrue_or (thn (ha pins s σ H Q I h) fun c s1 e => ?_)
 cases c with
 | false => exact isTrue_or_nil e
 | true => exact e
theorem Jp (ha : PT X a tA) (hb : PW X (.BoolOp .And (b :: rest) pos) tB') : PW X (.BoolOp .And (a :: b :: rest) pos) (Jm tA tB') := by
 intro wh pins s σ H Q I h
 refine isTrue_and (thn (ha pins s σ H _ I h) fun c s1 ⟨H1, I1, q1⟩ => ?_)
 cases c with
 | true => exact hb wh pins s1 σ H1 Q I1 q1
 | false => exact ⟨H1, I1, q1⟩
theorem Ze2 (ha : PT X a tA) (hb : PW X (.BoolOp .Or (b :: rest) pos) tB') : PW X (.BoolOp .Or (a :: b :: rest) pos) (tOr tA tB') := by
 intro wh pins s σ H Q I h
 refine isTrue_or (thn (ha pins s σ H _ I h) fun c s1 ⟨H1, I1, q1⟩ => ?_)
 cases c with
 | true => exact ⟨H1, I1, q1⟩
 | false => exact hb wh pins s1 σ H1 Q I1 q1
theorem Jq (ha : PT X a tA) : PT X (.UnaryOp .Not a pos) (Jn tA) := by
 intro pins s σ H Q I h
 exact isTrue_not (ha pins s σ H (fun c H1 => Q (!c) H1) I h)
def Jr (ta tb : TE) : TE := fun σ H Q => ta σ H fun x H1 => ∃ c, x = .bl c /\ if c = true then tb σ H1 Q else Q (.bl false) H1
theorem Zep {op} {t : TE} (h : PE X a t) : PE X (.BoolOp op [a] pos) t := fun pins s σ H Q I hw => BoolOp_one (h pins s σ H Q I hw)
theorem Zeq (ha : PE X a ta) (hb : PE X (.BoolOp .And (b :: rest) pos) tb) : PE X (.BoolOp .And (a :: b :: rest) pos) (Jr ta tb) := by
 intro pins s σ H Q I h
 refine BoolOp_and (thn (ha pins s σ H _ I h) fun v s1 ⟨x, H1, I1, r1, q1⟩ => ?_)
 obtain ⟨c, rfl, q1⟩ := q1
 cases r1
 refine wpAny_truthy_bool ?_
 cases c with
 | true => exact hb pins s1 σ H1 Q I1 q1
 | false => exact ⟨.bl false, H1, I1, rfl, q1⟩
end
end L2
namespace L2
open PySem PySem.Spec PyProof.Rows
def SqL (K : PySem.W.Frag) (H : Hp) (a : Addr) (xs : List V) : Prop :=
 Rd H a (.lst xs) \/
  ∃ (o : Obj) (its : Array Value) (n : Nat), K.lookup a = some o /\ o.cls = .type "list" /\ o.dict = none /\ o.data = .seq its n /\ its.size <= sizeLine /\ Vals xs its.toList
def SqT (K : PySem.W.Frag) (H : Hp) (a : Addr) (xs : List V) : Prop :=
 Rd H a (.tup xs) \/
  ∃ (o : Obj) (its : Array Value) (n : Nat), K.lookup a = some o /\ o.cls = .type "tuple" /\ o.data = .seq its n /\ its.size <= sizeLine /\ Vals xs its.toList
def Zf1 : Value -> Option V
 | .none => some .non
 | .bool b => some (.bl b)
 | .int i _ => some (.int i)
 | .str x _ => some (.str x)
 | .bytes b _ => some (.byt b)
 | .float b _ => some (.flt b)
 | .ref a => some (.ref a)
 | .type n => some (.ty n)
 | _ => none
theorem RelV.abs {x : V} {u : Value} (r : RelV x u) : Zf1 u = some x := by
 cases x with
 | non => cases r; rfl
 | bl _ => cases r; rfl
 | int _ => obtain ⟨t, rfl⟩ := r; rfl
 | str _ => obtain ⟨t, rfl⟩ := r; rfl
 | byt _ => obtain ⟨t, rfl⟩ := r; rfl
 | flt _ => obtain ⟨t, rfl⟩ := r; rfl
 | ref _ => cases r; rfl
 | ty _ => cases r; rfl
theorem RelV.inj {x y : V} {u : Value} (r : RelV x u) (q : RelV y u) : x = y := Option.some.inj (r.abs.symm.trans q.abs)
theorem Vals.inj : ∀ {xs ys : List V} {us : List Value}, Vals xs us -> Vals ys us -> xs = ys
 | _, _, _, .nil, .nil => rfl
 | _, _, _, .cons r t, .cons r' t' => by rw [r.inj r', Vals.inj t t']
section
variable {X : Cx} {pins : List (Addr × Obj)} {σ : St} {H : Hp} {s : Shared} {a : Addr} {xs ys : List V}
theorem SqL.of {K : PySem.W.Frag} (h : H a = some (.lst xs)) : SqL K H a xs := .inl (.inl h)
theorem SqT.of {K : PySem.W.Frag} (h : H a = some (.tup xs)) : SqT K H a xs := .inl (.inl h)
theorem Inv.list (I : Inv X pins σ H s) (h : SqL X.K H a xs) : ∃ its : List Value, Vals xs its /\ PlainL s.heap a its.toArray /\ xs.length <= sizeLine := by
 rcases h with h | ⟨o, its, n, hk, hc, hd, hs, hz, r⟩
 · obtain ⟨z, its, n, r, e⟩ := h.ok I.hok
   exact ⟨its, r, ⟨_, n, e, rfl, rfl, rfl⟩, z⟩
 · refine ⟨its.toList, r, ⟨o, n, I.kIn a o hk, hc, hd, by simpa using hs⟩, ?_⟩
   have e := r.length
   simp only [Array.length_toList] at e
   omega
theorem Inv.tuple (I : Inv X pins σ H s) (h : SqT X.K H a xs) : ∃ its : List Value, Vals xs its /\ IsTup s.heap a its.toArray /\ xs.length <= sizeLine := by
 rcases h with h | ⟨o, its, n, hk, hc, hs, hz, r⟩
 · obtain ⟨z, its, r, p⟩ := h.ok I.hok
   exact ⟨its, r, p.tup, z⟩
 · refine ⟨its.toList, r, ⟨o, I.kIn a o hk, hc, n, by simpa using hs⟩, ?_⟩
   have e := r.length
   simp only [Array.length_toList] at e
   omega
theorem Inv.list_inj (I : Inv X pins σ H s) (h : SqL X.K H a xs) (h' : SqL X.K H a ys) : xs = ys := by
 obtain ⟨its, r, ⟨o, n, e, _, _, d⟩, _⟩ := I.list h
 obtain ⟨its', r', ⟨o', n', e', _, _, d'⟩, _⟩ := I.list h'
 rw [e] at e'; cases e'
 rw [d] at d'
 injection d' with d1 _
 have : its = its' := by simpa using congrArg Array.toList d1
 subst this
 exact r.inj r'
theorem Inv.tuple_inj (I : Inv X pins σ H s) (h : SqT X.K H a xs) (h' : SqT X.K H a ys) : xs = ys := by
 obtain ⟨its, r, ⟨o, e, _, n, d⟩, _⟩ := I.tuple h
 obtain ⟨its', r', ⟨o', e', _, n', d'⟩, _⟩ := I.tuple h'
 rw [e] at e'; cases e'
 rw [d] at d'
 injection d' with d1 _
 have : its = its' := by simpa using congrArg Array.toList d1
 subst this
 exact r.inj r'
end
abbrev Cx.wish (X : Cx) (E : Value -> Shared -> Prop) : Cx := { X with xe := E }
abbrev Cx.nox (X : Cx) : Cx := X.wish fun _ _ => False
theorem Cx.Ok.wish {X : Cx} (ok : X.Ok) (E : Value -> Shared -> Prop) : (X.wish E).Ok :=
 ⟨ok.mod, ok.kind, ok.glob, ok.blt, ok.above, ok.inj, ok.has, ok.cab, ok.hd, ok.frames, ok.stk, ok.exf, ok.bs, ok.bsz, ok.noex, ok.exfs, ok.funs, ok.frf⟩
theorem Cx.Ok.unwish {X : Cx} {E : Value -> Shared -> Prop} (ok : (X.wish E).Ok) : X.Ok :=
 ⟨ok.mod, ok.kind, ok.glob, ok.blt, ok.above, ok.inj, ok.has, ok.cab, ok.hd, ok.frames, ok.stk, ok.exf, ok.bs, ok.bsz, ok.noex, ok.exfs, ok.funs, ok.frf⟩
section
variable {X : Cx} {pins : List (Addr × Obj)} {σ : St} {H : Hp} {s : Shared} {E : Value -> Shared -> Prop}
theorem Inv.wish (I : Inv X pins σ H s) (E : Value -> Shared -> Prop) : Inv (X.wish E) pins σ H s := ⟨I.ok.wish E, I.os, I.bare, I.base, I.loc, I.cell, I.free, I.freeC, I.pin, I.hok, I.len⟩
theorem Inv.unwish (I : Inv (X.wish E) pins σ H s) : Inv X pins σ H s := ⟨I.ok.unwish, I.os, I.bare, I.base, I.loc, I.cell, I.free, I.freeC, I.pin, I.hok, I.len⟩
theorem SP.unwish {D : Ends} {f : Flow} {s' : Shared} (h : SP (X.wish E) pins D f s') : SP X pins D f s' := by
 cases f with
 | next => obtain ⟨σ', H', I, q⟩ := h; exact ⟨σ', H', I.unwish, q⟩
 | brk => obtain ⟨σ', H', I, q⟩ := h; exact ⟨σ', H', I.unwish, q⟩
 | cont => obtain ⟨σ', H', I, q⟩ := h; exact ⟨σ', H', I.unwish, q⟩
 | ret u => obtain ⟨v, σ', H', I, r, q⟩ := h; exact ⟨v, σ', H', I.unwish, r, q⟩
theorem PSs.nox {st : List Stmt} {t : TS} (h : PSs X.nox st t) : PSs X st t := fun pins s σ H D I hw =>
 wpAny_mono (h pins s σ H D (I.wish _) hw) (fun _ _ q => q.unwish) fun _ _ z => False.elim z
end
section
variable {X : Cx} {st : Stmt} {rest : List Stmt} {t u : TS} {e : Expr} {te : TE} {pos : Pos}
def tNext : TS := fun D σ H => D.nx σ H
def Vd (t u : TS) : TS := fun D σ H => t { D with nx := u D } σ H
theorem YS : PSs X [] tNext := fun _ _ σ H _ I h => wpAny_execs_nil ⟨σ, H, I, h⟩
theorem Zr (h1 : PS X st t) (h2 : PSs X rest u) : PSs X (st :: rest) (Vd t u) := by
 intro pins s σ H D I h
 refine wpAny_execs_cons (thn (h1 pins s σ H { D with nx := u D } I h) fun f s1 q => ?_)
 cases f with
 | next =>
  obtain ⟨σ', H', I', q⟩ := q
  exact h2 pins s1 σ' H' D I' q
 | ret v => exact q
 | brk => exact q
 | cont => exact q
theorem Zv (h1 : PS X st t) : PSs X [st] t := by
 intro pins s σ H D I h
 refine wpAny_execs_cons (thn (h1 pins s σ H D I h) fun f s1 q => ?_)
 cases f with
 | next => exact wpAny_execs_nil q
 | ret v => exact q
 | brk => exact q
 | cont => exact q
theorem Inv.quiet {pins : List (Addr × Obj)} {σ : St} {H : Hp} {s : Shared} (I : Inv X pins σ H s) : interactive X.env = false := by simp [interactive, I.ok.kind]
def U7 (te : TE) : TS := fun D σ H => te σ H fun _ H1 => D.nx σ H1
theorem Uf (he : PE X e te) (hs : swapsWith e none pos.line X.env = pure false := by rfl) : PS X (.Expr e pos) (U7 te) := by
 intro pins s σ H D I h
 exact wpAny_Expr_any (thn (he pins s σ H _ I h) fun v s1 ⟨x, H1, I1, r1, q1⟩ => ⟨σ, H1, I1, q1⟩) I.quiet hs
def Ug (te : TE) : TS := fun D σ H => te σ H D.rt
theorem Z2 (he : PE X e te) : PS X (.Return (some e) pos) (Ug te) := by
 intro pins s σ H D I h
 exact wpAny_Return_some (thn (he pins s σ H _ I h) fun v s1 ⟨x, H1, I1, r1, q1⟩ => ⟨x, σ, H1, I1, r1, q1⟩)
def U8 (c : TT) (t u : TS) : TS := fun D σ H => c σ H fun b H1 => if b = true then t D σ H1 else u D σ H1
theorem Yr {c : Expr} {a b : List Stmt} {tc : TT} (hc : PT X c tc) (ha : PSs X a t) (hb : PSs X b u) : PS X (.If c a b pos) (U8 tc t u) := by
 intro pins s σ H D I h
 refine wpAny_If (thn (hc pins s σ H _ I h) fun d s1 ⟨H1, I1, q1⟩ => ?_)
 cases d with
 | true => exact ha pins s1 σ H1 D I1 q1
 | false => exact hb pins s1 σ H1 D I1 q1
def tNever : TS := fun _ _ _ => False
theorem Zci : PS X st tNever := fun _ _ _ _ _ _ h => h.elim
end
abbrev TG := V -> St -> Hp -> (St -> Hp -> Prop) -> Prop
abbrev TGs := List V -> St -> Hp -> (St -> Hp -> Prop) -> Prop
def PG (X : Cx) (target : Expr) (t : TG) : Prop :=
 ∀ (pins : List (Addr × Obj)) (s : Shared) (σ : St) (H : Hp) (v : V) (u : Value) (Q : St -> Hp -> Prop), Inv X pins σ H s -> RelV v u -> t v σ H Q ->
  wpAny (model X.prog X.w) X.A (assign target X.env u) (fun _ s' => ∃ σ' H', Inv X pins σ' H' s' /\ Q σ' H') X.xe s
def PGs (X : Cx) (ts : List Expr) (t : TGs) : Prop :=
 ∀ (pins : List (Addr × Obj)) (s : Shared) (σ : St) (H : Hp) (vs : List V) (us : List Value) (Q : St -> Hp -> Prop), Inv X pins σ H s -> Vals vs us -> t vs σ H Q ->
  wpAny (model X.prog X.w) X.A (assignInOrder ((assignEach ts X.env).map (·.2)) us) (fun _ s' => ∃ σ' H', Inv X pins σ' H' s' /\ Q σ' H') X.xe s
abbrev TSet := V -> V -> V -> Hp -> (Hp -> Prop) -> Prop
def Js (X : Cx) (t : TSet) : Prop :=
 ∀ (pins : List (Addr × Obj)) (s : Shared) (σ : St) (H : Hp) (o i v : V) (ov iv u : Value) (Q : Hp -> Prop), Inv X pins σ H s -> RelV o ov -> RelV i iv -> RelV v u -> t o i v H Q ->
  wpAny (model X.prog X.w) X.A (setItem ov iv u) (fun _ s' => ∃ H', Inv X pins σ H' s' /\ Q H') X.xe s
section
variable {X : Cx} {pos : Pos}
def YJ (i : Nat) : TG := fun v σ H Q => Q (σ.set i (some v)) H
theorem Yj {i : Nat} {x : Str} (hN : X.N.Nodup) (hi : X.N[i]? = some x) (hx : Loc X.env.scope x) (hf : X.fn x = true \/ X.env.scope.names.lookup x = some .local := by first | exact .inl rfl | exact .inr rfl | assumption) : PG X (.Name x pos) (YJ i) := by
 intro pins s σ H v u Q I r h
 exact wpAny_assign_Name (Je I hN hi hx r (fun s' I' => ⟨_, H, I', h⟩) hf)
def gNil : TGs := fun vs σ H Q => vs = [] /\ Q σ H
def Jt (t : TG) (u : TGs) : TGs := fun vs σ H Q => ∃ v r, vs = v :: r /\ t v σ H fun σ' H' => u r σ' H' Q
theorem Zdd : PGs X [] gNil := by
 intro pins s σ H vs us Q I r h
 obtain ⟨e, h⟩ := h
 subst e
 cases r
 exact assignInOrder_nil ⟨σ, H, I, h⟩
theorem U9 {e : Expr} {es : List Expr} {t : TG} {u : TGs} (h1 : PG X e t) (h2 : PGs X es u)
 (hs : (assignEach (e :: es) X.env).map (·.2) = assign e X.env :: (assignEach es X.env).map (·.2) := by rfl) : PGs X (e :: es) (Jt t u) := by
 intro pins s σ H vs us Q I r h
 obtain ⟨v, vr, e1, h⟩ := h
 subst e1
 cases r with
 | cons r rr =>
  rw [hs]
  refine assignInOrder_cons (thn (h1 pins s σ H _ _ _ I r h) fun _ s1 ⟨σ1, H1, I1, q1⟩ => ?_)
  exact h2 pins s1 σ1 H1 _ _ Q I1 rr q1
def Qa (K : PySem.W.Frag) (n : Nat) (t : TGs) : TG := fun v σ H Q => ∃ a xs, v = .ref a /\ SqT K H a xs /\ xs.length = n /\ t xs σ H Q
theorem Zer {es : List Expr} {k : Nat} {t : TGs} {n : Nat} (hc : X.calm = true) (h : PGs X es t)
 (hn : (assignEach es X.env).length = n := by rfl) (hst : (assignEach es X.env).findIdx? (·.1) = none := by rfl) : PG X (.Tuple es k pos) (Qa X.K n t) := by
 intro pins s σ H v u Q I r hw
 obtain ⟨a, xs, e1, hq, hl, hw⟩ := hw
 subst e1
 cases r
 obtain ⟨its, rv, ht, hz⟩ := I.tuple hq
 refine assign_Tuple_tuple (I.ok.hd hc) ht (by simp [hn, <- hl, rv.length]) hst fun h' hx => ?_
 have I1 : Inv X pins σ H { s with heap := h' } := I.kept (t' := s.toks) fun b o e => hx b o (Nat.ne_of_lt (Heap.lt_size e)) e
 exact h pins _ σ H xs _ Q I1 (by simpa using rv) hw
def Ju (to ti : TE) (t : TSet) : TG := fun v σ H Q => to σ H fun o H1 => ti σ H1 fun i H2 => t o i v H2 fun H3 => Q σ H3
theorem Jv {o i : Expr} {to ti : TE} {t : TSet} (ho : PE X o to) (hi : PE X i ti) (hs : Js X t)
 (ha : ∀ v, assign (.Subscript o i pos) X.env v = (do
   let ov <- holding [v] (eval o X.env)
   let iv <- holding [v, ov] (eval i X.env)
   standAt pos
   holding [v, ov, iv] (setItem ov iv v)
   release [v, ov, iv] []) := by intro _; rfl) : PG X (.Subscript o i pos) (Ju to ti t) := by
 intro pins s σ H v u Q I r h
 rw [ha]
 refine wpAny_bind (wpAny_holding (thn (ho pins s σ H _ I h) fun ov s1 ⟨x, H1, I1, r1, q1⟩ => ?_))
 refine wpAny_bind (wpAny_holding (thn (hi pins s1 σ H1 _ I1 q1) fun iv s2 ⟨y, H2, I2, r2, q2⟩ => ?_))
 refine wpAny_bind (wpAny_standAt (wpAny_bind (wpAny_holding (thn (hs pins s2 σ H2 x y v ov iv u _ I2 r1 r2 r q2) fun _ s3 ⟨H3, I3, q3⟩ => ?_))))
 exact wpAny_release ⟨σ, H3, I3, q3⟩
def YT (te : TE) (g : TG) : TS := fun D σ H => te σ H fun x H1 => g x σ H1 D.nx
theorem Qb {tg e : Expr} {te : TE} {g : TG} (he : PE X e te) (hg : PG X tg g) (hs : swapsWithSole [tg] e pos.line X.env = pure false := by rfl) (hw : swappedStores [tg] e X.env = pure none := by rfl)
 (h1 : (assignEach [tg] X.env).map (·.2) = [assign tg X.env] := by rfl) : PS X (.Assign [tg] e pos) (YT te g) := by
 intro pins s σ H D I h
 refine wpAny_Assign_stores (thn (he pins s σ H _ I h) fun v s1 ⟨x, H1, I1, r1, q1⟩ => ?_) hs hw
 rw [h1]
 exact thn (hg pins s1 σ H1 x v _ I1 r1 q1) fun _ s2 q => q
theorem ZF {i : Nat} {x : Str} {e : Expr} {te : TE} {pos' : Pos} (hN : X.N.Nodup) (hi : X.N[i]? = some x) (hx : Loc X.env.scope x) (he : PE X e te) (hs : swapsWith e (some (.Name x pos')) pos.line X.env = pure false := by rfl) (hf : X.fn x = true \/ X.env.scope.names.lookup x = some .local := by first | exact .inl rfl | exact .inr rfl | assumption) :
 PS X (.Assign [.Name x pos'] e pos) (YT te (YJ i)) := by
 intro pins s σ H D I h
 refine wpAny_Assign_Name (thn (he pins s σ H _ I h) fun v s1 ⟨y, H1, I1, r1, q1⟩ => ?_) hs
 exact Je I1 hN hi hx r1 (fun s2 I2 => ⟨_, H1, I2, q1⟩) hf
end
section
variable {X : Cx} {pos : Pos}
def Jw (c : TT) (tb : TS) : TS := fun D σ H => ∃ W : Nat -> St -> Hp -> Prop, (∃ m, W m σ H) /\ ∀ m σ H, W m σ H ->
 c σ H fun b H1 => if b = true then ∃ N : St -> Hp -> Prop, (∀ σ' H', N σ' H' -> ∃ m', m' < m /\ W m' σ' H') /\ tb { D with nx := N, ct := N, bk := D.nx } σ H1 else D.nx σ H1
theorem Qc {c : Expr} {body : List Stmt} {tc : TT} {tb : TS} (hp : PassesOwn (model X.prog X.w) X.A X.env X.xe) (hc : PT X c tc) (hb : PSs X body tb) : PS X (.While c body [] pos) (Jw tc tb) := by
 intro pins s σ H D I h
 obtain ⟨W, ⟨m0, w0⟩, turn⟩ := h
 refine wpAny_While (codeAny_whileLoop (fun n s' => ∃ σ' H', Inv X pins σ' H' s' /\ W n σ' H') ?_ m0 ⟨σ, H, I, w0⟩)
 rintro n s1 ⟨σ1, H1, I1, w1⟩
 refine wpAny_passesOwn hp (thn (hc pins s1 σ1 H1 _ I1 (turn n σ1 H1 w1)) fun b s2 ⟨H2, I2, q2⟩ => ?_)
 cases b with
 | true =>
  obtain ⟨N, hN, q2⟩ := q2
  rw [if_pos rfl]
  refine wpAny_passesOwn hp (thn (hb pins s2 σ1 H2 _ I2 q2) fun f s3 q3 => ?_)
  cases f with
  | next =>
   obtain ⟨σ3, H3, I3, n3⟩ := q3
   obtain ⟨m', hm, w3⟩ := hN σ3 H3 n3
   exact ⟨m', hm, σ3, H3, I3, w3⟩
  | cont =>
   obtain ⟨σ3, H3, I3, n3⟩ := q3
   obtain ⟨m', hm, w3⟩ := hN σ3 H3 n3
   exact ⟨m', hm, σ3, H3, I3, w3⟩
  | brk => exact q3
  | ret v => exact q3
 | false =>
  rw [if_neg Bool.false_ne_true]
  exact wpAny_execs_nil ⟨σ1, H2, I2, q2⟩
end
structure It where
 go : Nat -> Hp -> Prop
 yld : Nat -> Hp -> V -> Hp -> Prop
 stop : Nat -> Hp -> Prop
def Yl (X : Cx) (pins : List (Addr × Obj)) (H : Hp) (b : Addr) : Prop :=
 H b = none /\ b ≠ X.env.locals /\ b ∉ X.fs /\ (b ∈ X.ex \/ X.s₀.heap.objs.size <= b) /\ (∀ x c, X.env.cells.lookup x = some c -> c ≠ b) /\ ∀ p ∈ X.pn ++ pins, p.1 ≠ b
theorem Inv.fpOk {X : Cx} {pins : List (Addr × Obj)} {σ : St} {H H' : Hp} {s : Shared} {b : Addr} (I : Inv X pins σ H s) (hb : s.heap.objs.size <= b) (hn : H' b = none) : Yl X pins H' b := by
 refine ⟨hn, Nat.ne_of_gt (Nat.lt_of_lt_of_le I.lt hb), I.nofs hb, .inr (Nat.le_trans I.sz hb), fun x c e z => ?_, fun p hp z => ?_⟩
 · obtain ⟨v, q⟩ := I.cell x c e
   exact absurd (Nat.lt_of_lt_of_le q.lt (by rw [z]; exact hb)) (Nat.lt_irrefl _)
 · exact absurd (Nat.lt_of_lt_of_le (Heap.lt_size (I.pin p hp).1) (by rw [z]; exact hb)) (Nat.lt_irrefl _)
structure Turn (P : Program) (w : World) (K : PySem.W.Frag) (tg : Expr) (J : It) (fp : List Addr) (it : Addr) (tn : Nat -> Heap -> Prop) : Prop where
 mem : it ∈ fp
 obj : ∀ i h, tn i h -> ∀ b ∈ fp, ∃ o, h.get? b = some o /\ ∀ v, o.data ≠ .cell v
 keep : ∀ i h h', tn i h -> (∀ b ∈ fp, ∀ o, h.get? b = some o -> h'.get? b = some o) -> tn i h'
 item : ∀ (X : Cx), X.prog = P -> X.w = w -> X.K = K -> X.calm = true -> ∀ (i : Nat) (pins : List (Addr × Obj)) (s : Shared) (σ : St) (H : Hp) (E : Value -> Shared -> Prop), Inv X pins σ H s -> (∀ b ∈ fp, Yl X pins H b) -> tn i s.heap -> J.go i H ->
  wpAny (model P w) X.A (pyNext (.ref it)) (fun r s1 => ∃ u, r = some u /\
   wpAny (model P w) X.A (letOwnedTupleGo tg (.ref it) u) (fun _ s2 => ∃ x H', Inv X pins σ H' s2 /\ RelV x u /\ J.yld i H x H' /\ tn (i + 1) s2.heap /\ ∀ b ∈ fp, H' b = none) E s1) E s
 done : ∀ (X : Cx), X.prog = P -> X.w = w -> X.K = K -> X.calm = true -> ∀ (i : Nat) (pins : List (Addr × Obj)) (s : Shared) (σ : St) (H : Hp) (E : Value -> Shared -> Prop), Inv X pins σ H s -> (∀ b ∈ fp, Yl X pins H b) -> tn i s.heap -> J.stop i H ->
  wpAny (model P w) X.A (pyNext (.ref it)) (fun r s1 => r = none /\ Inv X pins σ H s1) E s
 self : ∀ (A : Around) (i : Nat) (s : Shared) (Q : Value -> Shared -> Prop) (E : Value -> Shared -> Prop), tn i s.heap -> Q (.ref it) s -> wpAny (model P w) A (pyIter (.ref it)) Q E s
abbrev TI := St -> Hp -> (It -> Hp -> Prop) -> Prop
def PIE (X : Cx) (pins : List (Addr × Obj)) (σ : St) (tg : Expr) (R : It -> Hp -> Prop) (itv : Value) (s2 : Shared) : Prop :=
 ∃ (it : Addr) (fp : List Addr) (tn : Nat -> Heap -> Prop) (J : It) (H' : Hp), itv = .ref it /\ Inv X pins σ H' s2 /\ Turn X.prog X.w X.K tg J fp it tn /\ tn 0 s2.heap /\ (∀ b ∈ fp, Yl X pins H' b) /\ R J H'
def PI (X : Cx) (tg iter : Expr) (wi : TI) : Prop :=
 ∀ (pins : List (Addr × Obj)) (s : Shared) (σ : St) (H : Hp) (R : It -> Hp -> Prop), Inv X pins σ H s -> wi σ H R ->
  wpAny (model X.prog X.w) X.A (eval iter X.env) (fun v s1 => wpAny (model X.prog X.w) X.A (pyIter v) (PIE X pins σ tg R) X.xe s1) X.xe s
theorem Uh {M : Model} {A : Around} {E : Value -> Shared -> Prop} {s : Shared} {tg : Expr} {it : Addr} {u : Value} {o : Obj} {n : String} {vs : Array Value} {Q : Unit -> Shared -> Prop} (ho : s.heap.get? it = some o) (hc : o.cls = .type n) (hd : o.data = .fields vs)
 (hn : ["enumerate", "zip", "dict_itemiterator", "dict_reverseitemiterator", "odict_iterator", "itertools.zip_longest", "itertools.pairwise"].contains n = false) (hQ : Q () s) : wpAny M A (letOwnedTupleGo tg (.ref it) u) Q E s := by
 unfold letOwnedTupleGo
 cases tg <;> first
  | exact wpAny_pure hQ
  | (cases u <;> first
      | exact wpAny_pure hQ
      | (refine wpAny_bind (wpAny_load ho ?_)
         rw [hc, hd]
         show wpAny M A (if (["enumerate", "zip", "dict_itemiterator", "dict_reverseitemiterator", "odict_iterator", "itertools.zip_longest", "itertools.pairwise"].contains n && vs[0]? == some (rawInt _)) = true then _ else _) Q E s
         rw [if_neg (by intro h; rw [hn, Bool.false_and] at h; cases h)]
         exact wpAny_pure hQ))
def Itl (K : PySem.W.Frag) (a : Addr) : It :=
 ⟨fun i H => ∃ xs x, SqL K H a xs /\ xs[i]? = some x, fun i H x H' => H' = H /\ ∀ xs, SqL K H a xs -> xs[i]? = some x, fun i H => ∃ xs, SqL K H a xs /\ xs.length <= i⟩
def Itt (K : PySem.W.Frag) (a : Addr) : It :=
 ⟨fun i H => ∃ xs x, SqT K H a xs /\ xs[i]? = some x, fun i H x H' => H' = H /\ ∀ xs, SqT K H a xs -> xs[i]? = some x, fun i H => ∃ xs, SqT K H a xs /\ xs.length <= i⟩
def Itr (lo : Int) (n : Nat) : It := ⟨fun i _ => i < n, fun i H x H' => H' = H /\ x = .int (lo + i), fun i _ => n <= i⟩
theorem ZbQ {P : Program} {w : World} {K : PySem.W.Frag} {tg : Expr} (a it : Addr) : Turn P w K tg (Itl K a) [it] it (fun i h => h.IsListIter it a i) where
 mem := by simp
 obj := fun i h st b hb => by
  have e : b = it := by simpa using hb
  subst e
  obtain ⟨o, e, c, d⟩ := st
  exact ⟨o, e, fun v z => by rw [d] at z; cases z⟩
 keep := fun i h h' st k => st.at fun o e => k it (by simp) o e
 item := by
  intro X hP hw hK hc i pins s σ H E I hf st hg
  subst hP hw hK
  obtain ⟨xs, x, hq, hx⟩ := hg
  obtain ⟨its, rv, p, hz⟩ := I.list hq
  obtain ⟨u, hu, ru⟩ := rv.get hx
  obtain ⟨f0, f1, f2, f3, f4, f5⟩ := hf it (by simp)
  refine wpAny_pyNext_list_item st p.isList (x := u) (by simpa using hu) fun h' st' sb => ?_
  have I1 : Inv X pins σ H { s with heap := h' } := I.turned (t' := s.toks) (fun b o hb e => (sb.2 b hb).trans e) f0 f1 f3 f4 f5
  obtain ⟨o, e, c, d⟩ := id st'
  exact ⟨u, rfl, Uh (s := { s with heap := h' }) e c d (by decide) ⟨x, H, I1, ru, ⟨rfl, fun ys hy => by rw [I.list_inj hy hq]; exact hx⟩, st', fun b hb => (hf b hb).1⟩⟩
 done := by
  intro X hP hw hK hc i pins s σ H E I hf st hg
  subst hP hw hK
  obtain ⟨xs, hq, hx⟩ := hg
  obtain ⟨its, rv, p, hz⟩ := I.list hq
  obtain ⟨f0, f1, f2, f3, f4, f5⟩ := hf it (by simp)
  have hl := rv.length
  exact wpAny_pyNext_list_end (I.ok.hd hc) st p.isList (by simp; omega) fun h' eb => ⟨rfl, I.turned (t' := s.toks) (fun b o hb e => eb b o hb e) f0 f1 f3 f4 f5⟩
 self := fun _ _ _ _ _ st h => wpAny_pyIter_listiter st h
theorem Jx {P : Program} {w : World} {K : PySem.W.Frag} {tg : Expr} (a it : Addr) : Turn P w K tg (Itt K a) [it] it (fun i h => h.IsTupleIter it a i) where
 mem := by simp
 obj := fun i h st b hb => by
  have e : b = it := by simpa using hb
  subst e
  obtain ⟨o, e, c, d⟩ := st
  exact ⟨o, e, fun v z => by rw [d] at z; cases z⟩
 keep := fun i h h' st k => st.at fun o e => k it (by simp) o e
 item := by
  intro X hP hw hK hc i pins s σ H E I hf st hg
  subst hP hw hK
  obtain ⟨xs, x, hq, hx⟩ := hg
  obtain ⟨its, rv, p, hz⟩ := I.tuple hq
  obtain ⟨u, hu, ru⟩ := rv.get hx
  obtain ⟨f0, f1, f2, f3, f4, f5⟩ := hf it (by simp)
  refine wpAny_pyNext_tuple_item st (show s.heap.IsTuple a its.toArray from p) (x := u) (by simpa using hu) fun h' st' sb => ?_
  have I1 : Inv X pins σ H { s with heap := h' } := I.turned (t' := s.toks) (fun b o hb e => (sb.2 b hb).trans e) f0 f1 f3 f4 f5
  obtain ⟨o, e, c, d⟩ := id st'
  exact ⟨u, rfl, Uh (s := { s with heap := h' }) e c d (by decide) ⟨x, H, I1, ru, ⟨rfl, fun ys hy => by rw [I.tuple_inj hy hq]; exact hx⟩, st', fun b hb => (hf b hb).1⟩⟩
 done := by
  intro X hP hw hK hc i pins s σ H E I hf st hg
  subst hP hw hK
  obtain ⟨xs, hq, hx⟩ := hg
  obtain ⟨its, rv, p, hz⟩ := I.tuple hq
  obtain ⟨f0, f1, f2, f3, f4, f5⟩ := hf it (by simp)
  have hl := rv.length
  exact wpAny_pyNext_tuple_end (I.ok.hd hc) st (show s.heap.IsTuple a its.toArray from p) (by simp; omega) fun h' eb => ⟨rfl, I.turned (t' := s.toks) (fun b o hb e => eb b o hb e) f0 f1 f3 f4 f5⟩
 self := fun _ _ _ _ _ st h => wpAny_pyIter_tupleiter st h
theorem Za2 {P : Program} {w : World} {K : PySem.W.Frag} {tg : Expr} (it : Addr) (lo : Int) (n : Nat) : Turn P w K tg (Itr lo n) [it] it (fun i h => IsRangeIter h it (lo + (i : Nat) * 1) ((n : Int) - (i : Nat)) 1) where
 mem := by simp
 obj := fun i h st b hb => by
  have e : b = it := by simpa using hb
  subst e
  exact ⟨_, st, fun v z => by
   have z' : Data.fields _ = Data.cell v := z
   cases z'⟩
 keep := fun i h h' st k => k it (by simp) _ st
 item := by
  intro X hP hw hK hc i pins s σ H E I hf st hg
  subst hP hw hK
  obtain ⟨f0, f1, f2, f3, f4, f5⟩ := hf it (by simp)
  have W := Walks.range (prog := X.prog) (w := X.w) (I.ok.hd hc) it lo 1 n
  refine W.item i s _ _ hg st fun v h' tk hv st' kk => ?_
  obtain ⟨t, rfl⟩ := hv
  have I1 : Inv X pins σ H { s with heap := h', toks := tk } := I.turned (fun b o hb e => kk b o (by simpa using hb) e) f0 f1 f3 f4 f5
  refine ⟨_, rfl, Uh (s := { s with heap := h', toks := tk }) (n := "range_iterator") st' rfl rfl (by decide) ⟨.int (lo + i), H, I1, ⟨t, ?_⟩, ⟨rfl, rfl⟩, st', fun b hb => (hf b hb).1⟩⟩
  rw [Int.mul_one]
 done := by
  intro X hP hw hK hc i pins s σ H E I hf st hg
  subst hP hw hK
  obtain ⟨f0, f1, f2, f3, f4, f5⟩ := hf it (by simp)
  exact wpAny_pyNext_range_end (I.ok.hd hc) st (by have : n <= i := hg; omega) fun h' eb => ⟨rfl, I.turned (t' := s.toks) (fun b o hb e => eb b o hb e) f0 f1 f3 f4 f5⟩
 self := fun _ _ _ _ _ st h => wpAny_pyIter_rangeiter st h
end L2
namespace L2
open PySem PySem.Spec PyProof.Rows
section
variable {X : Cx} {tg : Expr}
def Zf2 (K : PySem.W.Frag) (tl : TE) : TI := fun σ H R => tl σ H fun x H1 => ∃ a, x = .ref a /\ (∃ xs, SqT K H1 a xs) /\ R (Itt K a) H1
theorem Zes {l : Expr} {tl : TE} (hl : PE X l tl) : PI X tg l (Zf2 X.K tl) := by
 intro pins s σ H R I h
 refine thn (hl pins s σ H _ I h) fun v s1 ⟨x, H1, I1, r1, q1⟩ => ?_
 obtain ⟨a, e, ⟨xs, hq⟩, q⟩ := q1
 subst e
 cases r1
 obtain ⟨its, rv, p, hz⟩ := I1.tuple hq
 refine wpAny_pyIter_tuple (show s1.heap.IsTuple a its.toArray from p) ?_
 refine ⟨s1.heap.objs.size, [s1.heap.objs.size], _, _, H1, rfl, I1.kept (t' := s1.toks) fun b o e => Heap.get?_push_of_some _ e, Jx a _, ⟨_, Heap.get?_push_size _ rfl, rfl, rfl⟩, fun b hb => ?_, q⟩
 have e : b = s1.heap.objs.size := by simpa using hb
 subst e
 exact I1.fpOk (Nat.le_refl _) (I1.hok.fresh (Nat.le_refl _))
theorem Jy {pins : List (Addr × Obj)} {σ : St} {H : Hp} {s : Shared} {R : It -> Hp -> Prop} {E : Value -> Shared -> Prop} {lo hi : Int} {t u v : Tok} {tk : Nat} (I : Inv X pins σ H s) (h1 : -(2 ^ 62) <= lo) (h2 : lo < 2 ^ 62) (h3 : -(2 ^ 62) <= hi) (h4 : hi < 2 ^ 62)
 (q : R (Itr lo (hi - lo).toNat) H) : wpAny (model X.prog X.w) X.A (pyIter (.ref s.heap.objs.size)) (PIE X pins σ tg R) E { s with heap := s.heap.push { cls := .type "range", data := .fields #[.int lo t, .int hi u, .int 1 v] }, toks := tk } := by
 refine wpAny_pyIter_range (IsRange.new ..) (small_one h1 h2 h3 h4) ?_
 have I1 : Inv X pins σ H { s with heap := s.heap.push { cls := .type "range", data := .fields #[.int lo t, .int hi u, .int 1 v] }, toks := tk } := I.kept fun b o e => Heap.get?_push_of_some _ e
 refine ⟨(s.heap.push { cls := .type "range", data := .fields #[.int lo t, .int hi u, .int 1 v] }).objs.size, [(s.heap.push { cls := .type "range", data := .fields #[.int lo t, .int hi u, .int 1 v] }).objs.size], _, _, H, rfl,
  I1.kept (t' := tk) fun b o e => Heap.get?_push_of_some _ e, Za2 _ lo (hi - lo).toNat, ?_, fun b hb => ?_, q⟩
 · have e1 : lo + ((0 : Nat) : Int) * 1 = lo := by simp
   have e2 : (((hi - lo).toNat : Nat) : Int) - ((0 : Nat) : Int) = Builtin.Range.rangeSize lo hi 1 := by rw [rangeSize_one]; split <;> omega
   show IsRangeIter _ _ (lo + ((0 : Nat) : Int) * 1) ((((hi - lo).toNat : Nat) : Int) - ((0 : Nat) : Int)) 1
   rw [e1, e2]
   exact Heap.get?_push_size _ rfl
 · have e : b = (s.heap.push { cls := .type "range", data := .fields #[.int lo t, .int hi u, .int 1 v] }).objs.size := by simpa using hb
   subst e
   exact I1.fpOk (Nat.le_refl _) (I1.hok.fresh (Nat.le_refl _))
def Qd (ta : TA) : TI := fun σ H R => ta σ H fun vs H1 => ∃ j : Int, vs = [.int j] /\ -(2 ^ 62) <= j /\ j < 2 ^ 62 /\ R (Itr 0 j.toNat) H1
def Jz (ta : TA) : TI := fun σ H R => ta σ H fun vs H1 => ∃ i j : Int, vs = [.int i, .int j] /\ (-(2 ^ 62) <= i /\ i < 2 ^ 62 /\ -(2 ^ 62) <= j /\ j < 2 ^ 62) /\ R (Itr i (j - i).toNat) H1
theorem Ve {a : Expr} {ta : TA} {p pos : Pos} (hg : Gl X "range") (hm : X.mg "range" = none) (ha : PA X [a] ta) (hs : starEach [a] X.env = [(false, eval a X.env)] := by rfl) : PI X tg (.Call (.Name "range" p) [a] [] pos) (Qd ta) := by
 intro pins s σ H R I h
 refine Call_ (VB I hg hm boot_range (PyProof.Rows.callWith_type1 (thn (ha pos pins s σ H _ I h) fun us s1 ⟨vs, H1, I1, r1, q1⟩ => ?_) hs rfl))
 obtain ⟨j, e, q1, q2, q⟩ := q1
 subst e
 cases r1 with
 | cons r rr =>
  cases rr
  obtain ⟨t, rfl⟩ := r
  exact call_range_1 (Jy I1 (by omega) (by omega) q1 q2 (by simpa using q))
theorem ZbR {a b : Expr} {ta : TA} {p pos : Pos} (hg : Gl X "range") (hm : X.mg "range" = none) (ha : PA X [a, b] ta) (hs : starEach [a, b] X.env = [(false, eval a X.env), (false, eval b X.env)] := by rfl) (hs2 : starEach [b] X.env = [(false, eval b X.env)] := by rfl) :
 PI X tg (.Call (.Name "range" p) [a, b] [] pos) (Jz ta) := by
 intro pins s σ H R I h
 refine Call_ (VB I hg hm boot_range (PyProof.Rows.callWith_type1 (thn (ha pos pins s σ H _ I h) fun us s1 ⟨vs, H1, I1, r1, q1⟩ => ?_) (by rw [hs, hs2]) (by rw [hs2]; rfl)))
 obtain ⟨i, j, e, ⟨q1, q2, q3, q4⟩, q⟩ := q1
 subst e
 cases r1 with
 | cons r rr =>
  cases rr with
  | cons r' rr =>
   cases rr
   obtain ⟨t, rfl⟩ := r
   obtain ⟨t', rfl⟩ := r'
   exact call_range_2 (Jy I1 q1 q2 q3 q4 q)
def Qe (wi : TI) (g : TG) (tb : TS) : TS := fun D σ H => wi σ H fun J H1 => ∃ W : Nat -> Nat -> St -> Hp -> Prop, (∃ m, W 0 m σ H1) /\ ∀ i m σ H, W i m σ H ->
 (J.stop i H /\ D.nx σ H) \/ (J.go i H /\ ∃ N : St -> Hp -> Prop, (∀ σ' H', N σ' H' -> ∃ m', m' < m /\ W (i + 1) m' σ' H') /\ ∀ x H', J.yld i H x H' -> g x σ H' fun σ2 H2 => tb { D with nx := N, ct := N, bk := D.nx } σ2 H2)
def YU (fp : List Addr) (h : Heap) : List (Addr × Obj) := fp.filterMap fun b => (h.get? b).map fun o => (b, o)
theorem Ui {fp : List Addr} {h : Heap} {b : Addr} {o : Obj} (hb : b ∈ fp) (e : h.get? b = some o) : (b, o) ∈ YU fp h := List.mem_filterMap.mpr ⟨b, hb, by rw [e]; rfl⟩
theorem JA {fp : List Addr} {h : Heap} {p : Addr × Obj} (hp : p ∈ YU fp h) : p.1 ∈ fp /\ h.get? p.1 = some p.2 := by
 obtain ⟨b, hb, e⟩ := List.mem_filterMap.mp hp
 cases q : h.get? b with
 | none => rw [q] at e; cases e
 | some o =>
  rw [q] at e
  have e' : (b, o) = p := Option.some.inj e
  subst e'
  exact ⟨hb, q⟩
theorem Inv.pinned {pins : List (Addr × Obj)} {σ : St} {H : Hp} {s : Shared} {fp : List Addr} (I : Inv X pins σ H s) (hf : ∀ b ∈ fp, Yl X pins H b) (ho : ∀ b ∈ fp, ∃ o, s.heap.get? b = some o /\ ∀ v, o.data ≠ .cell v) : Inv X (pins ++ YU fp s.heap) σ H s :=
 I.pins_of fun p hp => (List.mem_append.mp hp).elim (fun z => I.pin p (List.mem_append_right _ z)) fun z => by
  obtain ⟨hb, e⟩ := JA z
  obtain ⟨f0, f1, f2, _⟩ := hf p.1 hb
  obtain ⟨o, e', d⟩ := ho p.1 hb
  rw [e] at e'; cases e'
  exact ⟨e, f0, f1, f2, d⟩
theorem Inv.unpinned {pins pl : List (Addr × Obj)} {σ : St} {H : Hp} {s : Shared} (I : Inv X (pins ++ pl) σ H s) : Inv X pins σ H s := I.pins_of fun p hp => I.pin p (List.mem_append_right _ (List.mem_append_left _ hp))
theorem Xc {iter : Expr} {body : List Stmt} {wi : TI} {g : TG} {tb : TS} {pos : Pos} (hp : PassesOwn (model X.prog X.w) X.A X.env X.xe) (hc : X.calm = true) (hi : PI X tg iter wi) (hg : PG X tg g) (hb : PSs X body tb)
 (hs : ∀ x, foldedSetIterable iter X.env x = pure x := by intro _; rfl) : PS X (.For tg iter body [] pos) (Qe wi g tb) := by
 intro pins s σ H D I h
 refine wpAny_For (thn (hi pins s σ H _ I h) fun v s1 h1 => thn h1 fun itv s2 h2 => ?_) hs
 obtain ⟨it, fp, tn, J, H2, e, I2, T, st2, f2, W, ⟨m0, w0⟩, turn⟩ := h2
 subst e
 have stat : ∀ {H' : Hp}, (∀ b ∈ fp, H' b = none) -> ∀ b ∈ fp, Yl X pins H' b := fun hn b hb => ⟨hn b hb, (f2 b hb).2⟩
 refine codeAny_forLoop_any (fun n s' => ∃ i σ' H', Inv X pins σ' H' s' /\ tn i s'.heap /\ (∀ b ∈ fp, H' b = none) /\ W i n σ' H') ?_ m0 ⟨0, σ, H2, I2, st2, fun b hb => (f2 b hb).1, w0⟩
 rintro n s3 ⟨i, σ3, H3, I3, st3, fr3, w3⟩
 rcases turn i n σ3 H3 w3 with ⟨stop, qn⟩ | ⟨go, N, hN, step⟩
 · refine wpAny_passesOwn hp (thn (T.done X rfl rfl rfl hc i pins s3 σ3 H3 X.xe I3 (stat fr3) st3 stop) fun r s4 ⟨hr, I4⟩ => ?_)
   subst hr
   exact wpAny_execs_nil ⟨σ3, H3, I4, qn⟩
 · refine wpAny_passesOwn hp (thn (T.item X rfl rfl rfl hc i pins s3 σ3 H3 X.xe I3 (stat fr3) st3 go) fun r s4 ⟨u, hr, h4⟩ => ?_)
   subst hr
   refine wpAny_passesOwn hp (thn h4 fun _ s5 ⟨x, H5, I5, r5, y5, st5, fr5⟩ => ?_)
   have I5' := I5.pinned (stat fr5) (T.obj _ _ st5)
   refine wpAny_passesOwn hp (thn (hg _ s5 σ3 H5 x u _ I5' r5 (step x H5 y5)) fun _ s6 ⟨σ6, H6, I6, q6⟩ => ?_)
   refine wpAny_passesOwn hp (thn (hb _ s6 σ6 H6 _ I6 q6) fun f s7 q7 => ?_)
   have again : ∀ {σ7 : St} {H7 : Hp}, Inv X (pins ++ YU fp s5.heap) σ7 H7 s7 -> N σ7 H7 -> ∃ m, m < n /\ ∃ i σ' H', Inv X pins σ' H' s7 /\ tn i s7.heap /\ (∀ b ∈ fp, H' b = none) /\ W i m σ' H' := fun {σ7 H7} I7 n7 => by
    obtain ⟨m', hm, w7⟩ := hN σ7 H7 n7
    refine ⟨m', hm, i + 1, σ7, H7, I7.unpinned, T.keep _ _ _ st5 fun b hb o e => (I7.pin (b, o) (List.mem_append_right _ (List.mem_append_right _ (Ui hb e)))).1, fun b hb => ?_, w7⟩
    obtain ⟨o, e, d⟩ := T.obj _ _ st5 b hb
    exact (I7.pin (b, o) (List.mem_append_right _ (List.mem_append_right _ (Ui hb e)))).2.1
   cases f with
   | next => obtain ⟨σ7, H7, I7, n7⟩ := q7; exact again I7 n7
   | cont => obtain ⟨σ7, H7, I7, n7⟩ := q7; exact again I7 n7
   | brk => obtain ⟨σ7, H7, I7, q7⟩ := q7; exact ⟨σ7, H7, I7.unpinned, q7⟩
   | ret v => obtain ⟨x7, σ7, H7, I7, r7, q7⟩ := q7; exact ⟨x7, σ7, H7, I7.unpinned, r7, q7⟩
end
end L2
namespace L2
open PySem PySem.Spec PyProof.Rows
abbrev R2 := V -> V -> Hp -> VK -> Prop
def OpR (X : Cx) (f : Value -> Value -> Sem Value) (r : R2) : Prop :=
 ∀ (pins : List (Addr × Obj)) (s : Shared) (σ : St) (H : Hp) (x y : V) (v u : Value) (Q : VK), Inv X pins σ H s -> RelV x v -> RelV y u -> r x y H Q ->
  wpAny (model X.prog X.w) X.A (f v u) (EP X pins σ Q) X.xe s
def Ys (X : Cx) (f : Value) (r : List V -> Hp -> VK -> Prop) : Prop :=
 ∀ (pins : List (Addr × Obj)) (s : Shared) (σ : St) (H : Hp) (xs : List V) (us : List Value) (Q : VK), Inv X pins σ H s -> Vals xs us -> r xs H Q ->
  wpAny (model X.prog X.w) X.A (call f us) (EP X pins σ Q) X.xe s
def tOp (r : R2) (ta tb : TE) : TE := fun σ H Q => ta σ H fun x H1 => tb σ H1 fun y H2 => r x y H2 Q
def rI (C : Int -> Int -> Prop) (g : Int -> Int -> V) : R2 := fun x y H Q => ∃ i j, x = .int i /\ y = .int j /\ C i j /\ Q (g i j) H
def rI0 (g : Int -> Int -> V) : R2 := fun x y H Q => ∃ i j, x = .int i /\ y = .int j /\ Q (g i j) H
section
variable {X : Cx} {a b c : Expr} {ta tb tc : TE} {pos : Pos}
theorem Qf (ha : PE X a ta) (hb : PE X b tb) {pins : List (Addr × Obj)} {s : Shared} {σ : St} {H : Hp} {R : V -> V -> Hp -> Prop} (I : Inv X pins σ H s)
 (h : ta σ H fun x H1 => tb σ H1 fun y H2 => R x y H2) {Q : Value -> Shared -> Prop} {f : Value -> Value -> Sem Value}
 (hf : ∀ v u s2 x y H2, Inv X pins σ H2 s2 -> RelV x v -> RelV y u -> R x y H2 -> wpAny (model X.prog X.w) X.A (f v u) Q X.xe s2) :
 wpAny (model X.prog X.w) X.A (eval a X.env) (fun v s₁ => wpAny (model X.prog X.w) X.A (eval b X.env) (fun u s₂ => wpAny (model X.prog X.w) X.A (f v u) Q X.xe s₂) X.xe s₁) X.xe s := by
 refine thn (ha pins s σ H _ I h) fun v s1 ⟨x, H1, I1, r1, q1⟩ => ?_
 refine thn (hb pins s1 σ H1 _ I1 q1) fun u s2 ⟨y, H2, I2, r2, q2⟩ => ?_
 exact hf v u s2 x y H2 I2 r1 r2 q2
theorem ZC {op : Operator} {r : R2} (ho : OpR X (binaryOp op) r) (ha : PE X a ta) (hb : PE X b tb) : PE X (.BinOp a op b pos) (tOp r ta tb) := by
 intro pins s σ H Q I h
 exact wpAny_BinOp (Qf ha hb I h fun v u s2 x y H2 I2 rx ry q => ho pins s2 σ H2 x y v u Q I2 rx ry q)
theorem opI {f : Value -> Value -> Sem Value} {C : Int -> Int -> Prop} {g : Int -> Int -> Int}
 (rule : ∀ (i j : Int) (t u : Tok) (s : Shared) (Q : Value -> Shared -> Prop) (E : Value -> Shared -> Prop), C i j -> Q (.int (g i j) s.toks) { s with toks := s.toks + 1 } -> wpAny (model X.prog X.w) X.A (f (.int i t) (.int j u)) Q E s) :
 OpR X f (rI C fun i j => .int (g i j)) := by
 intro pins s σ H x y v u Q I rx ry h
 obtain ⟨i, j, rfl, rfl, hc, q⟩ := h
 obtain ⟨t, rfl⟩ := rx
 obtain ⟨t', rfl⟩ := ry
 exact rule i j t t' s _ _ hc ⟨.int (g i j), H, I.tok _, ⟨_, rfl⟩, q⟩
theorem Zf3 {f : Value -> Value -> Sem Value} {g : Int -> Int -> Int}
 (rule : ∀ (i j : Int) (t u : Tok) (s : Shared) (Q : Value -> Shared -> Prop) (E : Value -> Shared -> Prop), Q (.int (g i j) s.toks) { s with toks := s.toks + 1 } -> wpAny (model X.prog X.w) X.A (f (.int i t) (.int j u)) Q E s) :
 OpR X f (rI0 fun i j => .int (g i j)) := by
 intro pins s σ H x y v u Q I rx ry h
 obtain ⟨i, j, rfl, rfl, q⟩ := h
 obtain ⟨t, rfl⟩ := rx
 obtain ⟨t', rfl⟩ := ry
 exact rule i j t t' s _ _ ⟨.int (g i j), H, I.tok _, ⟨_, rfl⟩, q⟩
theorem JB {f : Value -> Value -> Sem Value} {g : Int -> Int -> Bool}
 (rule : ∀ (i j : Int) (t u : Tok) (s : Shared) (Q : Value -> Shared -> Prop) (E : Value -> Shared -> Prop), Q (.bool (g i j)) s -> wpAny (model X.prog X.w) X.A (f (.int i t) (.int j u)) Q E s) :
 OpR X f (rI0 fun i j => .bl (g i j)) := by
 intro pins s σ H x y v u Q I rx ry h
 obtain ⟨i, j, rfl, rfl, q⟩ := h
 obtain ⟨t, rfl⟩ := rx
 obtain ⟨t', rfl⟩ := ry
 exact rule i j t t' s _ _ ⟨.bl (g i j), H, I, rfl, q⟩
def YV (i j : Int) : Prop := 0 < j /\ j < 1073741824
def JC (i j : Int) : Prop := 0 <= j /\ j <= 1000000 /\ i.natAbs < 2 ^ 64
def CMul (i j : Int) : Prop := (-(2 ^ 64) < i /\ i < 2 ^ 64) \/ (-(2 ^ 64) < j /\ j < 2 ^ 64)
theorem CMul.ok {i j : Int} (h : CMul i j) : IntMulOk i j := by
 rcases h with ⟨h1, h2⟩ | ⟨h1, h2⟩
 · exact .of_left (intBits_le_64 h1 h2)
 · exact .of_right (intBits_le_64 h1 h2)
theorem op_add : OpR X (binaryOp .Add) (rI0 fun i j => .int (i + j)) := Zf3 fun _ _ _ _ _ _ _ q => add_int q
theorem Uj : OpR X (binaryOp .FloorDiv) (rI YV fun i j => .int (i / j)) := opI fun i j _ _ _ _ _ hc q => by
 have h1 : (0 : Int) < j := hc.1
 have h2 : j < 1073741824 := hc.2
 exact floordiv_int (by omega) (by rw [Int.fdiv_eq_ediv_of_nonneg i (by omega)]; exact q) (.inl (PyProof.noPylong_small (by omega)))
theorem Xd : OpR X (binaryOp .Mod) (rI (fun _ j => 0 < j) fun i j => .int (i % j)) := opI fun i j _ _ _ _ _ hc q => by
 have h1 : (0 : Int) < j := hc
 exact mod_int' (by omega) (by rw [Int.fmod_eq_emod_of_nonneg i (by omega)]; exact q)
end
def scal : V -> V -> Bool
 | .non, .non => true | .non, .int _ => true | .int _, .non => true | .non, .bl _ => true | .bl _, .non => true | .non, .str _ => true | .str _, .non => true
 | .int _, .int _ => true | .bl _, .bl _ => true | .str _, .str _ => true | .byt _, .byt _ => true
 | .int _, .str _ => true | .str _, .int _ => true | .bl _, .str _ => true | .str _, .bl _ => true
 | _, _ => false
def rEq : R2 := fun x y H Q => scal x y = true /\ Q (.bl (decide (x = y))) H
def rNe : R2 := fun x y H Q => scal x y = true /\ Q (.bl (!decide (x = y))) H
theorem JD {i j : Int} : decide (V.int i = V.int j) = (i == j) := by
 rw [Bool.eq_iff_iff]
 simp
theorem JE {i j : Bool} : decide (V.bl i = V.bl j) = (i == j) := by
 rw [Bool.eq_iff_iff]
 simp
theorem JF {i j : Str} : decide (V.str i = V.str j) = (i == j) := by
 rw [Bool.eq_iff_iff]
 simp
theorem JG {i j : Array UInt8} : decide (V.byt i = V.byt j) = (i.toList == j.toList) := by
 rw [Bool.eq_iff_iff]
 cases i
 cases j
 simp
section
variable {X : Cx} {a b c : Expr} {ta tb tc : TE} {pos : Pos}
theorem Zz {pins : List (Addr × Obj)} {σ : St} {H : Hp} {s : Shared} {Q : VK} {k k' : Bool} (I : Inv X pins σ H s) (q : Q (.bl k) H) (e : k = k') : EP X pins σ Q (.bool k') s := by
 subst e
 exact ⟨.bl k, H, I, rfl, q⟩
theorem Ze3 : OpR X (compareOp .Eq) rEq := by
 intro pins s σ H x y v u Q I rx ry h
 obtain ⟨hs, q⟩ := h
 cases x with
 | non =>
  cases rx
  cases y with
  | non => cases ry; exact PySem.EqNone.eq_none_none (Zz I q (by simp))
  | bl j => cases ry; exact PySem.EqNone.eq_none_bool (Zz I q (by simp))
  | int j => obtain ⟨t', rfl⟩ := ry; exact PySem.EqNone.eq_none_int (Zz I q (by simp))
  | str j => obtain ⟨t', rfl⟩ := ry; exact PySem.EqNone.eq_none_str (Zz I q (by simp))
  | _ => exact absurd (show false = true from hs) Bool.false_ne_true
 | bl i =>
  cases rx
  cases y with
  | non => cases ry; exact PySem.EqNone.eq_bool_none (Zz I q (by simp))
  | bl j => cases ry; exact eq_bool (Zz I q JE)
  | str j => obtain ⟨t', rfl⟩ := ry; exact PySem.EqMixed.eq_bool_str (Zz I q (by simp))
  | _ => exact absurd (show false = true from hs) Bool.false_ne_true
 | int i =>
  obtain ⟨t, rfl⟩ := rx
  cases y with
  | non => cases ry; exact PySem.EqNone.eq_int_none (Zz I q (by simp))
  | int j => obtain ⟨t', rfl⟩ := ry; exact eq_int (Zz I q JD)
  | str j => obtain ⟨t', rfl⟩ := ry; exact PySem.EqMixed.eq_int_str (Zz I q (by simp))
  | _ => exact absurd (show false = true from hs) Bool.false_ne_true
 | str i =>
  obtain ⟨t, rfl⟩ := rx
  cases y with
  | non => cases ry; exact PySem.EqNone.eq_str_none (Zz I q (by simp))
  | bl j => cases ry; exact PySem.EqMixed.eq_str_bool (Zz I q (by simp))
  | int j => obtain ⟨t', rfl⟩ := ry; exact PySem.EqMixed.eq_str_int (Zz I q (by simp))
  | str j => obtain ⟨t', rfl⟩ := ry; exact eq_str (Zz I q JF)
  | _ => exact absurd (show false = true from hs) Bool.false_ne_true
 | byt i =>
  obtain ⟨t, rfl⟩ := rx
  cases y with
  | byt j => obtain ⟨t', rfl⟩ := ry; exact PySem.W.eq_bytes (Zz I q JG)
  | _ => exact absurd (show false = true from hs) Bool.false_ne_true
 | _ => cases y <;> exact absurd (show false = true from hs) Bool.false_ne_true
theorem Ze4 : OpR X (compareOp .NotEq) rNe := by
 intro pins s σ H x y v u Q I rx ry h
 obtain ⟨hs, q⟩ := h
 cases x with
 | non =>
  cases rx
  cases y with
  | non => cases ry; exact PySem.EqNone.ne_none_none (Zz I q (by simp))
  | bl j => cases ry; exact PySem.EqNone.ne_none_bool (Zz I q (by simp))
  | int j => obtain ⟨t', rfl⟩ := ry; exact PySem.EqNone.ne_none_int (Zz I q (by simp))
  | str j => obtain ⟨t', rfl⟩ := ry; exact PySem.EqNone.ne_none_str (Zz I q (by simp))
  | _ => exact absurd (show false = true from hs) Bool.false_ne_true
 | bl i =>
  cases rx
  cases y with
  | non => cases ry; exact PySem.EqNone.ne_bool_none (Zz I q (by simp))
  | bl j => cases ry; exact ne_bool (Zz I q (congrArg not JE))
  | str j => obtain ⟨t', rfl⟩ := ry; exact PySem.EqMixed.ne_bool_str (Zz I q (by simp))
  | _ => exact absurd (show false = true from hs) Bool.false_ne_true
 | int i =>
  obtain ⟨t, rfl⟩ := rx
  cases y with
  | non => cases ry; exact PySem.EqNone.ne_int_none (Zz I q (by simp))
  | int j => obtain ⟨t', rfl⟩ := ry; exact ne_int (Zz I q (congrArg not JD))
  | str j => obtain ⟨t', rfl⟩ := ry; exact PySem.EqMixed.ne_int_str (Zz I q (by simp))
  | _ => exact absurd (show false = true from hs) Bool.false_ne_true
 | str i =>
  obtain ⟨t, rfl⟩ := rx
  cases y with
  | non => cases ry; exact PySem.EqNone.ne_str_none (Zz I q (by simp))
  | bl j => cases ry; exact PySem.EqMixed.ne_str_bool (Zz I q (by simp))
  | int j => obtain ⟨t', rfl⟩ := ry; exact PySem.EqMixed.ne_str_int (Zz I q (by simp))
  | str j => obtain ⟨t', rfl⟩ := ry; exact ne_str (Zz I q (congrArg not JF))
  | _ => exact absurd (show false = true from hs) Bool.false_ne_true
 | byt i =>
  obtain ⟨t, rfl⟩ := rx
  cases y with
  | byt j => obtain ⟨t', rfl⟩ := ry; exact PySem.W.ne_bytes (Zz I q (congrArg not JG))
  | _ => exact absurd (show false = true from hs) Bool.false_ne_true
 | _ => cases y <;> exact absurd (show false = true from hs) Bool.false_ne_true
theorem Qg : OpR X (compareOp .Lt) (rI0 fun i j => .bl (decide (i < j))) := JB fun _ _ _ _ _ _ _ q => lt_int q
theorem Ze5 : OpR X (compareOp .Gt) (rI0 fun i j => .bl (decide (j < i))) := JB fun _ _ _ _ _ _ _ q => gt_int q
theorem ZbS : OpR X (compareOp .In) (fun x y H Q => ∃ i j, x = .str i /\ y = .str j /\ Q (.bl (!(Builtin.Str.occurrences j i 0 j.length 1).isEmpty)) H) := by
 intro pins s σ H x y v u Q I rx ry h
 obtain ⟨i, j, rfl, rfl, q⟩ := h
 obtain ⟨t, rfl⟩ := rx
 obtain ⟨t', rfl⟩ := ry
 exact in_str (Zz I q rfl)
theorem OpR.or {f : Value -> Value -> Sem Value} {r r' : R2} (h : OpR X f r) (h' : OpR X f r') : OpR X f (fun x y H Q => r x y H Q \/ r' x y H Q) := by
 intro pins s σ H x y v u Q I rx ry q
 rcases q with q | q
 · exact h pins s σ H x y v u Q I rx ry q
 · exact h' pins s σ H x y v u Q I rx ry q
theorem Yt (b : Expr) {op : CmpOp} (h : op ≠ .In := by decide) (h2 : op ≠ .NotIn := by decide) : behindInMarks op b = false := by
 have e1 : (op == CmpOp.In) = false := by cases op <;> first | rfl | exact absurd rfl h
 have e2 : (op == CmpOp.NotIn) = false := by cases op <;> first | rfl | exact absurd rfl h2
 cases b <;> simp [behindInMarks, e1, e2]
theorem Uk {op : CmpOp} {r : R2} (ho : OpR X (compareOp op) r) (ha : PE X a ta) (hb : PE X b tb) (hm : behindInMarks op b = false) : PE X (.Compare a [op] [b] pos) (tOp r ta tb) := by
 intro pins s σ H Q I h
 exact wpAny_Compare1 (Qf ha hb I h fun v u s2 x y H2 I2 rx ry q => ho pins s2 σ H2 x y v u Q I2 rx ry q) hm
def JH (t : TE) : TT := fun σ H Q => t σ H fun x H' => ∃ k, x = .bl k /\ Q k H'
theorem Xe {op : CmpOp} {r : R2} (ho : OpR X (compareOp op) r) (ha : PE X a ta) (hb : PE X b tb) (hm : behindInMarks op b = false) : PT X (.Compare a [op] [b] pos) (JH (tOp r ta tb)) := by
 intro pins s σ H Q I h
 refine wpAny_isTrue_Compare1 (thn (ha pins s σ H _ I h) fun v s1 ⟨x, H1, I1, r1, q1⟩ => thn (hb pins s1 σ H1 _ I1 q1) fun u s2 ⟨y, H2, I2, r2, q2⟩ =>
  thn (ho pins s2 σ H2 x y v u _ I2 r1 r2 q2) fun c s3 ⟨z, H3, I3, r3, k, e, q3⟩ => ?_) hm
 subst e
 cases r3
 exact wpAny_truthy_bool ⟨H3, I3, q3⟩
theorem Vf : (sizeLine : Nat) < 2 ^ 63 := by rw [sizeLine_eq]; decide
theorem Za3 : OpR X (binaryOp .Add) (fun x y H Q => ∃ i j, x = .str i /\ y = .str j /\ i.length + j.length <= sizeLine /\ Q (.str (i ++ j)) H) := by
 intro pins s σ H x y v u Q I rx ry h
 obtain ⟨i, j, rfl, rfl, hz, q⟩ := h
 obtain ⟨t, rfl⟩ := rx
 obtain ⟨t', rfl⟩ := ry
 exact add_str (fun t' tk => ⟨.str (i ++ j), H, I.tok _, ⟨_, rfl⟩, q⟩) hz
theorem Xf {x : V} {us : List Value} (r : Vals [x] us) : ∃ u, us = [u] /\ RelV x u := by
 cases r with
 | cons r1 r2 => cases r2; exact ⟨_, rfl, r1⟩
theorem JI {x y : V} {us : List Value} (r : Vals [x, y] us) : ∃ u w', us = [u, w'] /\ RelV x u /\ RelV y w' := by
 cases r with
 | cons r1 r2 =>
  cases r2 with
  | cons r3 r4 => cases r4; exact ⟨_, _, rfl, r1, r3⟩
theorem ZbT : Ys X (.type "int") (fun xs H Q => (∃ i, xs = [.int i] /\ Q (.int i) H) \/ ∃ k, xs = [.bl k] /\ Q (.int (if k then 1 else 0)) H) := by
 intro pins s σ H xs us Q I r h
 rcases h with ⟨i, rfl, q⟩ | ⟨k, rfl, q⟩
 · obtain ⟨u, rfl, t, rfl⟩ := Xf r
   exact call_int_int ⟨.int i, H, I, ⟨_, rfl⟩, q⟩
 · obtain ⟨u, rfl, r1⟩ := Xf r
   cases r1
   exact call_int_bool ⟨.int (if k then 1 else 0), H, I.tok _, ⟨_, rfl⟩, q⟩
end
end L2
namespace L2
open PySem PySem.Spec PyProof.Rows
structure ObjM (h : Heap) (x dx C : Addr) (mA : Str -> Option Value) : Prop where
 obj : h.get? x = some (PySem.W.instObj C dx)
 ns : h.Ns1 dx mA
 ne : dx ≠ x
theorem ZbU {h : Heap} {dx : Addr} {mA : Str -> Option Value} (n : h.Ns1 dx mA) : ∃ od, h.get? dx = some od /\ ∀ name, PySem.W.lookIn name od = some (mA name) := by
 obtain ⟨o, es, ep, ho, hd, hk, _, hm⟩ := n
 refine ⟨o, ho, fun name => ?_⟩
 have e := hm name
 unfold nsFind findBy at e
 rw [<- Array.find?_toList] at e
 unfold PySem.W.lookIn
 rw [hd]
 dsimp only
 split
 · rename_i y q
   rw [q] at e
   exact congrArg some e
 · rename_i q
   rw [q] at e
   have a : es.toList.any (·.refKey) = false := by
    rw [List.any_eq_false]
    intro y hy
    obtain ⟨z, t, hkey⟩ := hk y (Array.mem_toList_iff.mp hy)
    simp [DictEntry.refKey, hkey]
   have a' : ¬ es.toList.any (·.refKey) = true := by rw [a]; exact Bool.false_ne_true
   rw [if_neg a']
   exact congrArg some e
theorem ObjM.look {h : Heap} {x dx C : Addr} {mA : Str -> Option Value} (I : ObjM h x dx C mA) : ∃ od, PySem.W.InstAt h x (PySem.W.instObj C dx) C (some od) /\ ∀ name, PySem.W.lookIn name od = some (mA name) :=
 let ⟨od, ho, hl⟩ := ZbU I.ns
 ⟨od, ⟨I.obj, rfl, rfl, ho⟩, hl⟩
section
variable {prog : Program} {w : World} {A : Around} {E : Value -> Shared -> Prop} {s : Shared} {K : PySem.W.Frag} {x dx C f : Addr} {mA : Str -> Option Value} {name : Str} {v : Value}
theorem Zde {expr : Bool} {Q : Value -> Shared -> Prop} (X : K.In s.heap) (I : ObjM s.heap x dx C mA) (hg : PySem.W.plainGet K C name = true) (hh : PySem.W.hasDictIn K C = true)
 (ha : PySem.W.findIn K (.ref C) name = some none) (hv : mA name = some v) (hv' : PySem.W.handedIn v = true) (h : Q v { s with toks := s.toks + 1 }) :
 wpAny (model prog w) A (getAttr (.ref x) name expr) Q E s := by
 obtain ⟨od, J, hl⟩ := I.look
 exact PySem.W.get_value X J (PySem.W.plainGet_of hg).1 (PySem.W.findObj_own hh ha rfl (by rw [hl, hv])) hv' h
theorem Zcj {pl : Sem Bool} {Q : Value × List Value -> Shared -> Prop} (X : K.In s.heap) (I : ObjM s.heap x dx C mA) (hg : PySem.W.plainGet K C name = true)
 (hf : PySem.W.findIn K (.ref C) name = some (some (.ref f))) (ht : PySem.W.isFn K (.ref f) = true) (hv : mA name = none) (h : Q (.ref f, [.ref x]) s) :
 wpAny (model prog w) A (getMethod (.ref x) name pl) Q E s := by
 obtain ⟨od, J, hl⟩ := I.look
 exact PySem.W.method_fn X J (PySem.W.plainGet_of hg).1 (PySem.W.plainGet_of hg).2 hf (beq_iff_eq.mp ht) (by show (PySem.W.lookIn name od).map (·.isSome) = some false; rw [hl, hv]; rfl) h
theorem Zdf {ns : List Str} {Q : Unit -> Shared -> Prop} (X : K.In s.heap) (I : ObjM s.heap x dx C mA)
 (hs : PySem.W.findIn K (.ref C) "__setattr__" = some (some (.builtin "object.__setattr__"))) (hp : PySem.W.plainOver K C = true) (ht : PySem.W.takerIn K C name = some none) (hh : PySem.W.hasDictIn K C = true)
 (hw : PySem.Within mA ns) (hsz : ns.length <= sizeLine)
 (h : ∀ h', ObjM h' x dx C (fun y => if y = name then some v else mA y) -> Heap.SameBut dx s.heap h' -> Q () { s with heap := h', toks := s.toks + 2 }) :
 wpAny (model prog w) A (setAttr (.ref x) name v) Q E s := by
 obtain ⟨od, J, hl⟩ := I.look
 refine PySem.W.set_plain X J hs (PySem.W.osa_open (s := { s with toks := s.toks + 1 }) (r := none) X J hp ht fun b => ?_)
 obtain ⟨cd, hc, hd'⟩ := PySem.W.any_some hh
 have hx : s.heap.get? x = some ⟨.ref C, some dx, .plain, #[]⟩ := I.obj
 refine wpAny_bind (wpAny_pure (wpAny_bind (wpAny_bind (wpAny_loadPart hx (wpAny_bind (PySem.W.Looks.here (s := { s with toks := s.toks + 1 }) (PySem.W.looks_clsIn X hc) ?_))))))
 rw [hd']
 refine wpAny_pure (a := some dx) (wpAny_bind (wpAny_pure (wpAny_bind ?_)))
 refine wpAny_nsSet1 (s := { s with toks := s.toks + 1 }) I.ns fun h' hn2 hs2 => ?_
 obtain ⟨oD, esD, epD, hoD, hdD, hcD⟩ := hn2.count (PySem.Within.cons name v hw)
 refine wpAny_bind (wpAny_lookBehind hoD (by rw [hdD]; exact pastItsLine_dict (Nat.le_trans hcD (by rw [List.length_cons]; omega))) ?_)
 exact wpAny_pure (h _ ⟨(hs2.2 _ (Ne.symm I.ne)).trans I.obj, hn2, I.ne⟩ hs2)
theorem Zck {R : Result -> Shared -> Prop} {vs : List Value} {kw : List (Str × Value)} (X : K.In s.heap) (hm : PySem.W.makesIn K C = true)
 (hi : PySem.W.findIn K (.ref C) "__init__" = some (some (.ref f))) (hf : PySem.W.typeIn K (.ref f) = some (.type "function"))
 (h : codeAny (model prog w) (A.under (.builtin "type.__call__" ⟨.ref C :: vs, kw⟩)) (.call (.ref f) ⟨.ref (s.heap.objs.size + 1) :: vs, kw⟩) (PySem.W.InitBack (s.heap.objs.size + 1) R)
   { s with heap := (s.heap.push PySem.W.emptyDict).push (PySem.W.instObj C s.heap.objs.size) }) :
 codeAny (model prog w) A (.call (.ref C) ⟨vs, kw⟩) R s := by
 obtain ⟨hh, g, d, t, os⟩ := s
 exact PySem.W.make_core (PySem.W.makes_of X hm) (PySem.W.looks_findIn X hi) (fun self => PySem.W.bind_fn X self hf) (.inl rfl) h
end
def ZU (f : Str) (v : V) : List (Str × V) -> List (Str × V)
 | [] => [(f, v)]
 | (g, x) :: r => if g = f then (g, v) :: r else (g, x) :: ZU f v r
theorem JJ (f g : Str) (v : V) : ∀ fs : List (Str × V), (ZU f v fs).lookup g = if g = f then some v else fs.lookup g
 | [] => by
  show List.lookup g [(f, v)] = _
  by_cases h : g = f
  · have hb : (g == f) = true := beq_iff_eq.mpr h
    simp only [List.lookup, hb, if_pos h]
  · have hb : (g == f) = false := beq_eq_false_iff_ne.mpr h
    simp only [List.lookup, hb, if_neg h]
 | (k, x) :: r => by
  have ih := JJ f g v r
  rw [show ZU f v ((k, x) :: r) = (if k = f then (k, v) :: r else (k, x) :: ZU f v r) from rfl]
  by_cases hk : k = f
  · rw [if_pos hk]
    by_cases h : g = k
    · have hb : (g == k) = true := beq_iff_eq.mpr h
      simp only [List.lookup, hb, if_pos (h.trans hk)]
    · have hb : (g == k) = false := beq_eq_false_iff_ne.mpr h
      simp only [List.lookup, hb, if_neg (fun e : g = f => h (e.trans hk.symm))]
  · rw [if_neg hk]
    by_cases h : g = k
    · have hb : (g == k) = true := beq_iff_eq.mpr h
      simp only [List.lookup, hb, if_neg (fun e : g = f => hk (h.symm.trans e))]
    · have hb : (g == k) = false := beq_eq_false_iff_ne.mpr h
      simp only [List.lookup, hb]
      exact ih
theorem Qh (f : Str) (v : V) : ∀ fs : List (Str × V), f ∈ (ZU f v fs).map (·.1) /\ ∀ g, g ∈ fs.map (·.1) -> g ∈ (ZU f v fs).map (·.1)
 | [] => ⟨by simp [ZU], fun g h => by simp at h⟩
 | (k, x) :: r => by
  obtain ⟨i1, i2⟩ := Qh f v r
  rw [show ZU f v ((k, x) :: r) = (if k = f then (k, v) :: r else (k, x) :: ZU f v r) from rfl]
  by_cases hk : k = f
  · rw [if_pos hk]
    subst hk
    exact ⟨by simp, fun g h => by simpa using h⟩
  · rw [if_neg hk]
    refine ⟨?_, fun g h => ?_⟩
    · rw [List.map_cons]
      exact List.mem_cons_of_mem _ i1
    · rw [List.map_cons] at h ⊢
      rcases List.mem_cons.mp h with e | e
      · exact List.mem_cons.mpr (.inl e)
      · exact List.mem_cons_of_mem _ (i2 g e)
theorem JK (f : Str) (v : V) : ∀ fs : List (Str × V), (ZU f v fs).length <= fs.length + 1
 | [] => by simp [ZU]
 | (k, x) :: r => by
  have ih := JK f v r
  rw [show ZU f v ((k, x) :: r) = (if k = f then (k, v) :: r else (k, x) :: ZU f v r) from rfl]
  by_cases hk : k = f
  · rw [if_pos hk, List.length_cons, List.length_cons]; omega
  · rw [if_neg hk, List.length_cons, List.length_cons]; omega
theorem RelO.some_of {v : V} {o : Option Value} (r : RelO (some v) o) : ∃ u, o = some u /\ RelV v u := by
 cases o with
 | none => exact (show False from r).elim
 | some u => exact ⟨u, rfl, r⟩
theorem RelO.none_of {o : Option Value} (r : RelO none o) : o = none := by
 cases o with
 | none => rfl
 | some u => exact (show False from r).elim
theorem ZbV {v : V} {u : Value} (r : RelV v u) : PySem.W.handedIn u = true := by
 cases v with
 | non => cases (show u = Value.none from r); rfl
 | bl b => cases (show u = Value.bool b from r); rfl
 | int i => obtain ⟨t, e⟩ := (show ∃ t, u = Value.int i t from r); cases e; rfl
 | str x => obtain ⟨t, e⟩ := (show ∃ t, u = Value.str x t from r); cases e; rfl
 | byt b => obtain ⟨t, e⟩ := (show ∃ t, u = Value.bytes b t from r); cases e; rfl
 | flt b => obtain ⟨t, e⟩ := (show ∃ t, u = Value.float b t from r); cases e; rfl
 | ref a => cases (show u = Value.ref a from r); rfl
 | ty n => cases (show u = Value.type n from r); rfl
section
variable {P : Program} {w : World} {H H' : Hp} {h h' : Heap} {a C dx : Addr} {fs fs' : List (Str × V)}
theorem Ul (hok : HOk P w H h) (e : H a = some (.ins C dx fs)) : ∃ mA, ObjM h a dx C mA /\ (∀ f, RelO (fs.lookup f) (mA f)) /\ PySem.Within mA (fs.map (·.1)) /\ fs.length <= 1000 /\ H dx = some (.own a) := by
 obtain ⟨d, z, ne, ob, mA, n, r, q⟩ := (show ObjOk P w H h a (.ins C dx fs) from hok a _ e)
 exact ⟨mA, ⟨ob, n, ne⟩, r, q, z, d⟩
end
structure Cls (K : PySem.W.Frag) (C : Addr) : Prop where
 pg : PySem.W.plainGet K C Str.empty = true
 hd : PySem.W.hasDictIn K C = true
 po : PySem.W.plainOver K C = true
 sa : PySem.W.findIn K (.ref C) "__setattr__" = some (some (.builtin "object.__setattr__"))
theorem Cls.get {K : PySem.W.Frag} {C : Addr} (c : Cls K C) (f : Str) : PySem.W.plainGet K C f = true := c.pg
def NoAttr (K : PySem.W.Frag) (C : Addr) (f : Str) : Prop := PySem.W.findIn K (.ref C) f = some none
theorem NoAttr.taker {K : PySem.W.Frag} {C : Addr} {f : Str} (n : NoAttr K C f) : PySem.W.takerIn K C f = some none := by
 unfold PySem.W.takerIn
 rw [show PySem.W.findIn K (.ref C) f = some none from n]
 rfl
structure Con (K : PySem.W.Frag) (C : Addr) (f : Str) (v : V) (u : Value) : Prop where
 at_ : PySem.W.findIn K (.ref C) f = some (some u)
 rel : RelV v u
 get : PySem.W.specialIn K u "__get__" = some none
 cp : PySem.W.copiedNames.contains f = false
structure Meth (K : PySem.W.Frag) (C : Addr) (m : Str) (f : Addr) : Prop where
 at_ : PySem.W.findIn K (.ref C) m = some (some (.ref f))
 fn : PySem.W.isFn K (.ref f) = true
 kp : PySem.W.keepIn K (.ref f) = true
section
variable {X : Cx} {pins : List (Addr × Obj)} {σ : St} {H : Hp} {s : Shared} {a C dx : Addr} {fs : List (Str × V)} {f : Str} {v : V} {A : Around} {E : Value -> Shared -> Prop}
theorem Za4 {b : Bool} {Q : Value -> Shared -> Prop} (I : Inv X pins σ H s) (e : H a = some (.ins C dx fs)) (c : Cls X.K C) (n : NoAttr X.K C f) (l : fs.lookup f = some v)
 (h : ∀ u s', Inv X pins σ H s' -> RelV v u -> Q u s') : wpAny (model X.prog X.w) A (getAttr (.ref a) f b) Q E s := by
 obtain ⟨mA, O, r, _, _, _⟩ := Ul I.hok e
 obtain ⟨u, hu, ru⟩ := RelO.some_of (v := v) (o := mA f) (by rw [<- l]; exact r f)
 exact Zde I.kIn O (c.get f) c.hd n hu (ZbV ru) (h u _ (I.tok _) ru)
theorem Za5 {m : Str} {g : Addr} {pl : Sem Bool} {Q : Value × List Value -> Shared -> Prop} (I : Inv X pins σ H s) (e : H a = some (.ins C dx fs)) (c : Cls X.K C) (k : Meth X.K C m g) (l : fs.lookup m = none)
 (h : Q (.ref g, [.ref a]) s) : wpAny (model X.prog X.w) A (getMethod (.ref a) m pl) Q E s := by
 obtain ⟨mA, O, r, _, _, _⟩ := Ul I.hok e
 have hn : mA m = none := RelO.none_of (by rw [<- l]; exact r m)
 exact Zcj I.kIn O (c.get m) k.at_ k.fn hn h
theorem Za6 {y : V} {u : Value} {Q : Unit -> Shared -> Prop} (I : Inv X pins σ H s) (e : H a = some (.ins C dx fs)) (c : Cls X.K C) (n : NoAttr X.K C f) (hl : fs.length < 1000) (ry : RelV y u)
 (h : ∀ s', Inv X pins σ (upd H a (.ins C dx (ZU f y fs))) s' -> Q () s') : wpAny (model X.prog X.w) A (setAttr (.ref a) f u) Q E s := by
 obtain ⟨mA, O, r, wi, _, ho⟩ := Ul I.hok e
 have hz : (fs.map (·.1)).length <= sizeLine := by rw [List.length_map, sizeLine_eq]; omega
 refine Zdf I.kIn O c.sa c.po n.taker c.hd wi hz fun h' O' sb => h _ ?_
 have hd : ∃ o, h'.get? dx = some o := let ⟨o, _, _, e', _⟩ := O'.ns; ⟨o, e'⟩
 refine I.write (x := a) (e := dx) (by rw [e]; exact True.intro) (.inr ho) (fun b q hb z => (sb.2 b hb).trans z) hd ?_
 refine ⟨by rw [Zn O.ne]; exact ho, ?_, O.ne, O'.obj, _, O'.ns, fun g => ?_, fun g hg => ?_⟩
 · have := JK f y fs; omega
 · show RelO ((ZU f y fs).lookup g) (if g = f then some u else mA g)
   rw [JJ]
   by_cases q : g = f
   · rw [if_pos q, if_pos q]; exact ry
   · rw [if_neg q, if_neg q]; exact r g
 · by_cases q : g = f
   · rw [q]; exact (Qh f y fs).1
   · refine (Qh f y fs).2 g (wi g fun z => hg ?_)
     show (if g = f then some u else mA g) = none
     rw [if_neg q]; exact z
theorem Inv.made (I : Inv X pins σ H s) : Inv X pins σ (upd (upd H s.heap.objs.size (.own (s.heap.objs.size + 1))) (s.heap.objs.size + 1) (.ins C s.heap.objs.size []))
 { s with heap := (s.heap.push PySem.W.emptyDict).push (PySem.W.instObj C s.heap.objs.size) } := by
 have e1 : (s.heap.push PySem.W.emptyDict).get? s.heap.objs.size = some PySem.W.emptyDict := Heap.get?_push_size s.heap rfl
 have e2 : ((s.heap.push PySem.W.emptyDict).push (PySem.W.instObj C s.heap.objs.size)).get? (s.heap.objs.size + 1) = some (PySem.W.instObj C s.heap.objs.size) := by
  have := Heap.get?_push_size (s.heap.push PySem.W.emptyDict) (o := PySem.W.instObj C s.heap.objs.size) rfl
  rwa [Heap.size_push] at this
 have e3 : (s.heap.push PySem.W.emptyDict).Ns s.heap.objs.size (fun _ => none) := ⟨PySem.W.emptyDict, #[], _, e1, rfl, (fun e he => absurd he (by simp)), fun _ => rfl⟩
 have I1 := I.laid (a := s.heap.objs.size) (o := .own (s.heap.objs.size + 1)) (h' := s.heap.push PySem.W.emptyDict) (t' := s.toks) (fun b u q => Heap.get?_push_of_some _ q) (Nat.le_refl _) ⟨_, e1⟩
 refine I1.laid (a := s.heap.objs.size + 1) (o := .ins C s.heap.objs.size []) (t' := s.toks) (fun b u q => Heap.get?_push_of_some _ q) (Nat.le_of_eq (Heap.size_push _ _)) ?_
 have ne : s.heap.objs.size ≠ s.heap.objs.size + 1 := Nat.ne_of_lt (Nat.lt_succ_self _)
 refine ⟨by rw [Zn ne, ZE], Nat.zero_le _, ne, e2, fun _ => none, (Heap.Ns1.of_empty e3).at fun o q => Heap.get?_push_of_some _ q, fun _ => True.intro, fun y hy => absurd rfl hy⟩
theorem Zdg {prog : Program} {w : World} {env : Env} {e : Expr} {f : Str} {pos : Pos} {s : Shared} {Q : Value -> Shared -> Prop} (hb : attributeBase e f env (eval e env) = eval e env)
 (h : wpAny (model prog w) A (eval e env) (fun o s₁ => wpAny (model prog w) A (getAttr o f true) Q E s₁) E s) : wpAny (model prog w) A (eval (.Attribute e f pos) env) Q E s :=
 Attribute_any_ h (by rw [arm_eval_Attribute, hb])
end
def Qi (K : PySem.W.Frag) (ta : TE) (f : Str) : TE := fun σ H Q => ta σ H fun x H1 => ∃ a C dx fs v, x = .ref a /\ H1 a = some (.ins C dx fs) /\ Cls K C /\ NoAttr K C f /\ fs.lookup f = some v /\ Q v H1
def JL (K : PySem.W.Frag) (ta tv : TE) (f : Str) : TS := fun D σ H => tv σ H fun y H1 => ta σ H1 fun x H2 => ∃ a C dx fs, x = .ref a /\ H2 a = some (.ins C dx fs) /\ Cls K C /\ NoAttr K C f /\ fs.length < 1000 /\
 D.nx σ (upd H2 a (.ins C dx (ZU f y fs)))
section
variable {X : Cx} {o e value : Expr} {f : Str} {pos pos' tpos : Pos} {ta tv : TE}
theorem Zet (he : PE X e ta) (hb : attributeBase e f X.env (eval e X.env) = eval e X.env) : PE X (.Attribute e f pos) (Qi X.K ta f) := by
 intro pins s σ H Q I h
 refine Zdg hb (thn (he pins s σ H _ I h) fun u s1 ⟨x, H1, I1, rx, a, C, dx, fs, v, ex, ea, c, n, l, q⟩ => ?_)
 subst ex
 obtain rfl : u = Value.ref a := rx
 exact Za4 I1 ea c n l fun u' s2 I2 ru => ⟨v, H1, I2, ru, q⟩
theorem JM (ha : PE X o ta) (hv : PE X value tv) (hs : swapsWith value (some (.Attribute o f pos')) pos.line X.env = pure false) : PS X (.Assign [.Attribute o f pos'] value pos) (JL X.K ta tv f) := by
 intro pins s σ H D I h
 refine plainObj_wpAny_Assign_Attribute (thn (hv pins s σ H _ I h) fun u s1 ⟨y, H1, I1, ry, q⟩ => thn (ha pins s1 σ H1 _ I1 q) fun ov s2 ⟨x, H2, I2, rx, a, C, dx, fs, ex, ea, c, n, l, q2⟩ => ?_) hs
 subst ex
 obtain rfl : ov = Value.ref a := rx
 exact Za6 I2 ea c n l ry fun s3 I3 => ⟨σ, _, I3, q2⟩
end
section
variable {X : Cx} {pins : List (Addr × Obj)} {σ : St} {H : Hp} {s : Shared} {A : Around} {E : Value -> Shared -> Prop} {Q : Value -> Shared -> Prop} {c : Value} {b : Bool}
inductive TyOf (K : PySem.W.Frag) (H : Hp) : V -> Value -> Prop where
 | non : TyOf K H .non (.type "NoneType")
 | bl (x : Bool) : TyOf K H (.bl x) (.type "bool")
 | int (i : Int) : TyOf K H (.int i) (.type "int")
 | str (x : Str) : TyOf K H (.str x) (.type "str")
 | flt (x : UInt64) : TyOf K H (.flt x) (.type "float")
 | lst {a : Addr} {xs : List V} (e : H a = some (.lst xs)) : TyOf K H (.ref a) (.type "list")
 | frz {a : Addr} {o : Obj} {xs : List V} (e : H a = some (.frz o (.lst xs))) : TyOf K H (.ref a) (.type "list")
 | tup {a : Addr} {xs : List V} (e : H a = some (.tup xs)) : TyOf K H (.ref a) (.type "tuple")
 | dK {a : Addr} {kvs : List (Key × V)} (e : H a = some (.dK kvs)) : TyOf K H (.ref a) (.type "dict")
 | dT {a : Addr} {kvs : List (List Key × V)} (e : H a = some (.dT kvs)) : TyOf K H (.ref a) (.type "dict")
 | ins {a C dx : Addr} {fs : List (Str × V)} (e : H a = some (.ins C dx fs)) (cl : Cls K C) (ha : PySem.W.findIn K (.ref C) "__class__" = some (some (.builtin "object.__class__")))
  (hn : PySem.W.specialIn K (.builtin "object.__class__") "__get__" = some (some (.builtin "getset_descriptor.__get__"))) (htk : PySem.W.takesIn K (.builtin "object.__class__") = some true)
  (hm : PySem.W.mroIn K C (.type "object") = some true) : TyOf K H (.ref a) (.ref C)
theorem ZbW {x : V} {u t : Value} (I : Inv X pins σ H s) (rx : RelV x u) (ty : TyOf X.K H x t) (e : PySem.W.kitOne X.K t c = some b) (h : ∀ tk, Q (.bool b) { s with toks := tk }) :
 wpAny (model X.prog X.w) A (call (.builtin "isinstance") [u, c]) Q E s := by
 cases ty with
 | non => cases (show u = Value.none from rx); exact PySem.W.kia_one PySem.W.kitx_none I.kIn True.intro e (fun z => nomatch z) h
 | bl y => cases (show u = Value.bool y from rx); exact PySem.W.kia_one PySem.W.kitx_bool I.kIn True.intro e (fun z => nomatch z) h
 | int i => obtain ⟨t, q⟩ := (show ∃ t, u = Value.int i t from rx); cases q; exact PySem.W.kia_one PySem.W.kitx_int I.kIn True.intro e (fun z => nomatch z) h
 | str y => obtain ⟨t, q⟩ := (show ∃ t, u = Value.str y t from rx); cases q; exact PySem.W.kia_one PySem.W.kitx_str I.kIn True.intro e (fun z => nomatch z) h
 | flt y => obtain ⟨t, q⟩ := (show ∃ t, u = Value.float y t from rx); cases q; exact PySem.W.kia_one PySem.W.kitx_float I.kIn True.intro e (fun z => nomatch z) h
 | @lst a xs ea =>
  cases (show u = Value.ref a from rx)
  obtain ⟨_, _, n, _, h1⟩ := (show ObjOk X.prog X.w H s.heap a (.lst xs) from I.hok a _ ea)
  exact PySem.W.kia_one PySem.W.kitx_list I.kIn ⟨_, h1, rfl⟩ e (fun z => nomatch z) h
 | @frz a ob xs ea =>
  cases (show u = Value.ref a from rx)
  obtain ⟨_, _, _, n, _, h1⟩ := (show ObjOk X.prog X.w H s.heap a (.frz ob (.lst xs)) from I.hok a _ ea)
  exact PySem.W.kia_one PySem.W.kitx_list I.kIn ⟨_, h1, rfl⟩ e (fun z => nomatch z) h
 | @tup a xs ea =>
  cases (show u = Value.ref a from rx)
  obtain ⟨_, _, _, p⟩ := (show ObjOk X.prog X.w H s.heap a (.tup xs) from I.hok a _ ea)
  obtain ⟨o, h1, h2, _⟩ := p
  exact PySem.W.kia_one PySem.W.kitx_tuple I.kIn ⟨o, h1, h2⟩ e (fun z => nomatch z) h
 | @dK a kvs ea =>
  cases (show u = Value.ref a from rx)
  obtain ⟨_, _, vs, _, p⟩ := (show ObjOk X.prog X.w H s.heap a (.dK kvs) from I.hok a _ ea)
  obtain ⟨o, es, ep, h1, h2, _⟩ := p
  exact PySem.W.kia_one PySem.W.kitx_dict I.kIn ⟨o, h1, h2.1⟩ e (fun z => nomatch z) h
 | @dT a kvs ea =>
  cases (show u = Value.ref a from rx)
  obtain ⟨_, _, xs, _, o, es, ep, h1, h2, _⟩ := (show ObjOk X.prog X.w H s.heap a (.dT kvs) from I.hok a _ ea)
  exact PySem.W.kia_one PySem.W.kitx_dict I.kIn ⟨o, h1, h2.1⟩ e (fun z => nomatch z) h
 | @ins a C dx fs ea cl ha hn htk hm =>
  cases (show u = Value.ref a from rx)
  obtain ⟨mA, O, _⟩ := Ul I.hok ea
  obtain ⟨od, J, _⟩ := O.look
  exact PySem.W.kia_one (PySem.W.kitx_own (cl.get _) cl.hd ha hn htk hm) I.kIn J e (fun z => nomatch z) h
end
end L2
namespace L2
open PySem PySem.Spec PyProof.Rows
structure Room (k : Nat) (A : Around) : Prop where
 hd : A.handled = none
 dp : A.depth + 3 * k + 5 < recursionLimit
 un : A.units + 16 * k + 200 < cLine
theorem Room.mono {j k : Nat} {A : Around} (r : Room k A) (h : j <= k) : Room j A := ⟨r.hd, by have := r.dp; omega, by have := r.un; omega⟩
theorem Room.deeper {k : Nat} {A : Around} (r : Room (k + 1) A) (env : Env) : Room k (A.deeper env) :=
 ⟨r.hd, by have := r.dp; show A.depth + 1 + 3 * k + 5 < _; omega, by have := r.un; show A.units + 3 + 16 * k + 200 < _; omega⟩
theorem Za7 {A : Around} {C : Addr} {us : List Value} {kw : List (Str × Value)} : (A.under (.builtin "type.__call__" ⟨.ref C :: us, kw⟩)).depth = A.depth + 1 := by
 first | rfl | simp [Around.under, Code.weight, Code.isCreation, Code.isGuard, Code.isCaller, Code.frames, Code.isFrame, guardIds]
theorem Za8 {A : Around} {C : Addr} {us : List Value} {kw : List (Str × Value)} : (A.under (.builtin "type.__call__" ⟨.ref C :: us, kw⟩)).units = A.units + 1 := by
 first | rfl | simp [Around.under, Code.cUnits, Code.frames, Code.isFrame]
theorem Room.make {k : Nat} {A : Around} (r : Room (k + 1) A) (C : Addr) (us : List Value) (kw : List (Str × Value)) : Room k (A.under (.builtin "type.__call__" ⟨.ref C :: us, kw⟩)) :=
 ⟨r.hd, by have := r.dp; rw [Za7]; omega, by have := r.un; rw [Za8]; omega⟩
theorem Room.depth {k : Nat} {A : Around} (r : Room k A) : A.depth < recursionLimit := by have := r.dp; omega
theorem Room.units {k : Nat} {A : Around} (r : Room k A) : A.units + 64 < cLine := by have := r.un; omega
def tNil : TA := fun _ H Q => Q [] H
def Xy (ta : TE) (tr : TA) : TA := fun σ H Q => ta σ H fun x H1 => tr σ H1 fun xs H2 => Q (x :: xs) H2
section
variable {X : Cx} {e : Expr} {es : List Expr} {te : TE} {t : TA} {pos : Pos}
theorem Zj : PA X [] tNil := fun _ _ _ _ H Q I h => Calls.spliced_nil ⟨[], H, I, .nil, h⟩
theorem Ze (ha : PE X e te) (hr : PA X es t) (hs : starEach (e :: es) X.env = (false, eval e X.env) :: starEach es X.env := by rfl) : PA X (e :: es) (Xy te t) := by
 intro pos pins s σ H Q I h
 rw [hs]
 show wpAny _ _ (spliced ((false, eval e X.env) :: backTo pos (starEach es X.env))) _ _ s
 refine Calls.spliced_cons (thn (ha pins s σ H _ I h) fun u s1 ⟨x, H1, I1, r1, q1⟩ => ?_)
 exact thn (hr pos pins s1 σ H1 _ I1 q1) fun us s2 ⟨xs, H2, I2, r2, q2⟩ => ⟨x :: xs, H2, I2, .cons r1 r2, q2⟩
def JN (t : TA) : TE := fun σ H Q => t σ H fun xs H1 => xs.length <= sizeLine /\ ∀ p, H1 p = none -> Q (.ref p) (upd H1 p (.tup xs))
def Qj (t : TA) : TE := fun σ H Q => t σ H fun xs H1 => xs.length <= sizeLine /\ ∀ p, H1 p = none -> Q (.ref p) (upd H1 p (.lst xs))
theorem XW {x1} (h : PA X es t) : PE X (.Tuple es x1 pos) (JN t) := by
 intro pins s σ H Q I hq
 refine wpAny_Tuple_spliced (thn (h pos pins s σ H _ I hq) fun us s1 ⟨xs, H1, I1, r, z, q⟩ => ⟨by rw [<- r.length]; exact z, ?_⟩)
 have hf : H1 s1.heap.objs.size = none := I1.hok.fresh (Nat.le_refl _)
 refine ⟨.ref s1.heap.objs.size, upd H1 s1.heap.objs.size (.tup xs), I1.laid (t' := s1.toks) (fun b u e => Heap.get?_push_of_some _ e) (Nat.le_refl _) ?_, rfl, q _ hf⟩
 exact ⟨z, us, r, ⟨_, Heap.get?_push_size _ rfl, rfl, ⟨_, rfl⟩, rfl⟩⟩
theorem Vg (h : PA X es t) : PE X (.List es pos) (Qj t) := by
 intro pins s σ H Q I hq
 refine wpAny_List_spliced (thn (h pos pins s σ H _ I hq) fun us s1 ⟨xs, H1, I1, r, z, q⟩ => ⟨by rw [<- r.length]; exact z, ?_⟩)
 have hf : H1 s1.heap.objs.size = none := I1.hok.fresh (Nat.le_refl _)
 refine ⟨.ref s1.heap.objs.size, upd H1 s1.heap.objs.size (.lst xs), I1.laid (t' := s1.toks) (fun b u e => Heap.get?_push_of_some _ e) (Nat.le_refl _) ?_, rfl, q _ hf⟩
 exact ⟨z, us, 0, r, Heap.get?_push_size _ rfl⟩
end
abbrev Sp := List V -> Hp -> VK -> XK -> Prop
abbrev CXT := List Env -> Hp -> Shared -> XK -> Value -> Shared -> Prop
structure Env0 (P : Program) (w : World) (K : PySem.W.Frag) (mg : Str -> Option Value) (base : Heap) (A : Around) (outer : List Env) (s : Shared) (H : Hp) : Prop where
 frames : A.frames = some outer
 mod : Mod K mg base
 bs : ∀ b o, base.get? b = some o -> s.heap.get? b = some o /\ H b = none
 bsz : base.objs.size <= s.heap.objs.size
 funs : s.heap.FunFrames base outer
 frf : ∀ b ∈ frs outer, H b = none
 hok : HOk P w H s.heap
 bare : AllBare s.gens
def CE (outer : List Env) (P : Program) (w : World) (H : Hp) (s : Shared) (Q : VK) (u : Value) (s' : Shared) : Prop :=
 ∃ v H', s'.os = s.os /\ AllBare s'.gens /\ Un (frs outer) [] H H' s.heap s'.heap /\ HOk P w H' s'.heap /\ RelV v u /\ Q v H'
def CR (CX : CXT) (outer : List Env) (P : Program) (w : World) (H : Hp) (s : Shared) (Q : VK) (E : XK) (r : Result) (s' : Shared) : Prop :=
 match r with
 | .ok (.ret u) => CE outer P w H s Q u s'
 | .ok _ => False
 | .error e => CX outer H s E e s'
structure FnOk (P : Program) (w : World) (K : PySem.W.Frag) (mg : Str -> Option Value) (base : Heap) (CX : CXT) (k : Nat) (f : Addr) (fd : FuncData) (ps : List Str) (sp : Sp) : Prop where
 len : ∀ vs H Q E, sp vs H Q E -> vs.length = ps.length
 run : ∀ (A : Around) (outer : List Env) (s : Shared) (H : Hp) (args : Args) (us : List Value) (vs : List V) (Q : VK) (E : XK), Room k A -> Env0 P w K mg base A outer s H -> BindsTo s fd args (ps.zip us) -> Vals vs us -> sp vs H Q E ->
  codeAny (model P w) A (.call (.ref f) args) (CR CX outer P w H s Q E) s
theorem FnOk.mono {P : Program} {w : World} {K : PySem.W.Frag} {mg : Str -> Option Value} {base : Heap} {CX : CXT} {j k : Nat} {f : Addr} {fd : FuncData} {ps : List Str} {sp : Sp} (F : FnOk P w K mg base CX j f fd ps sp) (h : j <= k) :
 FnOk P w K mg base CX k f fd ps sp := ⟨F.len, fun A outer s H args us vs Q E hr => F.run A outer s H args us vs Q E (hr.mono h)⟩
theorem FnOk.imp {P : Program} {w : World} {K : PySem.W.Frag} {mg : Str -> Option Value} {base : Heap} {CX : CXT} {k : Nat} {f : Addr} {fd : FuncData} {ps : List Str} {sp sp' : Sp} (F : FnOk P w K mg base CX k f fd ps sp)
 (h : ∀ vs H Q E, sp' vs H Q E -> sp vs H Q E) : FnOk P w K mg base CX k f fd ps sp' :=
 ⟨fun vs H Q E q => F.len vs H Q E (h _ _ _ _ q), fun A outer s H args us vs Q E hr he hb hv hs => F.run A outer s H args us vs Q E hr he hb hv (h _ _ _ _ hs)⟩
theorem Env0.make {P : Program} {w : World} {K : PySem.W.Frag} {mg : Str -> Option Value} {base : Heap} {A : Around} {outer : List Env} {s : Shared} {H : Hp} (e : Env0 P w K mg base A outer s H) (C : Addr) (us : List Value) (kw : List (Str × Value)) :
 Env0 P w K mg base (A.under (.builtin "type.__call__" ⟨.ref C :: us, kw⟩)) outer s H := ⟨by first | exact e.frames | (simpa [Around.under, Code.envs, Code.isFrame, pushEnvs] using e.frames), e.mod, e.bs, e.bsz, e.funs, e.frf, e.hok, e.bare⟩
section
variable {X : Cx} {pins : List (Addr × Obj)} {σ : St} {H : Hp} {s s' : Shared}
theorem Inv.env0 (I : Inv X pins σ H s) : Env0 X.prog X.w X.K X.mg X.base X.A X.stack s H :=
 ⟨I.ok.frames, I.ok.mod, I.bs, Nat.le_trans I.ok.bsz I.sz, I.stack, I.stkFree, I.hok, I.bare⟩
theorem Inv.after {Q : VK} {u : Value} (I : Inv X pins σ H s) (h : CE X.stack X.prog X.w H s Q u s') : EP X pins σ Q u s' := by
 obtain ⟨v, H', os, bare, un, hok, r, q⟩ := h
 obtain ⟨hh, g, d, t, os'⟩ := s'
 obtain rfl : os' = s.os := os
 exact ⟨v, H', I.call (h' := hh) (g' := g) (d' := d) (t' := t) (ch := []) un hok bare (fun b z => absurd z (by simp)), r, q⟩
end
def Qk (sp : Sp) (dvs : List V) (E : XK) (t : TA) : TE := fun σ H Q => t σ H fun vs H1 => sp (vs ++ dvs) H1 Q E
def JO (C : Addr) (sp : Sp) (dvs : List V) (E : XK) (t : TA) : TE := fun σ H Q => t σ H fun vs H1 => ∀ x dx, H1 x = none -> H1 dx = none -> dx ≠ x ->
 sp (.ref x :: (vs ++ dvs)) (upd (upd H1 dx (.own x)) x (.ins C dx [])) (fun v H2 => v = .non /\ Q (.ref x) H2) E
def Binds (K : PySem.W.Frag) (fd : FuncData) (ps : List Str) (ds : List Value) : Prop :=
 ∀ (s : Shared) (us : List Value), K.In s.heap -> (us ++ ds).length = ps.length -> BindsTo s fd ⟨us, []⟩ (ps.zip (us ++ ds))
theorem Binds.all {K : PySem.W.Frag} {fd : FuncData} {ps : List Str} (h : ∀ us : List Value, us.length = ps.length -> bindArgs fd ⟨us, []⟩ = pure (ps.zip us)) : Binds K fd ps [] := fun s us _ hl => by
 rw [List.append_nil] at hl ⊢
 exact .of_eq (h us hl)
def VC (CX : CXT) (X : Cx) (E : XK) : Prop := ∀ (pins : List (Addr × Obj)) (σ : St) (H : Hp) (s : Shared) (e : Value) (s' : Shared), Inv X pins σ H s -> CX X.stack H s E e s' -> X.xe e s'
section
variable {X : Cx} {CX : CXT} {k : Nat} {f C : Addr} {fd : FuncData} {ps : List Str} {sp : Sp} {dvs : List V} {ds : List Value} {E : XK} {x m : Str} {p pos apos : Pos} {e o : Expr} {es : List Expr} {ta : TE} {t : TA}
theorem JP {pins : List (Addr × Obj)} {σ : St} {H : Hp} {s : Shared} {Q : VK} {us : List Value} {vs : List V} (F : FnOk X.prog X.w X.K X.mg X.base CX k f fd ps sp) (hr : Room k X.A) (hb : Binds X.K fd ps ds) (hd : Vals dvs ds) (hx : VC CX X E)
 (I : Inv X pins σ H s) (r : Vals vs us) (h : sp (vs ++ dvs) H Q E) : wpAny (model X.prog X.w) X.A (call (.ref f) us) (EP X pins σ Q) X.xe s := by
 have r2 : Vals (vs ++ dvs) (us ++ ds) := r.append hd
 have hl : (us ++ ds).length = ps.length := by rw [<- r2.length]; exact F.len _ _ _ _ h
 refine wpAny_call (codeAny_mono (F.run X.A X.stack s H ⟨us, []⟩ (us ++ ds) (vs ++ dvs) Q E hr I.env0 (hb s us I.kIn hl) r2 h) fun r s' hq => ?_)
 cases r with
 | error e => exact hx pins σ H s e s' I hq
 | ok fl =>
  cases fl with
  | ret u => exact I.after hq
  | next => exact False.elim hq
  | brk => exact False.elim hq
  | cont => exact False.elim hq
theorem Ym (F : FnOk X.prog X.w X.K X.mg X.base CX k f fd ps sp) (hr : Room k X.A) (hg : Gl X x) (hm : X.mg x = some (.ref f)) (hk : PySem.W.keepIn X.K (.ref f) = true) (hb : Binds X.K fd ps ds) (hd : Vals dvs ds) (hx : VC CX X E)
 (ha : PA X (e :: es) t) (hdb : (x == ("__debug__" : Str)) = false := by decide) (he : starEach (e :: es) X.env = (false, eval e X.env) :: starEach es X.env := by rfl) (hpl : (backTo pos (starEach es X.env)).any (·.1) = false := by rfl) :
 PE X (.Call (.Name x p) (e :: es) [] pos) (Qk sp dvs E t) := by
 intro pins s σ H Q I h
 refine wpAny_Call_Name_kw (Jf I hg hm ?_ hdb)
 refine PySem.W.callWith_K (h₀ := X.base) I.ok.mod.kin hk (thn (ha pos pins s σ H _ I h) fun us s1 ⟨vs, H1, I1, r, q⟩ => ⟨I1.kIn, ?_⟩) he hpl
 exact JP F hr hb hd hx I1 r q
structure Mk (K : PySem.W.Frag) (C f : Addr) : Prop where
 makes : PySem.W.makesIn K C = true
 init : PySem.W.findIn K (.ref C) "__init__" = some (some (.ref f))
 fn : PySem.W.isFn K (.ref f) = true
 kp : PySem.W.keepIn K (.ref C) = true
theorem Zcl {pins : List (Addr × Obj)} {σ : St} {H : Hp} {s : Shared} {Q : VK} {us : List Value} {vs : List V} (M : Mk X.K C f) (F : FnOk X.prog X.w X.K X.mg X.base CX k f fd ps sp) (hr : Room (k + 1) X.A) (hb : Binds X.K fd ps ds) (hd : Vals dvs ds)
 (hx : VC CX X E) (I : Inv X pins σ H s) (r : Vals vs us)
 (h : ∀ x dx, H x = none -> H dx = none -> dx ≠ x -> sp (.ref x :: (vs ++ dvs)) (upd (upd H dx (.own x)) x (.ins C dx [])) (fun v H2 => v = .non /\ Q (.ref x) H2) E) :
 wpAny (model X.prog X.w) X.A (call (.ref C) us) (EP X pins σ Q) X.xe s := by
 have hq := h (s.heap.objs.size + 1) s.heap.objs.size (I.hok.fresh (Nat.le_succ _)) (I.hok.fresh (Nat.le_refl _)) (Nat.ne_of_lt (Nat.lt_succ_self _))
 have I2 := Inv.made (C := C) I
 have r2 : Vals (V.ref (s.heap.objs.size + 1) :: (vs ++ dvs)) (Value.ref (s.heap.objs.size + 1) :: (us ++ ds)) := .cons rfl (r.append hd)
 have hl : (Value.ref (s.heap.objs.size + 1) :: us ++ ds).length = ps.length := by
  have e := r2.length
  rw [F.len _ _ _ _ hq] at e
  exact e.symm
 refine wpAny_call (Zck (f := f) I.kIn M.makes M.init (beq_iff_eq.mp M.fn) (codeAny_mono (F.run _ X.stack _ _ ⟨Value.ref (s.heap.objs.size + 1) :: us, []⟩ (Value.ref (s.heap.objs.size + 1) :: (us ++ ds)) _ _ E (hr.make C us [])
  (I2.env0.make C us []) (hb _ (Value.ref (s.heap.objs.size + 1) :: us) I2.kIn hl) r2 hq) fun r s' hq' => ?_))
 cases r with
 | error e => exact hx pins σ _ _ e s' I2 hq'
 | ok fl =>
  cases fl with
  | ret u =>
   obtain ⟨v, H', I3, rv, ev, q3⟩ := I2.after hq'
   subst ev
   exact ⟨rv, ⟨V.ref (s.heap.objs.size + 1), H', I3, rfl, q3⟩⟩
  | next => exact False.elim hq'
  | brk => exact False.elim hq'
  | cont => exact False.elim hq'
theorem Zdh (M : Mk X.K C f) (F : FnOk X.prog X.w X.K X.mg X.base CX k f fd ps sp) (hr : Room (k + 1) X.A) (hg : Gl X x) (hm : X.mg x = some (.ref C)) (hb : Binds X.K fd ps ds) (hd : Vals dvs ds) (hx : VC CX X E)
 (ha : PA X (e :: es) t) (hdb : (x == ("__debug__" : Str)) = false := by decide) (he : starEach (e :: es) X.env = (false, eval e X.env) :: starEach es X.env := by rfl) (hpl : (backTo pos (starEach es X.env)).any (·.1) = false := by rfl) :
 PE X (.Call (.Name x p) (e :: es) [] pos) (JO C sp dvs E t) := by
 intro pins s σ H Q I h
 refine wpAny_Call_Name_kw (Jf I hg hm ?_ hdb)
 refine PySem.W.callWith_K (h₀ := X.base) I.ok.mod.kin M.kp (thn (ha pos pins s σ H _ I h) fun us s1 ⟨vs, H1, I1, r, q⟩ => ⟨I1.kIn, ?_⟩) he hpl
 exact Zcl M F hr hb hd hx I1 r q
end
section
variable {X : Cx} {CX : CXT} {k : Nat} {f C : Addr} {fd : FuncData} {ps ks : List Str} {sp : Sp} {E : XK} {x m : Str} {p pos apos kpos : Pos} {e o : Expr} {es : List Expr} {kws : List Keyword} {te ta : TE} {t tk : TA} {nm : Option Str}
structure KBinds (K : PySem.W.Frag) (fd : FuncData) (ps ks : List Str) (g : List Value -> List Value -> List Value) (gV : List V -> List V -> List V) : Prop where
 to : ∀ (s : Shared) (us ws : List Value), K.In s.heap -> (g us ws).length = ps.length -> BindsTo s fd ⟨us, ks.zip ws⟩ (ps.zip (g us ws))
 rel : ∀ {vs : List V} {us : List Value} {zs : List V} {ws : List Value}, Vals vs us -> Vals zs ws -> Vals (gV vs zs) (g us ws)
variable {g : List Value -> List Value -> List Value} {gV : List V -> List V -> List V}
end
structure FnScope (N P : List Str) (sc : Scope) : Prop where
 kind : sc.kind = .function
 co : sc.isCoroutine = false
 gen : sc.isGenerator = false
 nd : N.Nodup
 pre : N.take P.length = P
 par : ∀ x ∈ P, sc.names.lookup x = some .local \/ sc.names.lookup x = some .cell
 nofree : ∀ y ∈ sc.names, y.2 ≠ .free
theorem JQ {kindOf : Str -> Option NameKind} {x : Str} : ∀ {binds : List (Str × Value)} {m : Str -> Option Value}, (∀ v, (x, v) ∉ binds) -> bindL kindOf binds m x = m x
 | [], _, _ => rfl
 | (n, v) :: r, m, h => by
  unfold bindL
  rw [JQ fun w hw => h w (List.mem_cons_of_mem _ hw)]
  split
  · have : x ≠ n := by rintro rfl; exact h v List.mem_cons_self
    simp [this]
  · rfl
theorem JR {kindOf : Str -> Option NameKind} {x : Str} : ∀ {binds : List (Str × Value)} {m : Str -> Option Value}, (∀ v, (x, v) ∉ binds) -> bindC kindOf binds m x = m x
 | [], _, _ => rfl
 | (n, v) :: r, m, h => by
  unfold bindC
  rw [JR fun w hw => h w (List.mem_cons_of_mem _ hw)]
  split
  · rfl
  · have : x ≠ n := by rintro rfl; exact h v List.mem_cons_self
    simp [this]
theorem JS {kindOf : Str -> Option NameKind} {x : Str} {v : Value} : ∀ {P : List Str} {vs : List Value} {i : Nat} {m : Str -> Option Value}, P.Nodup -> P[i]? = some x -> vs[i]? = some v -> kindOf x = some .local ->
 bindL kindOf (P.zip vs) m x = some v
 | [], _, _, _, _, h, _, _ => by simp at h
 | _ :: _, [], _, _, _, _, h, _ => by simp at h
 | p :: P, w :: vs, 0, m, nd, h1, h2, hk => by
  simp at h1 h2; subst h1; subst h2
  show bindL kindOf ((p, w) :: P.zip vs) m p = _
  unfold bindL
  rw [JQ fun v hv => (List.nodup_cons.mp nd).1 (List.of_mem_zip hv).1, if_pos hk]
  simp
 | p :: P, w :: vs, i + 1, m, nd, h1, h2, hk => by
  show bindL kindOf ((p, w) :: P.zip vs) m x = _
  unfold bindL
  exact JS (i := i) (List.nodup_cons.mp nd).2 (by simpa using h1) (by simpa using h2) hk
theorem JT {kindOf : Str -> Option NameKind} {x : Str} {v : Value} : ∀ {P : List Str} {vs : List Value} {i : Nat} {m : Str -> Option Value}, P.Nodup -> P[i]? = some x -> vs[i]? = some v -> kindOf x ≠ some .local ->
 bindC kindOf (P.zip vs) m x = some v
 | [], _, _, _, _, h, _, _ => by simp at h
 | _ :: _, [], _, _, _, _, h, _ => by simp at h
 | p :: P, w :: vs, 0, m, nd, h1, h2, hk => by
  simp at h1 h2; subst h1; subst h2
  show bindC kindOf ((p, w) :: P.zip vs) m p = _
  unfold bindC
  rw [JR fun v hv => (List.nodup_cons.mp nd).1 (List.of_mem_zip hv).1, if_neg hk]
  simp
 | p :: P, w :: vs, i + 1, m, nd, h1, h2, hk => by
  show bindC kindOf ((p, w) :: P.zip vs) m x = _
  unfold bindC
  exact JT (i := i) (List.nodup_cons.mp nd).2 (by simpa using h1) (by simpa using h2) hk
def start (N : List Str) (vs : List V) : St := vs.map some ++ List.replicate (N.length - vs.length) none
def Yu (CX : CXT) (P : Program) (w : World) (K : PySem.W.Frag) (mg : Str -> Option Value) (base : Heap) (N : List Str) (qual : Str) (scope : Scope) (f : Addr) (cd : Value) (A : Around) (outer : List Env) (s : Shared) (H : Hp) (E : XK) : Cx where
 prog := P
 w := w
 K := K
 mg := mg
 base := base
 A := A.deeper (envOfC qual scope s.heap.objs.size f cd)
 N := N
 s₀ := s
 H₀ := H
 env := envOfC qual scope s.heap.objs.size f cd
 outer := outer
 stack := envOfC qual scope s.heap.objs.size f cd :: outer
 ex := []
 calm := true
 fn := fun _ => true
 pn := []
 xe := fun e s' => wpAny (model P w) (A.deeper (envOfC qual scope s.heap.objs.size f cd)) (leaving (envOfC qual scope s.heap.objs.size f cd) e) (fun _ s'' => CX outer H s E e s'') (fun e' s'' => CX outer H s E e' s'') s'
theorem JU {sc : Scope} {n : Nat} {x : Str} (h : sc.names.lookup x = some .cell) : ∃ c, (cellsFrom n sc.names []).lookup x = some c := by
 have q := PySem.W.cellsFrom_some sc.names n [] (.inl h)
 exact Option.isSome_iff_exists.mp q
theorem ZbX {CX : CXT} {P : Program} {w : World} {K : PySem.W.Frag} {mg : Str -> Option Value} {base : Heap} {N ps : List Str} {qual : Str} {scope : Scope} {f : Addr} {cd : Value} {A : Around} {outer : List Env} {s s1 : Shared} {H : Hp} {E : XK} {us : List Value} {vs : List V}
 (S : FnScope N ps scope) (hd : A.handled = none) (e0 : Env0 P w K mg base A outer s H) (hl : vs.length = ps.length) (r : Vals vs us)
 (x : InCallC s s.heap.objs.size (bindL (envOfC qual scope s.heap.objs.size f cd).kindOf (ps.zip us) fun _ => none) (cellsFrom (s.heap.objs.size + 1) scope.names []) (bindC (envOfC qual scope s.heap.objs.size f cd).kindOf (ps.zip us) fun _ => none) s1) :
 Inv (Yu CX P w K mg base N qual scope f cd A outer s H E) [] (start N vs) H s1 := by
 have hpl : ps.length <= N.length := by have := congrArg List.length S.pre; rw [List.length_take] at this; omega
 obtain ⟨h1, tk, rfl, hk⟩ := x.done
 have noA : ∀ b : Addr, b ∉ (Yu CX P w K mg base N qual scope f cd A outer s H E).ex := fun b z => absurd (show b ∈ ([] : List Addr) from z) (by simp)
 refine ⟨⟨e0.mod, S.kind, rfl, rfl, Nat.le_refl _, fun y z c h1 h2 => ?_, fun y hy => ?_, fun y c _ h => ?_, fun _ => hd, Around.frames_deeper e0.frames, .inr ⟨rfl, rfl⟩, fun b z => absurd z (noA b), e0.bs, e0.bsz, fun b _ _ => noA b, fun b z => absurd z (noA b), e0.funs, e0.frf⟩,
  rfl, e0.bare, Un.kept hk, ⟨_, x.toInCall.ns, fun i y v h1 h2 h3 => ?_⟩, fun y c h => ⟨_, x.cell y c h⟩, e0.hok.fresh (Nat.le_refl _), fun y c h => ?_, fun p hp => absurd (show p ∈ ([] : List (Addr × Obj)) from hp) (by simp), e0.hok.kept hk, ?_⟩
 · exact name_of_addr x.apart (PySem.mem_of_lookup h1) (PySem.mem_of_lookup h2)
 · have hy : scope.names.lookup y = some .cell \/ scope.names.lookup y = some .free := hy
   rcases hy with hy | hy
   · exact JU hy
   · exact absurd rfl (S.nofree _ (PySem.mem_of_lookup hy))
 · exact Nat.le_of_lt (x.above y c (PySem.mem_of_lookup h))
 · have hi : i < vs.length := by
    unfold start at h2
    by_cases hi : i < vs.length
    · exact hi
    · rw [List.getElem?_append_right (by simpa using hi)] at h2
      rw [List.getElem?_replicate] at h2
      split at h2 <;> cases h2
   have ha : vs[i]? = some v := by
    unfold start at h2
    rw [List.getElem?_append_left (by simpa using hi), List.getElem?_map] at h2
    cases e : vs[i]? with
    | none => rw [e] at h2; cases h2
    | some a => rw [e] at h2; cases h2; rfl
   obtain ⟨u, hu, rv⟩ := r.get ha
   have hp : ps[i]? = some y := by
    rw [<- S.pre, List.getElem?_take_of_lt (by omega)]; exact h1
   have ndP : ps.Nodup := by rw [<- S.pre]; exact S.nd.sublist (List.take_sublist _ _)
   refine ⟨u, rv, ?_⟩
   rcases S.par y (List.mem_of_getElem? hp) with k | k
   · exact .inl ⟨k, JS ndP hp hu k⟩
   · obtain ⟨c, e⟩ := JU (n := s.heap.objs.size + 1) k
     refine .inr ⟨.inl k, c, e, ?_⟩
     have q := x.cell y c e
     rw [JT ndP hp hu (by show scope.names.lookup y ≠ _; rw [k]; decide)] at q
     exact q
 · exact e0.hok.fresh (Nat.le_of_lt (x.above y c (PySem.mem_of_lookup h)))
 · unfold start
   show _ = N.length
   rw [List.length_append, List.length_map, List.length_replicate]
   omega
theorem JV {CX : CXT} {P : Program} {w : World} {K : PySem.W.Frag} {mg : Str -> Option Value} {base : Heap} {k : Nat} {f : Addr} {name qual : Str} {params : Arguments} {body : List Stmt} {scope : Scope} {dV kV doc pm cdv ct oc : Value} {an od : Option Addr}
 {osl : Array (Option Value)} {N ps : List Str} {sp : Sp} (lk : K.lookup f = some ⟨oc, od, .func (PySem.W.fnOf name qual params body scope dV kV doc pm an cdv ct), osl⟩) (hcd : PySem.W.codeIn K cdv qual = true) (S : FnScope N ps scope)
 (len : ∀ vs H Q E, sp vs H Q E -> vs.length = ps.length)
 (hbody : ∀ (A : Around) (outer : List Env) (s : Shared) (H : Hp) (vs : List V) (Q : VK) (E : XK), Room k (A.deeper (envOfC qual scope s.heap.objs.size f cdv)) -> sp vs H Q E ->
   ∃ t, PSs (Yu CX P w K mg base N qual scope f cdv A outer s H E) body t /\ t { nx := fun _ H' => Q .non H', rt := Q } (start N vs) H) :
 FnOk P w K mg base CX (k + 1) f (PySem.W.fnOf name qual params body scope dV kV doc pm an cdv ct) ps sp := by
 refine ⟨len, fun A outer s H args us vs Q E hr e0 hb r hsp => ?_⟩
 have hl := len _ _ _ _ hsp
 have KX : K.In s.heap := e0.mod.kin.keeps fun b o e => (e0.bs b o e).1
 have lim : s.heap.NoLimit := e0.mod.nolimit.keeps fun b o e => (e0.bs b o e).1
 have hkind : ∀ y ∈ ps.zip us, scope.names.lookup y.1 = some .local \/ (scope.names.lookup y.1 = some .cell /\ ((cellsFrom (s.heap.objs.size + 1) scope.names []).lookup y.1).isSome = true) := fun ⟨n, v⟩ hy => by
  rcases S.par n (List.of_mem_zip hy).1 with q | q
  · exact .inl q
  · exact .inr ⟨q, PySem.W.cellsFrom_some _ _ _ (.inl q)⟩
 refine codeAny_call_function hr.depth (KX _ _ lk) rfl S.co S.gen rfl (PySem.W.codeRec_of KX hcd) (hb _ _ _ _ ?_)
 refine wpAny_newFunctionEnv_cells S.kind hkind fun env he s1 x => ?_
 subst he
 refine ⟨lim.keeps x.toInCall.keep, codeAny_func ?_⟩
 obtain ⟨t, ht, hq⟩ := hbody A outer s H vs Q E (hr.deeper _) hsp
 have I : Inv (Yu CX P w K mg base N qual scope f cdv A outer s H E) [] (start N vs) H s1 := ZbX S hr.hd e0 hl r x
 refine wpAny_mono (ht [] s1 (start N vs) H _ I hq) (fun fl s' hs => ?_) fun e s' hs => hs
 have fin : ∀ {σ' : St} {H' : Hp} {v : V} {u : Value}, Inv (Yu CX P w K mg base N qual scope f cdv A outer s H E) [] σ' H' s' -> RelV v u -> Q v H' -> CE outer P w H s Q u s' :=
  fun {σ' H' v u} J rv q => ⟨v, H', J.os, J.bare, J.base, J.hok, rv, q⟩
 cases fl with
 | ret u =>
  obtain ⟨v, σ', H', J, rv, q⟩ := hs
  exact fin J rv q
 | next =>
  obtain ⟨σ', H', J, q⟩ := hs
  exact fin (v := V.non) (u := Value.none) J rfl q
 | brk =>
  obtain ⟨_, _, _, q⟩ := hs
  exact False.elim q
 | cont =>
  obtain ⟨_, _, _, q⟩ := hs
  exact False.elim q
end L2
namespace L2
open PySem PySem.Spec PyProof.Rows
section
variable {X : Cx} {x : Str} {p pos : Pos} {e : Expr} {es : List Expr} {t : TA} {id T : String} {r : List V -> Hp -> VK -> Prop}
def tCB (r : List V -> Hp -> VK -> Prop) (t : TA) : TE := fun σ H Q => t σ H fun vs H1 => r vs H1 Q
theorem Z3 (hc : Ys X (.builtin id) r) (hg : Gl X x) (hm : X.mg x = none) (hv : bootBuiltins x = some (.builtin id)) (ha : PA X (e :: es) t) (hn : x ≠ "__name__" := by decide) (hdb : (x == ("__debug__" : Str)) = false := by decide)
 (he : starEach (e :: es) X.env = (false, eval e X.env) :: starEach es X.env := by rfl) (hpl : (backTo pos (starEach es X.env)).any (·.1) = false := by rfl) : PE X (.Call (.Name x p) (e :: es) [] pos) (tCB r t) := by
 intro pins s σ H Q I h
 refine wpAny_Call_Name_kw (VB I hg hm hv ?_ hn hdb)
 exact PyProof.Rows.callWith_builtin1 (thn (ha pos pins s σ H _ I h) fun us s1 ⟨vs, H1, I1, r1, q1⟩ => hc pins s1 σ H1 vs us Q I1 r1 q1) he hpl
theorem VD (hc : Ys X (.type T) r) (hg : Gl X x) (hm : X.mg x = none) (hv : bootBuiltins x = some (.type T)) (ha : PA X (e :: es) t) (hn : x ≠ "__name__" := by decide) (hdb : (x == ("__debug__" : Str)) = false := by decide)
 (he : starEach (e :: es) X.env = (false, eval e X.env) :: starEach es X.env := by rfl) (hpl : (backTo pos (starEach es X.env)).any (·.1) = false := by rfl) : PE X (.Call (.Name x p) (e :: es) [] pos) (tCB r t) := by
 intro pins s σ H Q I h
 refine wpAny_Call_Name_kw (VB I hg hm hv ?_ hn hdb)
 exact PyProof.Rows.callWith_type1 (thn (ha pos pins s σ H _ I h) fun us s1 ⟨vs, H1, I1, r1, q1⟩ => hc pins s1 σ H1 vs us Q I1 r1 q1) he hpl
end
end L2
namespace HT
open PySem PyProof.Rows
section
open PySem.SeqAt
open PySem.AutoSeq1 (wpAny_loadPart')
open PySem.MeetsSeq PySem.MeetsSeq2 PySem.MeetsSeq3
end
section
variable {prog : Program} {w : World} {A : Around} {E : Value -> Shared -> Prop} {s : Shared}
end
end HT
namespace L2
open PySem PySem.Spec PyProof.Rows
section
variable {X : Cx} {e : Expr} {te : TE} {lo hi : Option Expr} {tl th : TO} {pos p2 : Pos}
end
end L2
namespace L2
open PySem PySem.Spec PyProof.Rows
def ixN (n : Nat) (i : Int) : Option Nat := if 0 <= i then (if i < n then some i.toNat else none) else if -(n : Int) <= i then some (i + n).toNat else none
def atI {α : Type} (xs : List α) (i : Int) : Option α := (ixN xs.length i).bind fun j => xs[j]?
theorem JW {n : Nat} {i : Int} {j : Nat} (h : ixN n i = some j) : seqIndex? i n = some j /\ j < n /\ -(n : Int) <= i /\ i < n := by
 unfold ixN at h
 by_cases h0 : 0 <= i
 · rw [if_pos h0] at h
   by_cases h1 : i < n
   · rw [if_pos h1] at h
     have e : i.toNat = j := Option.some.inj h
     exact ⟨by rw [seqIndex_of h0 h1, e], by omega, by omega, h1⟩
   · rw [if_neg h1] at h; cases h
 · rw [if_neg h0] at h
   by_cases h1 : -(n : Int) <= i
   · rw [if_pos h1] at h
     have e : (i + n).toNat = j := Option.some.inj h
     exact ⟨by rw [seqIndex_neg (by omega) h1, e], by omega, h1, by omega⟩
   · rw [if_neg h1] at h; cases h
theorem Qm {α : Type} {xs : List α} {i : Int} {v : α} (h : atI xs i = some v) : ∃ j, seqIndex? i xs.length = some j /\ xs[j]? = some v /\ j < xs.length /\ -(xs.length : Int) <= i /\ i < xs.length := by
 unfold atI at h
 cases e : ixN xs.length i with
 | none => rw [e] at h; cases h
 | some j =>
  rw [e] at h
  obtain ⟨h1, h2, h3, h4⟩ := JW e
  exact ⟨j, h1, h, h2, h3, h4⟩
theorem Um {α : Type} {xs : List α} {j : Nat} {v : α} (h : xs[j]? = some v) : atI xs (j : Int) = some v := by
 have hj : j < xs.length := (List.getElem?_eq_some_iff.mp h).1
 have e : ixN xs.length (j : Int) = some j := by
  unfold ixN
  rw [if_pos (by omega), if_pos (by omega)]; simp
 unfold atI; rw [e]; exact h
def Zdi (b : Expr) : Prop := ∀ o i, subscripted b false o i = operate [o, i] (getItem o i)
def IxR (X : Cx) (r : R2) : Prop :=
 ∀ (value slice : Expr) (pins : List (Addr × Obj)) (s : Shared) (σ : St) (H : Hp) (x y : V) (v u : Value) (Q : VK), Inv X pins σ H s -> RelV x v -> RelV y u -> r x y H Q ->
  subscripted slice false v u = operate [v, u] (getItem v u) -> wpAny (model X.prog X.w) X.A (subscriptTail value slice v u) (EP X pins σ Q) X.xe s
def MtR (X : Cx) (id : String) (r : V -> List V -> Hp -> VK -> Prop) : Prop :=
 ∀ (pins : List (Addr × Obj)) (s : Shared) (σ : St) (H : Hp) (x : V) (xs : List V) (v : Value) (us : List Value) (Q : VK), Inv X pins σ H s -> RelV x v -> Vals xs us -> r x xs H Q ->
  wpAny (model X.prog X.w) X.A (call (.builtin id) (v :: us)) (EP X pins σ Q) X.xe s
section
variable {X : Cx} {a b : Expr} {ta tb : TE} {pos : Pos}
theorem IxR.or {r r' : R2} (h : IxR X r) (h' : IxR X r') : IxR X (fun x y H Q => r x y H Q \/ r' x y H Q) := by
 intro value slice pins s σ H x y v u Q I rx ry q hs
 rcases q with q | q
 · exact h value slice pins s σ H x y v u Q I rx ry q hs
 · exact h' value slice pins s σ H x y v u Q I rx ry q hs
theorem ZN {r : R2} (hr : IxR X r) (ha : PE X a ta) (hb : PE X b tb) (hs : Zdi b) : PE X (.Subscript a b pos) (tOp r ta tb) := by
 intro pins s σ H Q I h
 exact Subscript_ (Qf ha hb I h fun v u s2 x y H2 I2 rx ry q => hr a b pins s2 σ H2 x y v u Q I2 rx ry q (hs _ _))
def JX (K : PySem.W.Frag) : R2 := fun x y H Q => ∃ p xs i v, x = .ref p /\ y = .int i /\ SqL K H p xs /\ atI xs i = some v /\ Q v H
def JY (K : PySem.W.Frag) : R2 := fun x y H Q => ∃ p xs i v, x = .ref p /\ y = .int i /\ SqT K H p xs /\ atI xs i = some v /\ Q v H
def rIxS : R2 := fun x y H Q => ∃ z i c, x = .str z /\ y = .int i /\ z.length <= sizeLine /\ atI z.cps.toList i = some c /\ Q (.str ⟨#[c]⟩) H
theorem ix_list : IxR X (JX X.K) := by
 intro value slice pins s σ H x y v u Q I rx ry h hs
 obtain ⟨p, xs, i, z, rfl, rfl, hq, he, q⟩ := h
 cases rx
 obtain ⟨t, rfl⟩ := ry
 obtain ⟨its, r, pl, hz⟩ := I.list hq
 obtain ⟨j, h1, h2, h3, h4, h5⟩ := Qm he
 obtain ⟨w, ew, rw'⟩ := r.get h2
 have hl := r.length
 have hn := Vf
 have fin : EP X pins σ Q w s := ⟨z, H, I, rw', q⟩
 by_cases h0 : 0 <= i
 · have hj : i.toNat = j := by
    rw [seqIndex_of h0 h5] at h1
    exact Option.some.inj h1
   exact item_listR pl.isList h0 (by omega) (by rw [hj]; simpa using ew) fin hs
 · have hj : (i + (its.toArray.size : Int)).toNat = j := by
    rw [seqIndex_neg (by omega) h4] at h1
    rw [List.size_toArray, <- hl]
    exact Option.some.inj h1
   exact subscriptTail_builtinR (x := w) pl.isList.typeIs slot_list_getitem.lookup
    (wpAny_getItem_list_neg (Q := fun r s' => r = w /\ EP X pins σ Q r s') pl.isList (by omega) (by rw [List.size_toArray] <;> omega) (by omega) (by rw [hj]; simpa using ew) ⟨rfl, fin⟩) hs
theorem ix_tup : IxR X (JY X.K) := by
 intro value slice pins s σ H x y v u Q I rx ry h hs
 obtain ⟨p, xs, i, z, rfl, rfl, hq, he, q⟩ := h
 cases rx
 obtain ⟨t, rfl⟩ := ry
 obtain ⟨its, r, pl, hz⟩ := I.tuple hq
 obtain ⟨j, h1, h2, h3, h4, h5⟩ := Qm he
 obtain ⟨w, ew, rw'⟩ := r.get h2
 have hl := r.length
 have hn := Vf
 have fin : EP X pins σ Q w s := ⟨z, H, I, rw', q⟩
 exact subscriptTail_builtinR (x := w) pl.typeIs slot_tuple_getitem.lookup
  (getItem_tuple (j := j) (Q := fun r s' => r = w /\ EP X pins σ Q r s') pl (by omega) (by omega) (by rw [List.size_toArray, <- hl]; exact h1) (by simpa using ew) ⟨rfl, fin⟩) hs
theorem ix_str : IxR X rIxS := by
 intro value slice pins s σ H x y v u Q I rx ry h hs
 obtain ⟨z, i, c, rfl, rfl, hz, he, q⟩ := h
 obtain ⟨t, rfl⟩ := rx
 obtain ⟨t', rfl⟩ := ry
 obtain ⟨j, h1, h2, h3, h4, h5⟩ := Qm he
 have hl : z.cps.toList.length = z.length := by simp [Str.length]
 rw [hl] at h1 h4 h5
 have hn := Vf
 exact tail_any (typeIs_str s z t) slot_str_getitem.lookup (getItem_str (c := c) (by
  have e1 : decide (i < -(2 ^ 63 : Int)) = false := decide_eq_false (by omega)
  have e2 : decide (i ≥ 2 ^ 63) = false := decide_eq_false (by omega)
  rw [e1, e2, Bool.or_false]) (by rw [h1]; simpa using h2) ⟨.str ⟨#[c]⟩, H, I.tok _, ⟨_, rfl⟩, q⟩) hs
theorem Za9 (its : List Value) (n j : Nat) (u : Value) : Obj.mapSeq (·.setIfInBounds j u) { cls := .type "list", data := .seq its.toArray n } = { cls := .type "list", data := .seq (its.set j u).toArray n } := by
 simp [Obj.mapSeq]
theorem Inv.lst {pins : List (Addr × Obj)} {σ : St} {H : Hp} {s : Shared} {p : Addr} {xs : List V} (I : Inv X pins σ H s) (h : H p = some (.lst xs)) :
 ∃ (its : List Value) (n : Nat), Vals xs its /\ s.heap.get? p = some { cls := .type "list", data := .seq its.toArray n } /\ xs.length <= sizeLine := by
 obtain ⟨z, its, n, r, e⟩ := I.hok p _ h
 exact ⟨its, n, r, e, z⟩
theorem Inv.lstUpd {pins : List (Addr × Obj)} {σ : St} {H : Hp} {s : Shared} {p : Addr} {xs ys : List V} {its its' : List Value} {n n' : Nat} {f : Obj -> Obj} (I : Inv X pins σ H s) (h : H p = some (.lst xs))
 (ho : s.heap.get? p = some { cls := .type "list", data := .seq its.toArray n }) (hf : f { cls := .type "list", data := .seq its.toArray n } = { cls := .type "list", data := .seq its'.toArray n' }) (r : Vals ys its') (hz : ys.length <= sizeLine) (t : Nat) :
 Inv X pins σ (upd H p (.lst ys)) { s with heap := s.heap.update p f, toks := t } := by
 have e : (s.heap.update p f).get? p = some { cls := .type "list", data := .seq its'.toArray n' } := by
  rw [Heap.get?_update_self f ho (by rw [hf] <;> rfl), hf]
 refine I.write (x := p) (e := p) (by rw [h]; trivial) (.inl rfl) (fun b u hb q => (Heap.get?_update_other _ _ (Ne.symm hb)).trans q) ⟨_, e⟩ ?_
 exact ⟨hz, its', n', r, e⟩
def rSetL : V -> V -> V -> Hp -> (Hp -> Prop) -> Prop := fun o i v H Q => ∃ p xs k j, o = .ref p /\ i = .int k /\ H p = some (.lst xs) /\ ixN xs.length k = some j /\ Q (upd H p (.lst (xs.set j v)))
theorem JZ : Js X rSetL := by
 intro pins s σ H o i v ov iv u Q I ro ri rv h
 obtain ⟨p, xs, k, j, rfl, rfl, hp, hj, q⟩ := h
 cases ro
 obtain ⟨t, rfl⟩ := ri
 obtain ⟨its, n, r, ho, hz⟩ := I.lst hp
 obtain ⟨h1, h2, h3, h4⟩ := JW hj
 have hl := r.length
 have hn := Vf
 have I' : Inv X pins σ (upd H p (.lst (xs.set j v))) { s with heap := s.heap.update p (Obj.mapSeq (·.setIfInBounds j u)) } :=
  I.lstUpd hp ho (Za9 its n j u) (r.set rv j) (by rw [List.length_set]; exact hz) s.toks
 by_cases h0 : 0 <= k
 · have hk : k.toNat = j := by
    rw [seqIndex_of h0 h4] at h1
    exact Option.some.inj h1
   exact PySem.W.ki_setAt ho h0 (by omega) (by rw [List.size_toArray, <- hl]; exact h4) (by rw [hk]; exact ⟨_, I', q⟩)
 · have hk : (k + (its.toArray.size : Int)).toNat = j := by
    rw [seqIndex_neg (by omega) h3] at h1
    rw [List.size_toArray, <- hl]
    exact Option.some.inj h1
   exact PySem.W.ki_setBack ho (by omega) (by rw [List.size_toArray, <- hl]; exact h3) (by omega) (by rw [hk]; exact ⟨_, I', q⟩)
def Yc : V -> Bool
 | .non => true
 | .bl _ => true
 | .int _ => true
 | .str _ => true
 | _ => false
def eqV : V -> V -> Bool
 | .non, .non => true
 | .bl a, .bl b => a == b
 | .bl a, .int b => (if a then 1 else 0) == b
 | .int a, .bl b => a == (if b then 1 else 0)
 | .int a, .int b => a == b
 | .str a, .str b => a == b
 | _, _ => false
theorem Zeu {A : Around} {s : Shared} {y x : V} {u v : Value} (ry : RelV y u) (rx : RelV x v) (fy : Yc y = true) (fx : Yc x = true) : SeqAt.EqAt A s u v (eqV y x) := by
 cases y with
 | non =>
  cases ry
  cases x with
  | non => cases rx; exact SeqAt.EqAt.same _
  | bl b => cases rx; exact SeqAt.EqAt.none_bool b
  | int b => obtain ⟨t, rfl⟩ := rx; exact SeqAt.EqAt.none_int b t
  | str b => obtain ⟨t, rfl⟩ := rx; exact SeqAt.EqAt.none_str b t
  | _ => exact absurd (show false = true from fx) Bool.false_ne_true
 | bl a =>
  cases ry
  cases x with
  | non => cases rx; exact SeqAt.EqAt.bool_none a
  | bl b => cases rx; exact SeqAt.EqAt.bool_bool a b
  | int b => obtain ⟨t, rfl⟩ := rx; exact SeqAt.EqAt.bool_int a b t
  | str b => obtain ⟨t, rfl⟩ := rx; exact SeqAt.EqAt.bool_str a b t
  | _ => exact absurd (show false = true from fx) Bool.false_ne_true
 | int a =>
  obtain ⟨t', rfl⟩ := ry
  cases x with
  | non => cases rx; exact SeqAt.EqAt.int_none a t'
  | bl b => cases rx; exact SeqAt.EqAt.int_bool a t' b
  | int b => obtain ⟨t, rfl⟩ := rx; exact SeqAt.EqAt.int_int a t' b t
  | str b => obtain ⟨t, rfl⟩ := rx; exact SeqAt.EqAt.int_str a t' b t
  | _ => exact absurd (show false = true from fx) Bool.false_ne_true
 | str a =>
  obtain ⟨t', rfl⟩ := ry
  cases x with
  | non => cases rx; exact SeqAt.EqAt.str_none a t'
  | bl b => cases rx; exact SeqAt.EqAt.str_bool a t' b
  | int b => obtain ⟨t, rfl⟩ := rx; exact SeqAt.EqAt.str_int a t' b t
  | str b => obtain ⟨t, rfl⟩ := rx; exact SeqAt.EqAt.str_str a t' b t
  | _ => exact absurd (show false = true from fx) Bool.false_ne_true
 | _ => exact absurd (show false = true from fy) Bool.false_ne_true
def eqU (x : V) (u : Value) : Bool := match u with
 | .none => eqV .non x
 | .bool b => eqV (.bl b) x
 | .int i _ => eqV (.int i) x
 | .str z _ => eqV (.str z) x
 | _ => false
theorem Qn {x y : V} {u : Value} (r : RelV y u) (f : Yc y = true) : eqU x u = eqV y x := by
 cases y with
 | non => cases r; rfl
 | bl b => cases r; rfl
 | int i => obtain ⟨t, rfl⟩ := r; rfl
 | str z => obtain ⟨t, rfl⟩ := r; rfl
 | _ => exact absurd (show false = true from f) Bool.false_ne_true
theorem Qo {x : V} : ∀ {xs : List V} {us : List Value}, Vals xs us -> xs.all Yc = true -> us.any (eqU x) = xs.any fun y => eqV y x
 | _, _, .nil, _ => rfl
 | y :: xs, u :: us, .cons r t, f => by
  rw [List.all_cons, Bool.and_eq_true] at f
  rw [List.any_cons, List.any_cons, Qn r f.1, Qo t f.2]
theorem VH {A : Around} {s : Shared} {x : V} {v : Value} (rx : RelV x v) (fx : Yc x = true) : ∀ {xs : List V} {us : List Value}, Vals xs us -> xs.all Yc = true -> ∀ u ∈ us, SeqAt.EqAt A s u v (eqU x u)
 | _, _, .nil, _ => fun u hu => by cases hu
 | y :: xs, u :: us, .cons r t, f => fun u' hu => by
  rw [List.all_cons, Bool.and_eq_true] at f
  rcases List.mem_cons.mp hu with rfl | hu
  · rw [Qn r f.1]; exact Zeu r rx f.1 fx
  · exact VH rx fx t f.2 u' hu
def inV (x : V) (xs : List V) : Bool := xs.any fun y => eqV y x
def rIn (K : PySem.W.Frag) (neg : Bool) : R2 := fun x y H Q => ∃ p xs, y = .ref p /\ (SqL K H p xs \/ SqT K H p xs) /\ Yc x = true /\ xs.all Yc = true /\ Q (.bl (if neg then !inV x xs else inV x xs)) H
theorem ZbY : OpR X (compareOp .In) (rIn X.K false) := by
 intro pins s σ H x y v u Q I rx ry h
 obtain ⟨p, xs, rfl, hq, fx, fs, q⟩ := h
 cases ry
 rcases hq with hq | hq
 · obtain ⟨its, r, pl, hz⟩ := I.list hq
   refine SeqAt.in_listAt (eqU x) pl.isList (fun w hw => VH rx fx r fs w (by simpa using hw)) ⟨.bl _, H, I, rfl, ?_⟩
   rw [show its.toArray.any (eqU x) = its.any (eqU x) by simp, Qo r fs]
   exact q
 · obtain ⟨its, r, pl, hz⟩ := I.tuple hq
   refine SeqAt.in_tupleAt (eqU x) pl (fun w hw => VH rx fx r fs w (by simpa using hw)) ⟨.bl _, H, I, rfl, ?_⟩
   rw [show its.toArray.any (eqU x) = its.any (eqU x) by simp, Qo r fs]
   exact q
theorem Zay : Ys X (.builtin "len") (fun xs H Q => ∃ p ys, xs = [.ref p] /\ (SqL X.K H p ys \/ SqT X.K H p ys) /\ Q (.int ys.length) H) := by
 intro pins s σ H xs us Q I r h
 obtain ⟨p, ys, rfl, hq, q⟩ := h
 obtain ⟨u, rfl, rx⟩ := Xf r
 cases rx
 have hn := Vf
 rcases hq with hq | hq
 · obtain ⟨its, r', pl, hz⟩ := I.list hq
   have hlen := r'.length
   exact Calls.call_len_list pl.isList (by simp only [List.size_toArray] <;> omega) ⟨.int ys.length, H, I.tok _, ⟨s.toks + 1, by rw [List.size_toArray, hlen]⟩, q⟩
 · obtain ⟨its, r', pl, hz⟩ := I.tuple hq
   have hlen := r'.length
   exact len_tuple pl (by simp only [List.size_toArray] <;> omega) ⟨.int ys.length, H, I.tok _, ⟨s.toks + 1, by rw [List.size_toArray, hlen]⟩, q⟩
theorem Zaz : Ys X (.builtin "len") (fun xs H Q => ∃ z, xs = [.str z] /\ z.length <= sizeLine /\ Q (.int z.length) H) := by
 intro pins s σ H xs us Q I r h
 obtain ⟨z, rfl, hz, q⟩ := h
 obtain ⟨u, rfl, t, rfl⟩ := Xf r
 have hn := Vf
 exact len_str (by omega) ⟨.int z.length, H, I.tok _, ⟨_, rfl⟩, q⟩
theorem Zah : Ys X (.type "tuple") (fun xs H Q => ∃ p ys, xs = [.ref p] /\ ((SqL X.K H p ys /\ ∀ l, H l = none -> Q (.ref l) (upd H l (.tup ys))) \/ (SqT X.K H p ys /\ Q (.ref p) H))) := by
 intro pins s σ H xs us Q I r h
 obtain ⟨p, ys, rfl, h⟩ := h
 obtain ⟨u, rfl, rx⟩ := Xf r
 cases rx
 rcases h with ⟨hq, q⟩ | ⟨hq, q⟩
 · obtain ⟨its, r', pl, hz⟩ := I.list hq
   have hlen := r'.length
   refine call_tuple_list pl.isList (fun h' kp => ?_) (by simp only [List.size_toArray] <;> omega)
   have I1 : Inv X pins σ H { s with heap := h' } := I.kept (t' := s.toks) kp
   have I2 : Inv X pins σ (upd H h'.objs.size (.tup ys)) { s with heap := h'.push { cls := .type "tuple", data := .seq its.toArray } } :=
    I1.laid (t' := s.toks) (fun b o e => Heap.get?_push_of_some _ e) (Nat.le_refl _) (show ObjOk X.prog X.w _ _ _ (.tup ys) from ⟨hz, its, r', TupN.new _ _⟩)
   exact ⟨.ref h'.objs.size, _, I2, rfl, q _ (I1.hok.fresh (Nat.le_refl _))⟩
 · obtain ⟨its, r', pl, hz⟩ := I.tuple hq
   exact call_tuple_same pl ⟨.ref p, H, I, rfl, q⟩
def tyV (K : PySem.W.Frag) (T : String) (x : V) (H : Hp) : Prop := match x with
 | .str _ => T = "str"
 | .int _ => T = "int"
 | .ref p => (T = "list" /\ ∃ xs, SqL K H p xs) \/ (T = "tuple" /\ ∃ o, K.lookup p = some o /\ o.cls = .type "tuple" /\ o.dict = none) \/
  (T = "dict" /\ ((∃ kvs, H p = some (.dK kvs)) \/ ∃ kvs, H p = some (.dT kvs))) \/ (T = "set" /\ ∃ S n, H p = some (.set S n)) \/ (T = "tuple" /\ ∃ xs, H p = some (.tup xs))
 | _ => False
theorem Zev {pins : List (Addr × Obj)} {σ : St} {H : Hp} {s : Shared} {T : String} {x : V} {v : Value} (I : Inv X pins σ H s) (r : RelV x v) (ty : tyV X.K T x H) :
 s.TypeIs v T /\ ∀ a, v = .ref a -> ∃ ob, s.heap.get? a = some ob /\ ob.dict = none := by
 cases x with
 | str z =>
  obtain ⟨t, rfl⟩ := r
  cases (show T = "str" from ty)
  exact ⟨typeIs_str s z t, fun _ e => nomatch e⟩
 | int i =>
  obtain ⟨t, rfl⟩ := r
  cases (show T = "int" from ty)
  exact ⟨typeIs_int s i t, fun _ e => nomatch e⟩
 | ref p =>
  cases r
  rcases ty with ⟨rfl, xs, hq⟩ | ⟨rfl, o, hk, hc, hd⟩ | ⟨rfl, hk⟩ | ⟨rfl, S, n, hk⟩ | ⟨rfl, xs, hk⟩
  · obtain ⟨its, _, pl, _⟩ := I.list hq
    refine ⟨pl.isList.typeIs, fun a e => ?_⟩
    cases e
    obtain ⟨o, n, e, c, hd, _⟩ := pl
    exact ⟨o, e, hd⟩
  · refine ⟨⟨o, I.kIn p o hk, hc⟩, fun a e => ?_⟩
    cases e
    exact ⟨o, I.kIn _ o hk, hd⟩
  · have z : ∃ o, s.heap.get? p = some o /\ o.ExactDict := by
     rcases hk with ⟨kvs, hk⟩ | ⟨kvs, hk⟩
     · obtain ⟨_, _, _, _, o, _, _, e, ex, _⟩ := I.hok p _ hk
       exact ⟨o, e, ex⟩
     · obtain ⟨_, _, _, _, o, _, _, e, ex, _⟩ := I.hok p _ hk
       exact ⟨o, e, ex⟩
    obtain ⟨o, e, ex⟩ := z
    refine ⟨⟨o, e, ex.1⟩, fun a e2 => ?_⟩
    cases e2
    exact ⟨o, e, ex.2.1⟩
  · obtain ⟨o, _, _, _, e, ex, _⟩ := I.hok p _ hk
    refine ⟨⟨o, e, ex.1⟩, fun a e2 => ?_⟩
    cases e2
    exact ⟨o, e, ex.2.1⟩
  · obtain ⟨_, its, _, o, e, c, _, dn⟩ := (show ObjOk X.prog X.w H s.heap p (.tup xs) from I.hok p _ hk)
    refine ⟨⟨o, e, c⟩, fun a e2 => ?_⟩
    cases e2
    exact ⟨o, e, dn⟩
 | _ => exact False.elim ty
def tBM (K : PySem.W.Frag) (T : String) (r : V -> List V -> Hp -> VK -> Prop) (to : TE) (t : TA) : TE := fun σ H Q => to σ H fun x H1 => tyV K T x H1 /\ t σ H1 fun xs H2 => r x xs H2 Q
variable {o e : Expr} {es : List Expr} {to : TE} {t : TA} {name : Str} {apos cpos : Pos} {T id : String} {r : V -> List V -> Hp -> VK -> Prop}
theorem Ze6 (pa : PlainAttrs T) (slot : Slot T name id) (hty : typeOf (.builtin id) = pure (.type "method_descriptor")) (hm : MtR X id r) (ho : PE X o to) (ha : PA X (e :: es) t)
 (hbase : attributeBase o name X.env (eval o X.env) = eval o X.env := by rfl)
 (hfew : ((backTo cpos (starEach (e :: es) X.env)).all (fun x => !x.1) && (backToKw cpos (keywordEach [] X.env)).all (fun x => x.1.isSome)
   && decide ((e :: es).length + ([] : List Keyword).length + (if ([] : List Keyword).isEmpty then 0 else 1) < 30)) = true := by rfl)
 (hline : (apos.endLine == cpos.line) = true := by rfl) (hs : starEach (e :: es) X.env = (false, eval e X.env) :: starEach es X.env := by rfl) (hplain : (backTo cpos (starEach es X.env)).any (·.1) = false := by rfl) :
 PE X (.Call (.Attribute o name apos) (e :: es) [] cpos) (tBM X.K T r to t) := by
 intro pins s σ H Q I h
 refine wpAny_Call_method_late hbase hfew hline rfl (thn (ho pins s σ H _ I h) fun v s1 ⟨x, H1, I1, r1, ty, q1⟩ => ?_)
 obtain ⟨h1, h2⟩ := Zev I1 r1 ty
 refine ⟨T, id, pa, slot, hty, h1, h2, ?_⟩
 have hA := ha cpos pins s1 σ H1 _ I1 q1
 rw [hs] at hA ⊢
 refine Calls.callWith_builtin (by show (false || (backTo cpos (starEach es X.env)).any (·.1)) = false; rw [hplain] <;> rfl) (Calls.evalArgs_plain ?_)
 exact thn hA fun us s2 ⟨vs, H2, I2, r2, q2⟩ => hm pins s2 σ H2 x vs v us Q I2 r1 r2 q2
end
end L2
namespace L2
open PySem PySem.Spec PyProof.Rows
def MtM (X : Cx) (id : String) (r : V -> List V -> Hp -> VK -> Prop) : Prop :=
 ∀ (pins : List (Addr × Obj)) (s : Shared) (σ : St) (H : Hp) (x : V) (xs : List V) (v : Value) (us : List Value) (Q : VK), Inv X pins σ H s -> RelV x v -> Vals xs us -> r x xs H Q ->
  wpAny (model X.prog X.w) X.A (call (.builtin id) (v :: us)) (EP X pins σ Q) X.xe s
theorem Vals.one : ∀ {x : V} {us : List Value}, Vals [x] us -> ∃ u, us = [u] /\ RelV x u
 | _, _, .cons r .nil => ⟨_, rfl, r⟩
theorem Vals.rep {xs : List V} {us : List Value} (h : Vals xs us) : ∀ k : Nat, Vals (List.replicate k xs).flatten (List.replicate k us).flatten
 | 0 => .nil
 | k + 1 => by
  rw [List.replicate_succ, List.replicate_succ, List.flatten_cons, List.flatten_cons]
  exact Vals.append h (Vals.rep h k)
theorem J0 (its : List Value) : ∀ (k : Nat) (acc : List Value),
 List.foldl (fun x1 x2 => x1 ++ x2) acc.toArray (List.replicate k its.toArray) = (acc ++ (List.replicate k its).flatten).toArray
 | 0, acc => by simp
 | k + 1, acc => by
  have e : acc.toArray ++ its.toArray = (acc ++ its).toArray := by simp
  have e2 : (acc ++ its) ++ (List.replicate k its).flatten = acc ++ (List.replicate (k + 1) its).flatten := by
   rw [List.replicate_succ, List.flatten_cons, List.append_assoc]
  rw [<- e2, <- J0 its k (acc ++ its), <- e, List.replicate_succ, List.foldl_cons]
section
variable {X : Cx} {pins : List (Addr × Obj)} {σ : St} {H : Hp} {s : Shared} {l b : Addr} {xs ys zs : List V}
theorem Inv.lset {its its' : List Value} {n : Nat} {f : Array Value -> Array Value} {t' : Nat} (I : Inv X pins σ H s) (hH : H l = some (.lst xs))
 (e : s.heap.get? l = some { cls := .type "list", data := .seq its.toArray n }) (hf : f its.toArray = its'.toArray) (hv : Vals ys its') (hz : ys.length <= sizeLine) :
 Inv X pins σ (upd H l (.lst ys)) { s with heap := s.heap.update l (Obj.mapSeq f), toks := t' } := by
 have q := PySem.IsL.update e f
 rw [hf] at q
 refine I.write (x := l) (e := l) (by rw [hH]; exact trivial) (.inl rfl) (fun b' u hb hu => (Heap.get?_update_other s.heap (Obj.mapSeq f) (Ne.symm hb)).trans hu) ⟨_, q⟩ ?_
 exact ⟨hz, its', _, hv, q⟩
theorem Inv.lnew {its : List Value} {t' : Nat} (I : Inv X pins σ H s) (hv : Vals ys its) (hz : ys.length <= sizeLine) :
 Inv X pins σ (upd H s.heap.objs.size (.lst ys)) { s with heap := s.heap.push { cls := .type "list", data := .seq its.toArray }, toks := t' } :=
 I.laid (fun _ _ q => Heap.get?_push_of_some _ q) (Nat.le_refl _) ⟨hz, its, 0, hv, Heap.get?_push_size _ rfl⟩
theorem Inv.fresh (I : Inv X pins σ H s) : H s.heap.objs.size = none := I.hok.fresh (Nat.le_refl _)
theorem Inv.lstM (I : Inv X pins σ H s) (hH : H l = some (.lst xs)) : xs.length <= sizeLine /\ ∃ (its : List Value) (n : Nat), Vals xs its /\ xs.length = its.length /\ s.heap.get? l = some { cls := .type "list", data := .seq its.toArray n } := by
 obtain ⟨z, its, n, r, e⟩ := I.hok l _ hH
 exact ⟨z, its, n, r, r.length, e⟩
theorem Zcm {n : Nat} (h : n <= sizeLine) : Builtin.List.listTooLong n = false := by
 unfold Builtin.List.listTooLong
 exact decide_eq_false (by omega)
end
section
variable {X : Cx}
def rAppend : V -> List V -> Hp -> VK -> Prop := fun x vs H Q => ∃ l xs y, x = .ref l /\ vs = [y] /\ H l = some (.lst xs) /\ xs.length < sizeLine /\ Q .non (upd H l (.lst (xs ++ [y])))
theorem Uo : MtM X "list.append" rAppend := by
 intro pins s σ H x vs v us Q I rx rv h
 obtain ⟨l, xs, y, rfl, rfl, hH, hz, q⟩ := h
 cases rx
 obtain ⟨u, rfl, ru⟩ := rv.one
 obtain ⟨z, its, n, r, hl, e⟩ := I.lstM hH
 refine call_meets F.slot_list_append ⟨_, e, rfl⟩ F.entry_list_append (F.args_list_append_2 _ _) (PySem.list_append l its.toArray n u (by rw [List.size_toArray]; omega)) ⟨e, ?_⟩
 refine ⟨.non, _, I.lset (its' := its ++ [u]) hH e (by simp) (r.append (.cons ru .nil)) ?_, rfl, q⟩
 rw [List.length_append, List.length_singleton]
 omega
def Zf4 : R2 := fun x y H Q => ∃ l b xs zs, x = .ref l /\ y = .ref b /\ H l = some (.lst xs) /\ H b = some (.lst zs) /\ xs.length + zs.length <= sizeLine /\ ∀ p, H p = none -> Q (.ref p) (upd H p (.lst (xs ++ zs)))
theorem Zdj {α : Type} (xs : List α) (k : Nat) : (List.replicate k xs).flatten.length = k * xs.length := by
 induction k with
 | zero => simp
 | succ k ih => rw [List.replicate_succ, List.flatten_cons, List.length_append, ih, Nat.succ_mul, Nat.add_comm]
end
section
variable {prog : Program} {w : World} {A : Around} {E : Value -> Shared -> Prop} {s : Shared}
set_option maxRecDepth 100000 in
end
section
variable {X : Cx}
end
end L2
namespace Att
open PySem PySem.W PySem.Calls PyProof.Rows
theorem Zae {P : Params} {h : Heap} : ∀ (ns : List Int) (vs : List Value), WellAll P h vs (ns.map WData.int) -> IntsAre vs ns := by
 intro ns
 induction ns with
 | nil =>
  intro vs w
  rw [List.map_nil] at w
  cases w
  exact .nil
 | cons n ns ih =>
  intro vs w
  rw [List.map_cons] at w
  cases w with
  | cons a b =>
   cases a
   exact .cons _ _ (ih _ b)
theorem ZbZ {l : OpenLaw} {n : Nat} (hn : l.most = some n) {P : Params} {h : Heap} {args : List WData} {vals : List Value}
 (hpre : l.row.toRowW.claim.pre args = true) (hwl : WellAll P h vals args) :
 ∃ a vs ns, vals = [Value.ref a] /\ args = [WData.list (ns.map WData.int)] /\ h.get? a = some { cls := .type "list", data := .seq vs.toArray } /\ IntsAre vs ns /\ ns.length <= n := by
 have hsh : WShape.hasAll [] args [.list .int] = true := (pre_splitW hpre).1
 have hc : l.pre.holds [] { args := args } = true := (pre_splitW hpre).2
 obtain ⟨d, r, rfl, h1, h2⟩ := hasAllW_cons hsh
 obtain rfl := hasAllW_nil h2
 obtain ⟨xs, rfl, h3⟩ := hasW_list h1
 obtain ⟨ns, rfl⟩ := items_int h3
 have hlen : ns.length <= n := by
  unfold OpenLaw.pre at hc
  have h4 : (WTm.not (.lt (.lit (.int (n : Int))) (.len (.arg 0)))).holds [] { args := [.list (ns.map .int)] } = true := by
   have h4 := (holds_andW hc).1
   rw [hn] at h4
   exact h4
  have h5 := condW_of h4 (w_not (w_lt w_lit (w_len_list (w_arg rfl))))
  rw [List.length_map] at h5
  refine Nat.le_of_not_lt fun q => ?_
  have q' : (n : Int) < ((ns.length : Nat) : Int) := by omega
  first
   | (rw [decide_eq_true q'] at h5; exact absurd h5 (by decide))
   | (simp at h5; omega)
 cases hwl with
 | cons w1 w2 =>
  cases w2
  cases w1 with
  | list ho hall => exact ⟨_, _, ns, rfl, rfl, ho, Zae ns _ hall, hlen⟩
theorem Zb0 (l : OpenLaw) (args : List WData) : l.row.toRowW.claim.post args (.bool true) args = true :=
 postW_of (r := l.row.toRowW) (X := (true == true))
  (show WShape.has [] (.bool true) .bool = true by first | rfl | decide | simp [WShape.has, WShape.arms, WShape.armsAll])
  (show (WTm.eq .res (.lit (.bool true))).value [] { args := args, res := some (.bool true), after := args } = some (.bool (true == true)) from w_eq_bool (w_res rfl) w_lit) rfl
theorem attach_call {l : OpenLaw} {n : Nat} {q : Program} {loose : List Str} {XP : (Str -> Option Value) -> Heap -> Prop} {YP : World -> Heap -> Prop} {d : DefRec}
 (hn : l.most = some n) (hdf : d.params.defaults = [])
 (call : ∀ (w : World) (s₀ s₁ : Shared) (mg mb : Str -> Option Value) (fa : Addr) (o : Obj) (pm cd doc : Value) (a : Addr) (vs : List Value) (ns : List Int),
   Ground q loose [] XP w s₀ mg mb s₁.heap -> YP w s₁.heap ->
   s₁.heap.get? fa = some o -> o.data = .func (docDef d.name d.params d.body d.scope pm cd doc) -> s₁.heap.CodeRec cd d.name -> mg d.name = some (.ref fa) ->
   s₁.heap.get? a = some { cls := .type "list", data := .seq vs.toArray } -> IntsAre vs ns -> ns.length <= n -> s₁.gens = #[] ->
   codeAny (model l.prog w) callerA (.call (.ref fa) ⟨[.ref a], []⟩) (fun r s' => r = .ok (.ret (.bool true)) /\ OldK s₁.heap s'.heap /\ s'.os = s₁.os /\ AllBare s'.gens) s₁) :
 WalkO q loose XP YP l.row.toRowW d [] (fun f vs => PySem.call f vs) := by
 intro w s₀ s₁ mg mb G Y fa o pm cd doc dV kV ho hd hcd hD hmg hg args vals as hpre hlay hrd hwl hlo
 obtain rfl : dV = .none := Dflts.none hD hdf
 obtain rfl : kV = .none := Dflts.noKw hD
 obtain ⟨a, vs, ns, rfl, rfl, hobj, hints, hlen⟩ := ZbZ hn hpre hwl
 refine enter_call (codeAny_mono (call w s₀ s₁ mg mb fa o pm cd doc a vs ns G Y ho (fd_plain hd) hcd hmg hobj hints hlen hg) fun r s' hq => ?_)
 obtain ⟨rfl, h2, h3, h4⟩ := hq
 exact ⟨.inl ⟨.bool true, .bool true, [], rfl, fun _ => rfl, .bool true, Zb0 l _, fun _ => ⟨List.Pairwise.nil, fun _ hm => (nomatch hm)⟩⟩, h2, h3, h4⟩
section
variable {prog : Program} {w : World} {A : Around} {E : Value -> Shared -> Prop} {s : Shared} {K : Frag}
end
end Att
namespace L2
open PySem PySem.Spec PyProof.Rows
theorem J4 : ∀ {vs : List Value} {ns : List Int}, IntsAre vs ns -> Vals (ns.map V.int) vs
 | _, _, .nil => .nil
 | _, _, .cons n t h => .cons ⟨t, rfl⟩ (J4 h)
def Qp (H : Hp) : Prop := ∀ b, H b = none \/ ∃ o xs, H b = some (.frz o (.lst xs))
theorem Zcn {P : Program} {w : World} {K : PySem.W.Frag} {mg mb : Str -> Option Value} {CX : CXT} {k : Nat} {fa a : Addr} {fd : FuncData} {x : Str} {sp : Sp} {s₁ : Shared} {vs : List Value} {ns : List Int}
 (KX : K.In s₁.heap) (hns : s₁.heap.Ns mainGlobals mg) (hb : s₁.heap.Ns builtinsNs mb) (hbb : ∀ x : Str, x ≠ "__name__" -> mb x = bootBuiltins x) (hlim : s₁.heap.NoLimit) (hg : s₁.gens = #[])
 (ha : s₁.heap.get? a = some { cls := .type "list", data := .seq vs.toArray }) (hi : IntsAre vs ns) (hl : ns.length <= sizeLine) (hr : Room k callerA)
 (F : ∀ base : Heap, K.In base -> base.Ns mainGlobals mg -> FnOk P w K mg base CX k fa fd [x] sp) (hbind : ∀ (s : Shared) (u : Value), BindsTo s fd ⟨[u], []⟩ [(x, u)])
 (hsp : ∀ H : Hp, Qp H -> SqL K H a (ns.map V.int) -> sp [.ref a] H (fun v _ => v = .bl true) fun _ _ _ => False)
 (hCX : ∀ H e s', CX [] H s₁ (fun _ _ _ => False) e s' -> False) :
 codeAny (model P w) callerA (.call (.ref fa) ⟨[.ref a], []⟩) (fun r s' => r = .ok (.ret (.bool true)) /\ OldK s₁.heap s'.heap /\ s'.os = s₁.os /\ AllBare s'.gens) s₁ := by
 have rv := J4 hi
 have lenV := hi.length
 have core : ∀ H : Hp, Qp H -> SqL K H a (ns.map V.int) -> HOk P w H s₁.heap -> (∀ b, H b ≠ none -> b = a) -> (H a ≠ none -> K.lookup a = none) ->
  codeAny (model P w) callerA (.call (.ref fa) ⟨[.ref a], []⟩) (fun r s' => r = .ok (.ret (.bool true)) /\ OldK s₁.heap s'.heap /\ s'.os = s₁.os /\ AllBare s'.gens) s₁ := by
  intro H hO hS hok hA hK
  have base_of : ∀ {b : Addr} {o : Obj}, s₁.heap.get? b = some o -> H b = none -> (Xb s₁.heap H).get? b = some o := fun e n => Zch e n
  have noA : ∀ {b : Addr} {o : Obj} {es : Array DictEntry} {ep : Nat}, s₁.heap.get? b = some o -> o.data = .dict es ep -> H b = none := fun {b o es ep} e d => by
   cases q : H b with
   | none => rfl
   | some u =>
    have e' : b = a := hA b (by rw [q]; simp)
    subst e'
    rw [ha] at e; cases e
    have d' : Data.seq vs.toArray _ = Data.dict es ep := d
    cases d'
  have nsK : ∀ {b : Addr} {m : Str -> Option Value}, s₁.heap.Ns b m -> (Xb s₁.heap H).Ns b m := fun {b m} ⟨o, es, ep, e, d, r⟩ => ⟨o, es, ep, base_of e (noA e d), d, r⟩
  have hKb : K.In (Xb s₁.heap H) := fun b o e => base_of (KX b o e) (by
   cases q : H b with
   | none => rfl
   | some u =>
    have e' : b = a := hA b (by rw [q]; simp)
    subst e'
    rw [hK (by rw [q]; simp)] at e; cases e)
  have hM : Mod K mg (Xb s₁.heap H) := ⟨hKb, nsK hns, ⟨mb, nsK hb, hbb⟩, let ⟨mc, h1, h2⟩ := hlim; ⟨mc, nsK h1, h2⟩⟩
  have e0 : Env0 P w K mg (Xb s₁.heap H) callerA [] s₁ H := ⟨rfl, hM, fun b o e => Zdb e, Nat.le_of_eq (ZbO _ _), trivial, fun b hb => absurd (show b ∈ ([] : List Addr) from hb) (by simp), hok, .of_eq hg⟩
  refine codeAny_mono ((F _ hKb (nsK hns)).run callerA [] s₁ H ⟨[.ref a], []⟩ [.ref a] [.ref a] _ _ hr e0 (hbind s₁ (.ref a)) (.cons rfl .nil) (hsp H hO hS)) fun r s' h => ?_
  cases r with
  | error e => exact (hCX H e s' h).elim
  | ok fl =>
   cases fl with
   | next => exact False.elim h
   | brk => exact False.elim h
   | cont => exact False.elim h
   | ret u =>
    obtain ⟨v, H', os, bare, un, hok', r', q⟩ := h
    have q' : v = .bl true := q
    subst q'
    obtain rfl : u = Value.bool true := r'
    refine ⟨rfl, OldK.of_keep fun b o e => ?_, os, bare⟩
    cases q : H b with
    | none => exact un.keep b o e q (by intro z; exact absurd (show b ∈ ([] : List Addr) from z) (by simp)) (by simp)
    | some u =>
     rcases hO b with z | ⟨ob, xs, z⟩
     · rw [q] at z; cases z
     · have z2 := un.frzs b ob _ z
       obtain ⟨e1, _⟩ := hok b _ z
       obtain ⟨e2, _⟩ := hok' b _ z2
       rw [e] at e1; cases e1
       exact e2
 cases hk : K.lookup a with
 | some o =>
  have e := KX a o hk
  rw [ha] at e
  cases e
  refine core (fun _ => none) (fun _ => .inl rfl) (.inr ⟨_, vs.toArray, _, hk, rfl, rfl, rfl, by rw [List.size_toArray, lenV]; exact hl, by simpa using rv⟩) (fun b u z => by have z' : (none : Option HO) = some u := z; cases z') (fun b z => absurd rfl z) fun z => absurd rfl z
 | none =>
  refine core (fun b => if b = a then some (.frz { cls := .type "list", data := .seq vs.toArray } (.lst (ns.map V.int))) else none) (fun b => ?_) (.inl (.inr ⟨{ cls := .type "list", data := .seq vs.toArray }, if_pos rfl⟩)) (fun b u z => ?_) (fun b z => ?_) fun _ => hk
  · by_cases hb : b = a
    · exact .inr ⟨_, _, if_pos hb⟩
    · exact .inl (if_neg hb)
  · by_cases hb : b = a
    · have z' := (if_pos hb).symm.trans z
      cases z'
      subst hb
      exact ⟨ha, by rw [List.length_map]; exact hl, vs, _, rv, ha⟩
    · have z' := (if_neg hb).symm.trans z
      cases z'
  · by_cases hb : b = a
    · exact hb
    · exact absurd (if_neg hb) z
end L2
namespace L2
open PySem PySem.Spec PyProof.Rows
theorem walk_of {l : PySem.W.OpenLaw} {n k : Nat} {q : Program} {loose : List Str} {XP : (Str -> Option Value) -> Heap -> Prop} {YP : World -> Heap -> Prop} {d : DefRec} {K : Params -> PySem.W.Frag} {CX : World -> CXT} {sp : World -> Sp} {x : Str}
 (hn : l.most = some n) (hn2 : n <= sizeLine) (hdf : d.params.defaults = []) (hr : Room k callerA)
 (hY : ∀ (w : World) (h : Heap), YP w h -> (K w.params).In h)
 (F : ∀ (w : World) (mg : Str -> Option Value) (fa : Addr) (h : Heap), (K w.params).In h -> h.Ns mainGlobals mg -> mg d.name = some (.ref fa) ->
   ∃ fd : FuncData, (∀ (s : Shared) (u : Value), BindsTo s fd ⟨[u], []⟩ [(x, u)]) /\
    ∀ base : Heap, (K w.params).In base -> base.Ns mainGlobals mg -> FnOk l.prog w (K w.params) mg base (CX w) k fa fd [x] (sp w))
 (hsp : ∀ (w : World) (H : Hp) (a : Addr) (ns : List Int), ns.length <= n -> Qp H -> SqL (K w.params) H a (ns.map V.int) -> sp w [.ref a] H (fun v _ => v = .bl true) fun _ _ _ => False)
 (hCX : ∀ (w : World) (H : Hp) (s : Shared) (e : Value) (s' : Shared), CX w [] H s (fun _ _ _ => False) e s' -> False) :
 PySem.W.WalkO q loose XP YP l.row.toRowW d [] (fun f vs => PySem.call f vs) := by
 refine Att.attach_call hn hdf fun w s₀ s₁ mg mb fa o pm cd doc a vs ns G Y ho hd hcd hmg hobj hints hlen hg => ?_
 have KX := hY w _ Y
 obtain ⟨fd, hb, hF⟩ := F w mg fa _ KX G.T.g hmg
 exact Zcn KX G.T.g G.T.b G.T.builtins G.T.nolimit hg hobj hints (Nat.le_trans hlen hn2) hr hF hb (fun H hO hS => hsp w H a ns hlen hO hS) fun H e s' => hCX w H s₁ e s'
end L2
namespace L2
open PySem PySem.Spec PyProof.Rows
def Up (s : Stmt) (j : Nat) : Stmt := match s with
 | .ClassDef _ _ _ body _ _ _ _ _ _ _ => body.getD j (.Pass ⟨0, 0, 0, 0⟩)
 | _ => .Pass ⟨0, 0, 0, 0⟩
def ZV (s : Stmt) : Arguments := match s with
 | .FunctionDef _ a _ _ _ _ _ _ _ _ => a
 | _ => { posonlyargs := [], args := [], vararg := none, kwonlyargs := [], kw_defaults := [], kwarg := none, defaults := [] }
def ZI (s : Stmt) : List Stmt := match s with
 | .FunctionDef _ _ b _ _ _ _ _ _ _ => b
 | _ => []
def Zo (s : Stmt) : Scope := match s with
 | .FunctionDef _ _ _ _ _ _ sc _ _ _ => sc
 | _ => { kind := .function, names := [], isGenerator := false, isCoroutine := false }
abbrev CX0 : CXT := fun _ _ _ _ _ _ => False
abbrev E0 : XK := fun _ _ _ => False
theorem Yd {X : Cx} : VC CX0 X E0 := fun _ _ _ _ _ _ _ h => h.elim
structure Fun (K : PySem.W.Frag) (x qual : Str) (st : Stmt) (f : Addr) (fd : FuncData) : Prop where
 ex : ∃ (oc : Value) (od : Option Addr) (kV doc pm : Value) (an : Option Addr) (cdv ct : Value) (osl : Array (Option Value)),
  fd = PySem.W.fnOf x qual (ZV st) (ZI st) (Zo st) .none kV doc pm an cdv ct /\ K.lookup f = some ⟨oc, od, .func fd, osl⟩ /\ PySem.W.codeIn K cdv qual = true
 kp : PySem.W.keepIn K (.ref f) = true
section
variable {P : Program} {w : World} {K : PySem.W.Frag} {mg : Str -> Option Value} {base : Heap}
theorem Fun.ok {x qual : Str} {st : Stmt} {f : Addr} {fd : FuncData} {N ps : List Str} {k : Nat} {sp : Sp} (F : Fun K x qual st f fd) (S : FnScope N ps (Zo st)) (len : ∀ vs H Q E, sp vs H Q E -> vs.length = ps.length)
 (hbody : ∀ (cdv : Value) (A : Around) (outer : List Env) (s : Shared) (H : Hp) (vs : List V) (Q : VK) (E : XK), Room k (A.deeper (envOfC qual (Zo st) s.heap.objs.size f cdv)) -> sp vs H Q E ->
   ∃ t, PSs (Yu CX0 P w K mg base N qual (Zo st) f cdv A outer s H E).nox (ZI st) t /\ t { nx := fun _ H' => Q .non H', rt := Q } (start N vs) H) : FnOk P w K mg base CX0 (k + 1) f fd ps sp := by
 obtain ⟨oc, od, kV, doc, pm, an, cdv, ct, osl, rfl, lk, hcd⟩ := F.ex
 refine JV lk hcd S len fun A outer s H vs Q E hr hsp => ?_
 obtain ⟨t, h, q⟩ := hbody cdv A outer s H vs Q E hr hsp
 exact ⟨t, h.nox, q⟩
theorem Fun.binds {x qual : Str} {st : Stmt} {f : Addr} {fd : FuncData} {ps : List Str} (F : Fun K x qual st f fd)
 (h : ∀ (kV doc pm : Value) (an : Option Addr) (cdv ct : Value) (us : List Value), us.length = ps.length -> bindArgs (PySem.W.fnOf x qual (ZV st) (ZI st) (Zo st) .none kV doc pm an cdv ct) ⟨us, []⟩ = pure (ps.zip us)) : Binds K fd ps [] := by
 obtain ⟨oc, od, kV, doc, pm, an, cdv, ct, osl, rfl, lk, hcd⟩ := F.ex
 exact .all (h kV doc pm an cdv ct)
theorem ZG {x qual : Str} {st : Stmt} {f : Addr} {oc : Value} {od an : Option Addr} {osl : Array (Option Value)} {kV doc pm cdv ct : Value} (l : K.lookup f = some ⟨oc, od, .func (PySem.W.fnOf x qual (ZV st) (ZI st) (Zo st) .none kV doc pm an cdv ct), osl⟩)
 (c : PySem.W.codeIn K cdv qual = true) (k : PySem.W.keepIn K (.ref f) = true) : Fun K x qual st f (PySem.W.fnOf x qual (ZV st) (ZI st) (Zo st) .none kV doc pm an cdv ct) := ⟨⟨oc, od, kV, doc, pm, an, cdv, ct, osl, rfl, l, c⟩, k⟩
end
section
variable {X : Cx}
theorem pv (i : Nat) {x : Str} {pos : Pos} (hN : X.N[i]? = some x := by rfl) (hv : Vis X.env.scope x := by first | exact Or.inl rfl | exact Or.inr (Or.inl rfl) | exact Or.inr (Or.inr rfl)) (hd : (x == ("__debug__" : Str)) = false := by decide)
 (hcd : (x == ("__classdict__" : Str)) = false := by decide) : PE X (.Name x pos) (Yq i) := Zem hN hv hd hcd
end
theorem XX {A B : Prop} (h : B) : if false = true then A else B := by
 rw [if_neg Bool.false_ne_true]
 exact h
theorem XY {A B : Prop} (h : A) : if true = true then A else B := by
 rw [if_pos rfl]
 exact h
def Same (H H' : Hp) : Prop := ∀ b o, H b = some o -> H' b = some o
theorem Same.refl (H : Hp) : Same H H := fun _ _ h => h
theorem Same.trans {H H1 H2 : Hp} (a : Same H H1) (b : Same H1 H2) : Same H H2 := fun c o h => b c o (a c o h)
theorem Same.free {H H' : Hp} (e : Same H H') {l : Addr} (h : H' l = Option.none) : H l = Option.none := by
 cases q : H l with
 | none => rfl
 | some o =>
  rw [e l o q] at h
  cases h
theorem Same.seq {K : PySem.W.Frag} {H H' : Hp} {a : Addr} {xs : List V} (e : Same H H') (h : SqL K H a xs) : SqL K H' a xs := by
 rcases h with (h | ⟨o, h⟩) | h
 · exact .inl (.inl (e _ _ h))
 · exact .inl (.inr ⟨o, e _ _ h⟩)
 · exact .inr h
end L2
namespace L2
open PySem Builtin Builtin.Str
abbrev tx (cs : List Nat) : Str := ⟨cs.toArray⟩
theorem tx_inj {a b : List Nat} : tx a = tx b ↔ a = b := by
 constructor
 · intro h
   have h2 : a.toArray = b.toArray := congrArg Str.cps h
   simpa using h2
 · rintro rfl; rfl
theorem Vh (cs : List Nat) : (tx cs).cps.toList = cs := by simp [tx]
theorem YW (cs : List Nat) : (tx cs).length = cs.length := by simp [tx, Str.length]
theorem Zew (a b : List Nat) : tx a ++ tx b = tx (a ++ b) := by
 show Str.mk (a.toArray ++ b.toArray) = Str.mk (a ++ b).toArray
 simp
def VL (n d : Nat) : Option Int -> Nat
 | none => d
 | some v => if v < 0 then (v + (n : Int)).toNat else min v.toNat n
def cutL {α : Type} (xs : List α) (lo hi : Option Int) : List α := (xs.drop (VL xs.length 0 lo)).take (VL xs.length xs.length hi - VL xs.length 0 lo)
end L2
namespace L2
open PySem Builtin Builtin.Str
def Uq (c : Nat) : Bool := decide (48 <= c) && decide (c <= 57)
def Qq (cs : List Nat) : Nat := cs.foldl (fun acc c => acc * 10 + (c - 48)) 0
theorem Qr (cs : List Nat) (c i : Nat) : StrLaws.At (tx cs) (tx [c]) (tx cs).length i ↔ cs[i]? = some c := by
 have := StrLaws.subAt_one (tx cs) c i
 rw [Vh] at this
 exact this
def Z8 (c : Nat) (cs : List Nat) : Int := match cs.findIdx? (· == c) with
 | some i => (i : Int)
 | none => -1
theorem Zdk (cs : List Nat) (c : Nat) : Txt.find (tx cs) (tx [c]) = Z8 c cs := by
 unfold Z8
 rcases PyProof.Rows.find_whole (tx cs) (tx [c]) with ⟨e, h⟩ | ⟨i, e, h, hk⟩
 · rw [e]
   have hn : cs.findIdx? (· == c) = none := by
    rw [List.findIdx?_eq_none_iff]
    intro x hx
    simp only [beq_eq_false_iff_ne]
    rintro rfl
    obtain ⟨j, hj⟩ := List.getElem?_of_mem hx
    exact h j ((Qr cs x j).mpr hj)
   rw [hn]
 · rw [e]
   have hi := (Qr cs c i).mp h
   have hs : cs.findIdx? (· == c) = some i := by
    rw [List.findIdx?_eq_some_iff_getElem]
    have hl : i < cs.length := (List.getElem?_eq_some_iff.mp hi).1
    refine ⟨hl, by simpa using (List.getElem?_eq_some_iff.mp hi).2, fun j hj => ?_⟩
    have hjl : j < cs.length := by omega
    have := hk j hj
    rw [Qr, List.getElem?_eq_getElem hjl] at this
    simpa using this
   rw [hs]
end L2
namespace L2
open PySem PySem.Spec PyProof.Rows
section
variable {prog : Program} {w : World} {A : Around} {R : Result -> Shared -> Prop} {s : Shared}
theorem ZaA {elt target iter : Expr} {ifs : List Expr} {scope : Scope} {pos : Pos} {it acc : Value} {env : Env} (I : Nat -> Shared -> Prop)
 (turn : ∀ n s, I n s -> wpAny (model prog w) A (pyNext it) (fun r s₁ => match r with
   | none => R (.ok .next) s₁
   | some v => wpAny (model prog w) A (letOwnedTupleGo target it v) (fun _ s₀ => wpAny (model prog w) A (assign target env v) (fun _ s₂ =>
    wpAny (model prog w) A (forIn ifs true fun c r => if r = true then do let ok <- isTrue c env (eval c env); pure (ForInStep.yield ok) else pure (ForInStep.yield r)) (fun ok s₃ =>
     if ok = true then wpAny (model prog w) A (eval elt env) (fun x s₄ =>
      wpAny (model prog w) A (call (.builtin "list.append") [acc, x]) (fun _ s₅ => ∃ m, m < n /\ I m s₅) (notedBy (model prog w) A env fun e s' => R (.error e) s') s₄) (notedBy (model prog w) A env fun e s' => R (.error e) s') s₃
     else ∃ m, m < n /\ I m s₃) (notedBy (model prog w) A env fun e s' => R (.error e) s') s₂) (notedBy (model prog w) A env fun e s' => R (.error e) s') s₀) (notedBy (model prog w) A env fun e s' => R (.error e) s') s₁) (notedBy (model prog w) A env fun e s' => R (.error e) s') s)
 (n : Nat) (h : I n s) :
 codeAny (model prog w) A (.compLoop (.ListComp elt [⟨target, iter, ifs, 0⟩] scope pos) 0 it acc env) R s := by
 refine codeAny_loop rfl I (fun n s hI => ?_) n h
 show wpAny _ A ((compTurn (.ListComp elt [⟨target, iter, ifs, 0⟩] scope pos) 0 it acc env).onRaise (fun x => do noteFrame x env; theTreesLotGoes x)) _ _ s
 refine wpAny_noted ?_
 rw [compTurn_list]
 refine wpAny_bind (wpAny_standAt (wpAny_bind (wpAny_mono (turn n s hI) (fun r s₁ h₁ => ?_) fun _ _ h' => h')))
 cases r with
 | none => exact wpAny_pure h₁
 | some v =>
  refine wpAny_bind (wpAny_mono h₁ (fun _ s₀ h₀ => ?_) fun _ _ h' => h')
  refine wpAny_bind (wpAny_mono h₀ (fun _ s₂ h₂ => wpAny_bind (wpAny_mono h₂ (fun ok s₃ h₃ => ?_) fun _ _ h' => h')) fun _ _ h' => h')
  cases ok with
  | false => exact wpAny_pure ⟨rfl, h₃⟩
  | true =>
   exact wpAny_bind (wpAny_bind (wpAny_mono h₃ (fun x s₄ h₄ => wpAny_bind (wpAny_mono h₄ (fun _ s₅ h₅ => wpAny_pure (wpAny_pure ⟨rfl, h₅⟩)) fun _ _ h' => h')) fun _ _ h' => h'))
end
def Ye (cells : List (Str × Addr)) : List (Str × NameKind) -> List (Str × Addr) -> List (Str × Addr)
 | [], acc => acc
 | (n, k) :: r, acc => Ye cells r (if (k == .free) = true then (n, (cells.lookup n).getD 0) :: acc else acc)
theorem Qs {env : Env} : ∀ (names : List (Str × NameKind)) (acc : List (Str × Addr)), (∀ x ∈ names, x.2 = .free -> ∃ c, env.cells.lookup x.1 = some c) ->
 (forIn names acc fun (x : Str × NameKind) (r : List (Str × Addr)) => match x with
   | (name, kind) => if (kind == .free) = true then (do let c <- cellOf env name; pure (ForInStep.yield ((name, c) :: r))) else pure (ForInStep.yield r)) = (pure (Ye env.cells names acc) : Sem _)
 | [], acc, _ => rfl
 | (n, k) :: r, acc, h => by
  rw [List.forIn_cons]
  show ((if (k == .free) = true then (do let c <- cellOf env n; pure (ForInStep.yield ((n, c) :: acc))) else pure (ForInStep.yield acc)) >>= _) = _
  by_cases hk : (k == .free) = true
  · obtain ⟨c, hc⟩ := h (n, k) List.mem_cons_self (by simpa using hk)
    have e : cellOf env n = pure c := by
     unfold cellOf
     rw [hc]
    rw [if_pos hk, e]
    show (forIn r ((n, c) :: acc) _ : Sem _) = _
    rw [Qs r _ fun x hx => h x (List.mem_cons_of_mem _ hx)]
    conv => rhs; unfold Ye
    rw [if_pos hk, hc]
    rfl
  · rw [if_neg hk]
    show (forIn r acc _ : Sem _) = _
    rw [Qs r _ fun x hx => h x (List.mem_cons_of_mem _ hx)]
    conv => rhs; unfold Ye
    rw [if_neg hk]
theorem Zai {scope : Scope} {env : Env} (h : ∀ x ∈ scope.names, x.2 = .free -> ∃ c, env.cells.lookup x.1 = some c) : closureFor scope env = pure (Ye env.cells scope.names []) := by
 have e := Qs (env := env) scope.names [] h
 unfold closureFor
 show ((forIn scope.names ([] : List (Str × Addr)) _ : Sem _) >>= fun cs => pure cs) = _
 have e2 : (forIn scope.names ([] : List (Str × Addr)) fun (x : Str × NameKind) (r : List (Str × Addr)) => match x with
  | (name, kind) => if (kind == .free) = true then (do let c <- cellOf env name; pure (ForInStep.yield ((name, c) :: r))) else pure (ForInStep.yield r)) = (pure (Ye env.cells scope.names []) : Sem _) := e
 rw [e2]
 rfl
theorem Xg {cells : List (Str × Addr)} {x : Str} {c : Addr} : ∀ (names : List (Str × NameKind)) (acc : List (Str × Addr)), (∀ y ∈ names, y.2 = .free -> ∃ c, cells.lookup y.1 = some c) ->
 (∀ c, acc.lookup x = some c -> cells.lookup x = some c) -> (Ye cells names acc).lookup x = some c -> cells.lookup x = some c
 | [], acc, _, ha, h => ha c h
 | (n, k) :: r, acc, hf, ha, h => by
  unfold Ye at h
  refine Xg r _ (fun y hy => hf y (List.mem_cons_of_mem _ hy)) (fun c' h' => ?_) h
  by_cases hk : (k == .free) = true
  · rw [if_pos hk] at h'
    obtain ⟨c0, hc0⟩ := hf (n, k) List.mem_cons_self (by simpa using hk)
    rw [List.lookup_cons] at h'
    cases hx : x == n with
    | true =>
     rw [hx] at h'
     have e : x = n := eq_of_beq hx
     subst e
     have h'' : (cells.lookup x).getD 0 = c' := Option.some.inj h'
     have hc0' : cells.lookup x = some c0 := hc0
     rw [hc0'] at h'' ⊢
     exact congrArg some h''
    | false =>
     rw [hx] at h'
     exact ha c' h'
  · rw [if_neg hk] at h'
    exact ha c' h'
theorem Qt {cells : List (Str × Addr)} {x : Str} : ∀ (names : List (Str × NameKind)) (acc : List (Str × Addr)), ((x, NameKind.free) ∈ names \/ ∃ c, acc.lookup x = some c) -> ∃ c, (Ye cells names acc).lookup x = some c
 | [], acc, h => by
  rcases h with h | h
  · cases h
  · exact h
 | (n, k) :: r, acc, h => by
  unfold Ye
  refine Qt r _ ?_
  rcases h with h | ⟨c, h⟩
  · rcases List.mem_cons.mp h with e | e
    · cases e
      refine .inr ⟨(cells.lookup x).getD 0, ?_⟩
      rw [if_pos (by rfl), List.lookup_cons]
      simp
    · exact .inl e
  · refine .inr ?_
    by_cases hk : (k == .free) = true
    · rw [if_pos hk, List.lookup_cons]
      cases hx : x == n with
      | true => exact ⟨_, rfl⟩
      | false => exact ⟨c, h⟩
    · rw [if_neg hk]
      exact ⟨c, h⟩
structure CompSc (X : Cx) (scope : Scope) (tn cn : List Str) (js : List Nat) : Prop where
 kind : scope.kind = .function
 nocell : ∀ y ∈ scope.names, y.2 ≠ .cell
 names : ∀ y ∈ scope.names, y.2 = .local -> scope.names.lookup y.1 = some .local
 free : ∀ y ∈ scope.names, y.2 = .free -> X.env.kindOf y.1 = some .cell \/ X.env.kindOf y.1 = some .free
 cap : ∀ (k : Nat) (x : Str), cn[k]? = some x -> ∃ j, js[k]? = some j /\ X.N[j]? = some x /\ (X.env.kindOf x = some .cell \/ X.env.kindOf x = some .free) /\ scope.names.lookup x = some .free
 len : cn.length = js.length
def J5 (onames : List (Str × NameKind)) (oN : List Str) (names : List (Str × NameKind)) (cn : List Str) (js : List Nat) : Bool :=
 names.all (fun y => !(y.2 == .cell)) && names.all (fun y => !(y.2 == .local) || (names.lookup y.1 == some .local)) &&
 names.all (fun y => !(y.2 == .free) || (onames.lookup y.1 == some .cell || onames.lookup y.1 == some .free)) &&
 ((cn.zip js).all fun p => oN[p.2]? == some p.1 && (onames.lookup p.1 == some .cell || onames.lookup p.1 == some .free) && names.lookup p.1 == some .free) && (cn.length == js.length)
theorem CompSc.mk' {X : Cx} {scope : Scope} {tn cn : List Str} {js : List Nat} {osc : Scope} {oN : List Str} (hk : scope.kind = .function) (ho : X.env.scope = osc) (hN : X.N = oN) (h : J5 osc.names oN scope.names cn js = true) : CompSc X scope tn cn js := by
 unfold J5 at h
 simp only [Bool.and_eq_true] at h
 obtain ⟨⟨⟨⟨h1, h2⟩, h3⟩, h4⟩, h5⟩ := h
 rw [List.all_eq_true] at h1 h2 h3 h4
 have hlen : cn.length = js.length := by simpa using h5
 refine ⟨hk, fun y hy => ?_, fun y hy e => ?_, fun y hy e => ?_, fun k x e => ?_, hlen⟩
 · have := h1 y hy
   simpa using this
 · have := h2 y hy
   simpa [e] using this
 · have := h3 y hy
   unfold Env.kindOf
   rw [ho]
   simpa [e] using this
 · have hkl : k < cn.length := (List.getElem?_eq_some_iff.mp e).1
   have hkj : k < js.length := by omega
   refine ⟨js[k], by simp [hkj], ?_⟩
   have hz : (x, js[k]) ∈ cn.zip js := by
    have e2 : (cn.zip js)[k]? = some (x, js[k]) := by
     rw [List.getElem?_zip_eq_some]
     exact ⟨e, by simp [hkj]⟩
    exact List.mem_of_getElem? e2
   have := h4 _ hz
   unfold Env.kindOf
   rw [ho, hN]
   simp only [Bool.and_eq_true, Bool.or_eq_true, beq_iff_eq] at this
   exact ⟨this.1.1, this.1.2, this.2⟩
def VN (σ : St) (js : List Nat) : St := js.map fun j => (σ[j]?).getD none
def blk (n : Nat) (σ : St) (js : List Nat) : St := List.replicate n none ++ VN σ js
def Vi (X : Cx) (scope : Scope) (N' : List Str) (C : Addr) (s₂ : Shared) (H₂ : Hp) (fp : List Addr) (xe : Value -> Shared -> Prop) : Cx :=
 { X with N := N', s₀ := s₂, H₀ := H₂, env := compEnvC scope (Ye X.env.cells scope.names []) C X.env, outer := X.stack, ex := fp, fn := fun _ => false, pn := [], xe := xe }
section
variable {X : Cx} {pins : List (Addr × Obj)} {σ : St} {H₂ : Hp} {s₂ : Shared} {scope : Scope} {tn cn : List Str} {js : List Nat}
theorem CompSc.clos (S : CompSc X scope tn cn js) (ok : X.Ok) : ∀ y ∈ scope.names, y.2 = .free -> ∃ c, X.env.cells.lookup y.1 = some c := fun y hy e => ok.has y.1 (S.free y hy e)
theorem Qv {env : Env} : ∀ {names : List (Str × NameKind)} {x : Str} {k : NameKind}, (names.map fun (n, k) => if (k == NameKind.free && env.scope.kind == .function && env.kindOf n == some .cell) then (n, NameKind.cell) else (n, k)).lookup x = some k ->
 (k = .cell \/ k = .free) -> (∀ y ∈ names, y.2 ≠ .cell) -> (x, NameKind.free) ∈ names
 | [], _, _, h, _, _ => by simp at h
 | (n, k0) :: r, x, k, h, hk, hc => by
  have ih := @Qv env r x k
  have h : List.lookup x ((if (k0 == NameKind.free && env.scope.kind == .function && env.kindOf n == some .cell) = true then (n, NameKind.cell) else (n, k0)) :: _) = _ := h
  by_cases hb : (k0 == NameKind.free && env.scope.kind == .function && env.kindOf n == some .cell) = true
  · rw [if_pos hb, List.lookup_cons] at h
    have e0 : k0 = .free := by
     simp only [Bool.and_eq_true] at hb
     simpa using hb.1.1
    cases hx : x == n with
    | true =>
     have e : x = n := eq_of_beq hx
     subst e; subst e0
     exact List.mem_cons_self
    | false =>
     rw [hx] at h
     exact List.mem_cons_of_mem _ (ih h hk fun y hy => hc y (List.mem_cons_of_mem _ hy))
  · rw [if_neg hb, List.lookup_cons] at h
    cases hx : x == n with
    | true =>
     rw [hx] at h
     have e : x = n := eq_of_beq hx
     have e0 : k0 = k := Option.some.inj h
     subst e; subst e0
     rcases hk with hk | hk
     · exact absurd hk (hc (x, k0) List.mem_cons_self)
     · subst hk
       exact List.mem_cons_self
    | false =>
     rw [hx] at h
     exact List.mem_cons_of_mem _ (ih h hk fun y hy => hc y (List.mem_cons_of_mem _ hy))
theorem J6 {env : Env} : ∀ {names : List (Str × NameKind)} {x : Str}, names.lookup x = some .free ->
 (names.map fun (n, k) => if (k == NameKind.free && env.scope.kind == .function && env.kindOf n == some .cell) then (n, NameKind.cell) else (n, k)).lookup x = some .cell \/
 (names.map fun (n, k) => if (k == NameKind.free && env.scope.kind == .function && env.kindOf n == some .cell) then (n, NameKind.cell) else (n, k)).lookup x = some .free
 | [], _, h => by simp at h
 | (n, k0) :: r, x, h => by
  have ih := @J6 env r x
  show List.lookup x ((if (k0 == NameKind.free && env.scope.kind == .function && env.kindOf n == some .cell) = true then (n, NameKind.cell) else (n, k0)) :: _) = _ \/
   List.lookup x ((if (k0 == NameKind.free && env.scope.kind == .function && env.kindOf n == some .cell) = true then (n, NameKind.cell) else (n, k0)) :: _) = _
  cases hx : x == n with
  | true =>
   simp only [List.lookup_cons, hx] at h
   cases h
   by_cases hb : (NameKind.free == NameKind.free && env.scope.kind == .function && env.kindOf n == some .cell) = true
   · rw [if_pos hb]; simp [List.lookup_cons, hx]
   · rw [if_neg hb]; simp [List.lookup_cons, hx]
  | false =>
   simp only [List.lookup_cons, hx] at h
   by_cases hb : (k0 == NameKind.free && env.scope.kind == .function && env.kindOf n == some .cell) = true
   · rw [if_pos hb]; simp only [List.lookup_cons, hx]; exact ih h
   · rw [if_neg hb]; simp only [List.lookup_cons, hx]; exact ih h
theorem Zdl {C : Addr} {fp : List Addr} {xe : Value -> Shared -> Prop} (S : CompSc X scope tn cn js) (I : Inv X pins σ H₂ s₂) (hC : s₂.heap.objs.size <= C) (hf : ∀ b ∈ fp, Yl X pins H₂ b) (ho : ∀ b ∈ fp, ∃ o, s₂.heap.get? b = some o /\ ∀ v, o.data ≠ .cell v) :
 (Vi X scope (tn ++ cn) C s₂ H₂ fp xe).Ok where
 mod := I.ok.mod
 kind := S.kind
 glob := I.ok.glob
 blt := I.ok.blt
 above := hC
 inj := fun x y c h1 h2 => I.ok.inj x y c (Xg _ [] (S.clos I.ok) (fun _ z => by cases z) h1) (Xg _ [] (S.clos I.ok) (fun _ z => by cases z) h2)
 has := fun x hx => by
  refine Qt _ _ (.inl ?_)
  rcases hx with hx | hx
  · exact Qv (env := X.env) (k := .cell) hx (Or.inl (Eq.refl NameKind.cell)) S.nocell
  · exact Qv (env := X.env) (k := .free) hx (Or.inr (Eq.refl NameKind.free)) S.nocell
 cab := fun x c h _ => by cases h
 hd := I.ok.hd
 frames := I.ok.frames
 stk := .inl rfl
 exf := fun b hb => by
  obtain ⟨o, e, _⟩ := ho b hb
  obtain ⟨_, _, _, _, f4, _⟩ := hf b hb
  exact ⟨Nat.ne_of_lt (Nat.lt_of_lt_of_le (Heap.lt_size e) hC), fun x c h => f4 x c (Xg _ [] (S.clos I.ok) (fun _ z => by cases z) h)⟩
 bs := I.bs
 bsz := Nat.le_trans I.ok.bsz I.sz
 noex := fun b o e hb => by
  obtain ⟨_, _, _, f3, _, _⟩ := hf b hb
  rcases f3 with z | z
  · exact I.ok.noex b o e z
  · exact absurd (Nat.lt_of_lt_of_le (Heap.lt_size (I.ok.bs b o e).1) z) (Nat.lt_irrefl _)
 exfs := fun b hb z => by
  obtain ⟨_, f1, f2, _, _, _⟩ := hf b hb
  exact (List.mem_cons.mp (I.stkSub b z)).elim f1 f2
 funs := I.stack
 frf := I.stkFree
theorem J7 {C : Addr} {fp : List Addr} {s : Shared} {H : Hp} {m : Str -> Option Value} (S : CompSc X scope tn cn js) (I : Inv X pins σ H₂ s₂) (hf : ∀ b ∈ fp, Yl X pins H₂ b)
 (u : Un (frs X.stack) fp H₂ H s₂.heap s.heap) :
 ∀ (i : Nat) (x : Str) (v : V), (tn ++ cn)[i]? = some x -> (blk tn.length σ js)[i]? = some (some v) -> ∃ z, RelV v z /\ Jc (compEnvC scope (Ye X.env.cells scope.names []) C X.env) s.heap m x z := by
 intro i x v e1 e2
 unfold blk at e2
 by_cases hi : i < tn.length
 · rw [List.getElem?_append_left (by simpa using hi), List.getElem?_replicate, if_pos hi] at e2
   cases e2
 · have hi' : tn.length <= i := by omega
   rw [List.getElem?_append_right hi'] at e1
   rw [List.getElem?_append_right (by simpa using hi'), List.length_replicate] at e2
   obtain ⟨j, hj, hN, hk, hm⟩ := S.cap _ _ e1
   unfold VN at e2
   rw [List.getElem?_map, hj] at e2
   have e3 : (σ[j]?).getD none = some v := Option.some.inj e2
   have e4 : σ[j]? = some (some v) := by
    cases q : σ[j]? with
    | none => rw [q] at e3; cases e3
    | some z => rw [q] at e3; exact congrArg some e3
   obtain ⟨m0, _, hl⟩ := I.loc
   have hv : Vis X.env.scope x := by
    rcases hk with hk | hk
    · exact .inr (.inl hk)
    · exact .inr (.inr hk)
   obtain ⟨z, rz, l⟩ := hl j x v hN e4 hv
   refine ⟨z, rz, ?_⟩
   obtain ⟨c, hc, ob, ho, hd⟩ : ∃ c, X.env.cells.lookup x = some c /\ s₂.heap.IsCell c (some z) := by
    rcases l with ⟨k, _⟩ | ⟨_, c, hc, q⟩
    · rcases hk with hk | hk
      · rw [hk] at k; cases k
      · rw [hk] at k; cases k
    · exact ⟨c, hc, q⟩
   obtain ⟨c', hc'⟩ := Qt (cells := X.env.cells) (x := x) scope.names [] (.inl (PySem.mem_of_lookup hm))
   have ec : c' = c := by
    have := Xg _ [] (S.clos I.ok) (fun _ z => by cases z) hc'
    rw [hc] at this
    exact (Option.some.inj this).symm
   subst ec
   have nf : c' ∉ fp := fun hb => (hf c' hb).2.2.2.2.1 x c' hc rfl
   obtain ⟨sl, q⟩ := u.any ho (I.freeC x c' hc) nf
   exact .inr ⟨J6 hm, c', hc', ⟨_, q, hd⟩⟩
theorem J8 (S : CompSc X scope tn cn js) : (blk tn.length σ js).length = (tn ++ cn).length := by
 unfold blk VN
 rw [List.length_append, List.length_append, List.length_replicate, List.length_map, S.len]
theorem Zba {C : Addr} {fp : List Addr} {xe : Value -> Shared -> Prop} {s : Shared} {H : Hp} {σ' : St} {pins' : List (Addr × Obj)} (S : CompSc X scope tn cn js) (I : Inv X pins σ H₂ s₂) (hf : ∀ b ∈ fp, Yl X pins H₂ b)
 (I' : Inv (Vi X scope (tn ++ cn) C s₂ H₂ fp xe) pins' σ' H s) : Inv (Vi X scope (tn ++ cn) C s₂ H₂ fp xe) pins' (blk tn.length σ js) H s := by
 obtain ⟨m, hn, _⟩ := id I'.loc
 exact ⟨I'.ok, I'.os, I'.bare, I'.base, ⟨m, hn, fun i x v e1 e2 _ => J7 S I hf I'.base i x v e1 e2⟩, I'.cell, I'.free, I'.freeC, I'.pin, I'.hok, J8 S⟩
theorem Zbb {C D : Addr} {fp : List Addr} {xe : Value -> Shared -> Prop} {h : Heap} {tk : Nat} {ob : Obj} {m : Str -> Option Value} (S : CompSc X scope tn cn js) (I : Inv X pins σ H₂ s₂) (hC : s₂.heap.objs.size <= C) (hD : s₂.heap.objs.size <= D) (hDC : D ≠ C)
 (hf : ∀ b ∈ fp, Yl X pins H₂ b) (ho : ∀ b ∈ fp, ∃ o, s₂.heap.get? b = some o /\ ∀ v, o.data ≠ .cell v) (k : ∀ b o, s₂.heap.get? b = some o -> h.get? b = some o) (hn : h.Ns C m) (hob : h.get? D = some ob) (hcell : ∀ v, ob.data ≠ .cell v) :
 Inv (Vi X scope (tn ++ cn) C s₂ H₂ fp xe) [(D, ob)] (blk tn.length σ js) H₂ { s₂ with heap := h, toks := tk } := by
 have ok := Zdl (xe := xe) S I hC hf ho
 have u : Un (frs X.stack) fp H₂ H₂ s₂.heap h := Un.kept k
 refine ⟨ok, rfl, I.bare, u, ⟨m, hn, fun i x v e1 e2 _ => J7 (s := { s₂ with heap := h, toks := tk }) S I hf u i x v e1 e2⟩, fun x c e => ?_, I.hok.fresh hC, fun x c e => ?_, fun p hp => ?_, I.hok.kept k, J8 S⟩
 · obtain ⟨v, o, q, d⟩ := I.cell x c (Xg _ [] (S.clos I.ok) (fun _ z => by cases z) e)
   exact ⟨v, o, k c o q, d⟩
 · exact I.freeC x c (Xg _ [] (S.clos I.ok) (fun _ z => by cases z) e)
 · have e : p = (D, ob) := by
    have : p ∈ ([] : List (Addr × Obj)) ++ [(D, ob)] := hp
    simpa using this
   subst e
   refine ⟨hob, I.hok.fresh hD, hDC, fun z => ?_, hcell⟩
   have z : D ∈ frs X.stack := z
   rcases List.mem_cons.mp (I.stkSub D z) with e | e
   · exact absurd (Nat.lt_of_lt_of_le I.lt (by rw [<- e]; exact hD)) (Nat.lt_irrefl _)
   · exact I.nofs hD e
theorem Zco {C D : Addr} {fp : List Addr} {xe : Value -> Shared -> Prop} {s : Shared} {H : Hp} {σ' : St} {ys : List V} {its : List Value} {n : Nat} {h' : Heap} (S : CompSc X scope tn cn js) (I : Inv X pins σ H₂ s₂) (hC : s₂.heap.objs.size <= C) (hD : s₂.heap.objs.size <= D) (hDC : D ≠ C)
 (hf : ∀ b ∈ fp, Yl X pins H₂ b) (I' : Inv (Vi X scope (tn ++ cn) C s₂ H₂ fp xe) [(D, { cls := .type "list", data := .seq its.toArray n })] σ' H s) (hv : Vals ys its) (hz : ys.length <= sizeLine) (hs : Heap.SameBut C s.heap h') :
 Inv X pins σ (upd H D (.lst ys)) { s with heap := h' } := by
 have pd := I'.pin (D, { cls := .type "list", data := .seq its.toArray n }) (List.mem_append_right _ List.mem_cons_self)
 have pd1 : s.heap.get? D = some { cls := .type "list", data := .seq its.toArray n } := pd.1
 have pd2 : H D = none := pd.2.1
 have hD' : h'.get? D = some { cls := .type "list", data := .seq its.toArray n } := (hs.2 D hDC).trans pd1
 have hCf : H C = none := I'.free
 have old : ∀ b o, s₂.heap.get? b = some o -> b ≠ C /\ b ≠ D := fun b o e => ⟨Nat.ne_of_lt (Nat.lt_of_lt_of_le (Heap.lt_size e) hC), Nat.ne_of_lt (Nat.lt_of_lt_of_le (Heap.lt_size e) hD)⟩
 have u := I'.base
 have u : Un (frs X.stack) fp H₂ H s₂.heap s.heap := u
 refine I.call' (s' := { s with heap := h' }) (ch := fp) (H' := upd H D (.lst ys)) I'.os ⟨fun b o e n hb hx => ?_, fun b o e n hb hx => ?_, fun b o e n hx => ?_, fun b o e hx => ?_, fun b xs e => ?_, fun b o xs e => ?_, fun b ps e => ?_⟩ (fun b o e => ?_) I'.bare (fun b hb => ?_)
 · exact (hs.2 b (old b o e).1).trans (u.keep b o e n hb hx)
 · obtain ⟨sl, q⟩ := u.slot b o e n hb hx
   exact ⟨sl, (hs.2 b (old b o e).1).trans q⟩
 · rw [Zn (old b o e).2]
   exact u.free b o e n hx
 · obtain ⟨o', q⟩ := u.there b o e hx
   exact ⟨o', (hs.2 b (old b o e).1).trans q⟩
 · have q := u.tups b xs e
   rw [Zn (YI q pd2)]
   exact q
 · have q := u.frzs b o xs e
   rw [Zn (YI q pd2)]
   exact q
 · obtain ⟨more, q⟩ := u.tbls b ps e
   exact ⟨more, by rw [Zn (YI q pd2)]; exact q⟩
 · by_cases hb : b = D
   · subst hb
     rw [ZE] at e
     cases e
     exact ⟨hz, its, n, hv, hD'⟩
   · rw [Zn hb] at e
     refine (I'.hok b o e).stay (fun c v hc q => (hs.2 c ?_).trans q) (fun c q => by rw [Zn (YI q pd2)]; exact q) fun c xs q => by rw [Zn (YI q pd2)]; exact q
     rintro rfl
     rcases hc with rfl | hc
     · rw [hCf] at e; cases e
     · rw [hCf] at hc; cases hc
 · obtain ⟨f0, f1, f2, f3, f4, f5⟩ := hf b hb
   exact ⟨f3, f1, f4, f5⟩
end
def PTs (X : Cx) (ifs : List Expr) (t : TT) : Prop :=
 ∀ (pins : List (Addr × Obj)) (s : Shared) (σ : St) (H : Hp) (Q : Bool -> Hp -> Prop), Inv X pins σ H s -> t σ H Q ->
  wpAny (model X.prog X.w) X.A (forIn ifs true fun c r => if r = true then do let ok <- isTrue c X.env (eval c X.env); pure (ForInStep.yield ok) else pure (ForInStep.yield r)) (TP X pins σ Q) X.xe s
def tYes : TT := fun _ H Q => Q true H
theorem J9 {X : Cx} : PTs X [] tYes := fun _ _ _ H _ I h => wpAny_tests_nil ⟨H, I, h⟩
def Zd1 (wi : TI) (g : TG) (tt : TT) (te : TE) (n : Nat) (js : List Nat) : TE := fun σ H Q => wi σ H fun J H1 =>
 ∃ W : Nat -> Nat -> List V -> Hp -> Prop, (∃ m, W 0 m [] H1) /\ ∀ i m ys H, W i m ys H ->
  (J.stop i H /\ ∀ p, H p = none -> Q (.ref p) (upd H p (.lst ys))) \/
  (J.go i H /\ ∀ x H', J.yld i H x H' -> g x (blk n σ js) H' fun σ2 H2 => tt σ2 H2 fun b H3 =>
    if b = true then te σ2 H3 fun y H4 => ys.length < sizeLine /\ ∃ m', m' < m /\ W (i + 1) m' (ys ++ [y]) H4 else ∃ m', m' < m /\ W (i + 1) m' ys H3)
section
variable {X : Cx} {tg iter elt : Expr} {ifs : List Expr} {scope : Scope} {pos : Pos} {wi : TI} {g : TG} {tt : TT} {te : TE} {tn cn : List Str} {js : List Nat}
abbrev Xh (X : Cx) (scope : Scope) (N' : List Str) (C : Addr) (s₂ : Shared) (H₂ : Hp) (fp : List Addr) : Cx := Vi X scope N' C s₂ H₂ fp fun _ _ => False
theorem Vj {α : Type} {M : Model} {A : Around} {m : Sem α} {Q : α -> Shared -> Prop} {E : Value -> Shared -> Prop} {s : Shared} (h : wpAny M A m Q (fun _ _ => False) s) : wpAny M A m Q E s := wpAny_mono h (fun _ _ q => q) fun _ _ z => z.elim
theorem Zbc {pins : List (Addr × Obj)} {σ : St} {H₂ : Hp} {s₂ : Shared} {it : Addr} {fp : List Addr} {tnx : Nat -> Heap -> Prop} {J : It} {E : Value -> Shared -> Prop} {RR : Value -> Addr -> Result -> Shared -> Prop} {W : Nat -> Nat -> List V -> Hp -> Prop} {m0 : Nat}
 (hc : X.calm = true) (S : CompSc X scope tn cn js)
 (hg : ∀ C s₂ H₂ fp, PG (Xh X scope (tn ++ cn) C s₂ H₂ fp) tg g) (ht : ∀ C s₂ H₂ fp, PTs (Xh X scope (tn ++ cn) C s₂ H₂ fp) ifs tt) (he : ∀ C s₂ H₂ fp, PE (Xh X scope (tn ++ cn) C s₂ H₂ fp) elt te)
 (I2 : Inv X pins σ H₂ s₂) (T : Turn X.prog X.w X.K tg J fp it tnx) (st2 : tnx 0 s₂.heap) (f2 : ∀ b ∈ fp, Yl X pins H₂ b) (w0 : W 0 m0 [] H₂)
 (turn : ∀ i m ys H, W i m ys H -> (J.stop i H /\ ∀ C D s its n σ', s₂.heap.objs.size <= C -> s₂.heap.objs.size <= D -> D ≠ C -> Vals ys its -> ys.length <= sizeLine ->
   Inv (Xh X scope (tn ++ cn) C s₂ H₂ fp) [(D, { cls := .type "list", data := .seq its.toArray n })] σ' H s -> RR (.ref D) C (.ok .next) s) \/
   (J.go i H /\ ∀ x H', J.yld i H x H' -> g x (blk tn.length σ js) H' fun σ2 H2 => tt σ2 H2 fun b H3 =>
     if b = true then te σ2 H3 fun y H4 => ys.length < sizeLine /\ ∃ m', m' < m /\ W (i + 1) m' (ys ++ [y]) H4 else ∃ m', m' < m /\ W (i + 1) m' ys H3)) :
 wpAny (model X.prog X.w) X.A (newList []) (fun acc s₃ => wpAny (model X.prog X.w) X.A (newFunctionEnv scope X.env.globals (Ye X.env.cells scope.names []) [] X.env.qual none .none (some X.env)) (fun cenv s₄ =>
  codeAny (model X.prog X.w) X.A (.compStart (.ListComp elt [⟨tg, iter, ifs, 0⟩] scope pos) 0 (.ref it) acc { cenv with scope := relabel scope X.env }) (RR acc cenv.locals) s₄) E s₃) E s₂ := by
 refine wpAny_newObj_type (wpAny_newFunctionEnv S.nocell (by intro y hy; simp at hy) (fun h₁ hns₁ hsb₁ => ?_) S.kind)
 dsimp only at hns₁ hsb₁ ⊢
 generalize hH2 : s₂.heap.push { cls := .type "list", dict := none, data := .seq ([] : List Value).toArray } = HH at hns₁ hsb₁ ⊢
 have hCs : HH.objs.size = s₂.heap.objs.size + 1 := by rw [<- hH2, Heap.size_push]
 have hDC : s₂.heap.objs.size ≠ HH.objs.size := by rw [hCs]; exact Nat.ne_of_lt (Nat.lt_succ_self _)
 have hC : s₂.heap.objs.size <= HH.objs.size := by rw [hCs]; exact Nat.le_succ _
 have hD : s₂.heap.objs.size <= s₂.heap.objs.size := Nat.le_refl _
 have old : ∀ b o, s₂.heap.get? b = some o -> h₁.get? b = some o := fun b o e => hsb₁.extBut b o (by rw [hCs]; exact Nat.ne_of_lt (Nat.lt_succ_of_lt (Heap.lt_size e))) (Heap.get?_push_of_some _ (hH2 ▸ Heap.get?_push_of_some _ e))
 have hacc : h₁.get? s₂.heap.objs.size = some { cls := .type "list", dict := none, data := .seq ([] : List Value).toArray } := hsb₁.extBut _ _ hDC (Heap.get?_push_of_some _ (hH2 ▸ Heap.get?_push_size _ rfl))
 have hob := T.obj _ _ st2
 have I3 : Inv (Xh X scope (tn ++ cn) HH.objs.size s₂ H₂ fp) [(s₂.heap.objs.size, { cls := .type "list", dict := none, data := .seq ([] : List Value).toArray })] (blk tn.length σ js) H₂ { s₂ with heap := h₁, toks := s₂.toks + ([] : List (Str × Value)).length } :=
  Zbb S I2 hC hD hDC f2 hob old hns₁ hacc (fun v z => by cases z)
 have st3 : tnx 0 h₁ := T.keep _ _ _ st2 fun b hb o e => old b o e
 generalize hX' : Xh X scope (tn ++ cn) HH.objs.size s₂ H₂ fp = X' at I3
 generalize hs3 : ({ s₂ with heap := h₁, toks := s₂.toks + ([] : List (Str × Value)).length } : Shared) = s3 at I3 ⊢
 have st3' : tnx 0 s3.heap := by rw [<- hs3]; exact st3
 have stat : ∀ {pins' : List (Addr × Obj)} {H' : Hp}, (∀ b ∈ fp, H' b = none) -> (∀ p ∈ pins', p.1 = s₂.heap.objs.size) -> ∀ b ∈ fp, Yl X' pins' H' b := fun {pins' H'} hn hp b hb => by
  subst hX'
  obtain ⟨o, e, _⟩ := hob b hb
  obtain ⟨f0, f1, f2', f3, f4, f5⟩ := f2 b hb
  refine ⟨hn b hb, Nat.ne_of_lt (Nat.lt_of_lt_of_le (Heap.lt_size e) hC), fun z => (List.mem_cons.mp (I2.stkSub b z)).elim f1 f2', .inl hb, fun x c h => f4 x c (Xg _ [] (S.clos I2.ok) (fun _ z => by cases z) h), fun p hpp => ?_⟩
  have : p ∈ pins' := by
   have q : p ∈ ([] : List (Addr × Obj)) ++ pins' := hpp
   simpa using q
  rw [hp p this]
  exact Nat.ne_of_gt (Heap.lt_size e)
 have loop : codeAny (model X.prog X.w) X.A (.compLoop (.ListComp elt [⟨tg, iter, ifs, 0⟩] scope pos) 0 (.ref it) (.ref s₂.heap.objs.size) X'.env) (RR (.ref s₂.heap.objs.size) HH.objs.size) s3 := by
  refine ZaA (fun k s' => ∃ i ys its n H', Inv X' [(s₂.heap.objs.size, { cls := .type "list", data := .seq its n })] (blk tn.length σ js) H' s' /\ Vals ys its.toList /\ ys.length <= sizeLine /\ tnx i s'.heap /\ (∀ b ∈ fp, H' b = none) /\ W i k ys H') ?_ m0
   ⟨0, [], #[], 0, H₂, I3, .nil, Nat.zero_le _, st3', fun b hb => (f2 b hb).1, w0⟩
  rintro k s4 ⟨i, ys, its, n, H4, I4, hv4, hz4, st4, fr4, w4⟩
  have eP : X'.prog = X.prog := by rw [<- hX']; rfl
  have eW : X'.w = X.w := by rw [<- hX']; rfl
  have eK : X'.K = X.K := by rw [<- hX']; rfl
  have eA : X'.A = X.A := by rw [<- hX']; rfl
  have eC : X'.calm = true := by rw [<- hX']; exact hc
  have eE : X'.xe = fun _ _ => False := by rw [<- hX']; rfl
  rcases turn i k ys H4 w4 with ⟨stop, qn⟩ | ⟨go, step⟩
  · have z := T.done X' eP eW eK eC i _ s4 (blk tn.length σ js) H4 (fun _ _ => False) I4 (stat fr4 (fun p hp => by simp at hp; rw [hp])) st4 stop
    rw [eA] at z
    refine Vj (thn z fun r s5 ⟨hr, I5⟩ => ?_)
    subst hr
    subst hX'
    exact qn _ _ s5 its.toList n _ hC hD hDC hv4 hz4 (by simpa using I5)
  · have z := T.item X' eP eW eK eC i _ s4 (blk tn.length σ js) H4 (fun _ _ => False) I4 (stat fr4 (fun p hp => by simp at hp; rw [hp])) st4 go
    rw [eA] at z
    refine Vj (thn z fun r s5 ⟨u, hr, h5⟩ => ?_)
    subst hr
    refine Vj (thn h5 fun _ s6 ⟨x, H6, I6, r6, y6, st6, fr6⟩ => ?_)
    have I6' := I6.pinned (stat fr6 (fun p hp => by simp at hp; rw [hp])) (T.obj _ _ st6)
    have hg' : PG X' tg g := by rw [<- hX']; exact hg _ _ _ _
    have ht' : PTs X' ifs tt := by rw [<- hX']; exact ht _ _ _ _
    have he' : PE X' elt te := by rw [<- hX']; exact he _ _ _ _
    have z7 := hg' _ s6 _ H6 x u _ I6' r6 (step x H6 y6)
    rw [eP, eW, eA, eE] at z7
    refine Vj (thn z7 fun _ s7 ⟨σ7, H7, I7, q7⟩ => ?_)
    have z8 := ht' _ s7 σ7 H7 _ I7 q7
    rw [eP, eW, eA, eE] at z8
    refine Vj (thn z8 fun ok s8 ⟨H8, I8, q8⟩ => ?_)
    have key : ∀ {σ9 : St} {H9 : Hp} {s9 : Shared} {its' : Array Value} {n' : Nat}, Inv X' ([(s₂.heap.objs.size, { cls := .type "list", data := .seq its' n' })] ++ YU fp s6.heap) σ9 H9 s9 ->
     Inv X' [(s₂.heap.objs.size, { cls := .type "list", data := .seq its' n' })] (blk tn.length σ js) H9 s9 /\ tnx (i + 1) s9.heap /\ ∀ b ∈ fp, H9 b = none := fun {σ9 H9 s9 its' n'} I9 => by
     refine ⟨?_, T.keep _ _ _ st6 fun b hb o e => (I9.pin (b, o) (List.mem_append_right _ (List.mem_append_right _ (Ui hb e)))).1, fun b hb => ?_⟩
     · have I9' := I9.unpinned
       subst hX'
       exact Zba S I2 f2 I9'
     · obtain ⟨o, e, d⟩ := T.obj _ _ st6 b hb
       exact (I9.pin (b, o) (List.mem_append_right _ (List.mem_append_right _ (Ui hb e)))).2.1
    cases ok with
    | false =>
     rw [if_neg Bool.false_ne_true] at q8 ⊢
     obtain ⟨m', hm, w8⟩ := q8
     obtain ⟨I9, st9, fr9⟩ := key I8
     exact ⟨m', hm, i + 1, ys, its, n, H8, I9, hv4, hz4, st9, fr9, w8⟩
    | true =>
     rw [if_pos rfl] at q8 ⊢
     have z9 := he' _ s8 σ7 H8 _ I8 q8
     rw [eP, eW, eA, eE] at z9
     refine Vj (thn z9 fun v s9 ⟨y, H9, I9, r9, hl9, m', hm, w9⟩ => ?_)
     have pd := I9.pin (s₂.heap.objs.size, { cls := .type "list", data := .seq its n }) (List.mem_append_right _ (List.mem_append_left _ List.mem_cons_self))
     have hpl : s9.heap.PlainList s₂.heap.objs.size its := ⟨n, pd.1⟩
     have hlen : its.size = ys.length := by rw [hv4.length]; simp
     refine wpAny_list_append_plain (hsz := by omega) hpl fun h10 hl10 hs10 => ?_
     obtain ⟨n10, e10⟩ := hl10
     have I10 : Inv X' (YU fp s6.heap) σ7 H9 s9 := I9.pins_of fun p hp => I9.pin p (List.mem_append_right _ (List.mem_append_right _ hp))
     have nD : ∀ b ∈ fp, b ≠ s₂.heap.objs.size := fun b hb => by
      obtain ⟨o, e, _⟩ := hob b hb
      exact Nat.ne_of_lt (Heap.lt_size e)
     have I11 : Inv X' (YU fp s6.heap) σ7 H9 { s9 with heap := h10 } := by
      refine I10.turned (t' := s9.toks) (it := s₂.heap.objs.size) (fun b o hb e => (hs10.2 b hb).trans e) pd.2.1 pd.2.2.1 ?_ ?_ ?_
      · subst hX'; exact .inr (Nat.le_refl _)
      · subst hX'
        intro x c h
        obtain ⟨v', o', q, _⟩ := I2.cell x c (Xg _ [] (S.clos I2.ok) (fun _ z => by cases z) h)
        exact Nat.ne_of_lt (Heap.lt_size q)
      · intro p hp
        have hp' : p ∈ YU fp s6.heap := by
         subst hX'
         have q : p ∈ ([] : List (Addr × Obj)) ++ YU fp s6.heap := hp
         simpa using q
        exact nD _ (JA hp').1
     have I12 : Inv X' ([(s₂.heap.objs.size, { cls := .type "list", data := .seq (its.push v) n10 })] ++ YU fp s6.heap) σ7 H9 { s9 with heap := h10 } := I11.pins_of fun p hp => by
      rcases List.mem_append.mp hp with q | q
      · have e : p = (s₂.heap.objs.size, { cls := .type "list", data := .seq (its.push v) n10 }) := by simpa using q
        subst e
        exact ⟨e10, pd.2.1, pd.2.2.1, pd.2.2.2.1, fun v z => by cases z⟩
      · exact I11.pin p (List.mem_append_right _ q)
     obtain ⟨J1, J2, J3⟩ := key I12
     refine ⟨m', hm, i + 1, ys ++ [y], its.push v, n10, H9, J1, ?_, ?_, J2, J3, w9⟩
     · have : (its.push v).toList = its.toList ++ [v] := by simp
       rw [this]
       exact hv4.append (.cons r9 .nil)
     · rw [List.length_append, List.length_singleton]
       omega
 have eEnv : ({ newEnv scope HH.objs.size X.env.globals (Ye X.env.cells scope.names []) X.env.qual none .none (some X.env) builtinsNs with scope := relabel scope X.env } : Env) = X'.env := by rw [<- hX']; rfl
 have loop2 := loop
 rw [<- eEnv] at loop loop2
 exact codeAny_compStart_list loop (T.self X.A 0 s3 _ _ st3' loop2)
theorem Zbk (hc : X.calm = true) (S : CompSc X scope tn cn js) (hi : PI X tg iter wi)
 (hg : ∀ C s₂ H₂ fp, PG (Xh X scope (tn ++ cn) C s₂ H₂ fp) tg g) (ht : ∀ C s₂ H₂ fp, PTs (Xh X scope (tn ++ cn) C s₂ H₂ fp) ifs tt) (he : ∀ C s₂ H₂ fp, PE (Xh X scope (tn ++ cn) C s₂ H₂ fp) elt te)
 (hs : ∀ x, foldedSetIterable iter X.env x = pure x := by intro _; rfl) :
 PE X (.ListComp elt [⟨tg, iter, ifs, 0⟩] scope pos) (Zd1 wi g tt te tn.length js) := by
 intro pins s σ H Q I h
 rw [eval_ListComp]
 refine wpAny_comprehension_free (use := none) (cl := Ye X.env.cells scope.names []) rfl hs (Zai (S.clos I.ok)) S.kind S.names (thn (hi pins s σ H _ I h) fun v s1 h1 => thn h1 fun itv s2 h2 => ?_)
 obtain ⟨it, fp, tnx, J, H2, e, I2, T, st2, f2, W, ⟨m0, w0⟩, turn⟩ := h2
 subst e
 refine Zbc (RR := fun acc C => compPost (model X.prog X.w) X.A X.xe none (EP X pins σ Q) acc C) (W := W) (m0 := m0) hc S hg ht he I2 T st2 f2 w0 fun i m ys H w => ?_
 rcases turn i m ys H w with ⟨stop, qn⟩ | r
 · refine .inl ⟨stop, fun C D s its n σ' hC hD hDC hv hz I' => ?_⟩
   obtain ⟨m', hn, _⟩ := id I'.loc
   refine ⟨m', hn, fun h' hs' => ?_⟩
   have pd := I'.pin (D, { cls := .type "list", data := .seq its.toArray n }) (List.mem_append_right _ List.mem_cons_self)
   exact ⟨.ref D, _, Zco S I2 hC hD hDC f2 I' hv hz hs', rfl, qn D pd.2.1⟩
 · exact .inr r
end
end L2
namespace L2
open PySem PySem.Spec PyProof.Rows
abbrev S (cs : List Nat) : V := .str (tx cs)
theorem Ze7 {a b : List Nat} : S a = S b ↔ a = b := by
 constructor
 · intro h
   exact tx_inj.mp (V.str.inj h)
 · rintro rfl; rfl
section
variable {X : Cx} {pos : Pos}
theorem Xz {x : Str} {j : Nat} (cs : List Nat) (h : x = tx cs) : PE X (.Constant (.str x) j pos) (tC (S cs)) := by
 subst h
 exact Zen
def Its (cs : List Nat) : It := ⟨fun i _ => i < cs.length, fun i H v H' => H' = H /\ ∃ c, cs[i]? = some c /\ v = S [c], fun i _ => cs.length <= i⟩
theorem Ur (x : Str) : strIterType x = "str_ascii_iterator" \/ strIterType x = "str_iterator" := by
 unfold strIterType
 split
 · exact .inl rfl
 · exact .inr rfl
theorem Zcp {P : Program} {w : World} {K : PySem.W.Frag} {tg : Expr} (it : Addr) (cs : List Nat) (t : Tok) : Turn P w K tg (Its cs) [it] it (fun i h => h.IsStrIter it (strIterType (tx cs)) (tx cs) t i) where
 mem := by simp
 obj := fun i h st b hb => by
  have e : b = it := by simpa using hb
  subst e
  obtain ⟨o, e, c, d⟩ := st
  exact ⟨o, e, fun v z => by rw [d] at z; cases z⟩
 keep := fun i h h' st k => by
  obtain ⟨o, e, r⟩ := st
  exact ⟨o, k it (by simp) o e, r⟩
 item := by
  intro X hP hw hK hc i pins s σ H E I hf st hg
  subst hP hw hK
  obtain ⟨f0, f1, f2, f3, f4, f5⟩ := hf it (by simp)
  have hg : i < cs.length := hg
  have hx : (tx cs).cps[i]? = some cs[i] := by simp [tx, hg]
  have fin : ∀ (h' : Heap), h'.IsStrIter it (strIterType (tx cs)) (tx cs) t (i + 1) -> Heap.SameBut it s.heap h' ->
   ∃ u, some (Value.str ⟨#[cs[i]]⟩ s.toks) = some u /\ wpAny (model X.prog X.w) X.A (letOwnedTupleGo tg (.ref it) u) (fun _ s2 => ∃ x H', Inv X pins σ H' s2 /\ RelV x u /\ (Its cs).yld i H x H' /\ s2.heap.IsStrIter it (strIterType (tx cs)) (tx cs) t (i + 1) /\ ∀ b ∈ [it], H' b = none) E { s with heap := h', toks := s.toks + 1 } := fun h' st' sb => by
   have I1 : Inv X pins σ H { s with heap := h', toks := s.toks + 1 } := I.turned (fun b o hb e => (sb.2 b hb).trans e) f0 f1 f3 f4 f5
   obtain ⟨o, e, hc', d⟩ := id st'
   refine ⟨_, rfl, Uh (s := { s with heap := h', toks := s.toks + 1 }) e hc' d ?_ ⟨S [cs[i]], H, I1, ⟨s.toks, rfl⟩, ⟨rfl, cs[i], by simp [hg], rfl⟩, st', fun b hb => (hf b hb).1⟩⟩
   rcases Ur (tx cs) with z | z <;> rw [z] <;> decide
  rcases Ur (tx cs) with z | z
  · rw [z] at st
    refine wpAny_pyNext_ascii_item st hx fun h' st' sb => fin h' (by rw [z]; exact st') sb
  · rw [z] at st
    refine wpAny_pyNext_wide_item st hx fun h' st' sb => fin h' (by rw [z]; exact st') sb
 done := by
  intro X hP hw hK hc i pins s σ H E I hf st hg
  subst hP hw hK
  obtain ⟨f0, f1, f2, f3, f4, f5⟩ := hf it (by simp)
  have hg : cs.length <= i := hg
  have hx : (tx cs).cps[i]? = none := by simp [tx]; omega
  rcases Ur (tx cs) with z | z
  · rw [z] at st
    exact wpAny_pyNext_ascii_end (I.ok.hd hc) st hx fun h' eb => ⟨rfl, I.turned (t' := s.toks) (fun b o hb e => eb b o hb e) f0 f1 f3 f4 f5⟩
  · rw [z] at st
    exact wpAny_pyNext_wide_end (I.ok.hd hc) st hx fun h' eb => ⟨rfl, I.turned (t' := s.toks) (fun b o hb e => eb b o hb e) f0 f1 f3 f4 f5⟩
 self := fun _ i _ _ _ st h => by
  rcases Ur (tx cs) with z | z
  · rw [z] at st
    exact wpAny_pyIter_striter_ascii st h
  · rw [z] at st
    exact wpAny_pyIter_striter_wide st h
variable {tg : Expr}
def Qw (K : PySem.W.Frag) (tl : TE) : TI := fun σ H R => tl σ H fun x H1 => (∃ a xs, x = .ref a /\ SqL K H1 a xs /\ R (Itl K a) H1) \/ (∃ a xs, x = .ref a /\ SqT K H1 a xs /\ R (Itt K a) H1) \/ ∃ cs, x = S cs /\ R (Its cs) H1
theorem Zex {l : Expr} {tl : TE} (hl : PE X l tl) : PI X tg l (Qw X.K tl) := by
 intro pins s σ H R I h
 refine thn (hl pins s σ H _ I h) fun v s1 ⟨x, H1, I1, r1, q1⟩ => ?_
 rcases q1 with ⟨a, xs, e, hq, q⟩ | ⟨a, xs, e, hq, q⟩ | ⟨cs, e, q⟩
 · subst e
   cases r1
   obtain ⟨its, rv, p, hz⟩ := I1.list hq
   refine wpAny_pyIter_list p.isList ?_
   refine ⟨s1.heap.objs.size, [s1.heap.objs.size], _, _, H1, rfl, I1.kept (t' := s1.toks) fun b o e => Heap.get?_push_of_some _ e, ZbQ a _, ⟨_, Heap.get?_push_size _ rfl, rfl, rfl⟩, fun b hb => ?_, q⟩
   have e : b = s1.heap.objs.size := by simpa using hb
   subst e
   exact I1.fpOk (Nat.le_refl _) (I1.hok.fresh (Nat.le_refl _))
 · have hpi := Zes (X := X) (tg := tg) (l := l) (tl := fun _ H Q => Q (.ref a) H)
   subst e
   cases r1
   obtain ⟨its, rv, p, hz⟩ := I1.tuple hq
   refine wpAny_pyIter_tuple (show s1.heap.IsTuple a its.toArray from p) ?_
   refine ⟨s1.heap.objs.size, [s1.heap.objs.size], _, _, H1, rfl, I1.kept (t' := s1.toks) fun b o e => Heap.get?_push_of_some _ e, Jx a _, ⟨_, Heap.get?_push_size _ rfl, rfl, rfl⟩, fun b hb => ?_, q⟩
   have e : b = s1.heap.objs.size := by simpa using hb
   subst e
   exact I1.fpOk (Nat.le_refl _) (I1.hok.fresh (Nat.le_refl _))
 · subst e
   obtain ⟨t, rfl⟩ := r1
   refine wpAny_pyIter_strU ?_
   refine ⟨s1.heap.objs.size, [s1.heap.objs.size], _, _, H1, rfl, I1.kept (t' := s1.toks) fun b o e => Heap.get?_push_of_some _ e, Zcp _ cs t, ⟨_, Heap.get?_push_size _ rfl, rfl, rfl⟩, fun b hb => ?_, q⟩
   have e : b = s1.heap.objs.size := by simpa using hb
   subst e
   exact I1.fpOk (Nat.le_refl _) (I1.hok.fresh (Nat.le_refl _))
def rAddS : R2 := fun x y H Q => ∃ a b, x = S a /\ y = S b /\ a.length + b.length <= sizeLine /\ Q (S (a ++ b)) H
theorem op_addS : OpR X (binaryOp .Add) rAddS := by
 intro pins s σ H x y v u Q I rx ry h
 obtain ⟨a, b, rfl, rfl, hz, q⟩ := h
 refine Za3 pins s σ H _ _ v u Q I rx ry ⟨tx a, tx b, rfl, rfl, by rw [YW, YW]; exact hz, ?_⟩
 rw [Zew]
 exact q
def Ze8 : R2 := fun x y H Q => rI0 (fun i j => .int (i + j)) x y H Q \/ rAddS x y H Q \/ Zf4 x y H Q
def ZfN (neg : Bool) : R2 := fun x y H Q => ∃ c b, x = S [c] /\ y = S b /\ Q (.bl (neg != decide (c ∈ b))) H
theorem op_inS : OpR X (compareOp .In) (ZfN false) := by
 intro pins s σ H x y v u Q I rx ry h
 obtain ⟨c, b, rfl, rfl, q⟩ := h
 refine ZbS pins s σ H _ _ v u Q I rx ry ⟨tx [c], tx b, rfl, rfl, ?_⟩
 have e := StrLaws.found_one (tx b) c
 rw [Vh] at e
 rw [show tx [c] = (⟨#[c]⟩ : Str) from rfl, e]
 simpa using q
def Us (K : PySem.W.Frag) (neg : Bool) : R2 := fun x y H Q => ZfN neg x y H Q \/ rIn K neg x y H Q
theorem Zey : OpR X (compareOp .In) (Us X.K false) := op_inS.or ZbY
def rIxSt : R2 := fun x y H Q => ∃ a i c, x = S a /\ y = .int i /\ a.length <= sizeLine /\ atI a i = some c /\ Q (S [c]) H
theorem Zf5 : IxR X rIxSt := by
 intro value slice pins s σ H x y v u Q I rx ry h hs
 obtain ⟨a, i, c, rfl, rfl, hz, he, q⟩ := h
 exact ix_str value slice pins s σ H _ _ v u Q I rx ry ⟨tx a, i, c, rfl, rfl, by rw [YW]; exact hz, by rw [Vh]; exact he, q⟩ hs
def Ut (K : PySem.W.Frag) : R2 := fun x y H Q => JX K x y H Q \/ JY K x y H Q \/ rIxSt x y H Q
theorem Zf6 : IxR X (Ut X.K) := ix_list.or (ix_tup.or Zf5)
def Qx (K : PySem.W.Frag) : List V -> Hp -> VK -> Prop := fun xs H Q => (∃ a, xs = [S a] /\ a.length <= sizeLine /\ Q (.int a.length) H) \/ ∃ p ys, xs = [.ref p] /\ (SqL K H p ys \/ SqT K H p ys) /\ Q (.int ys.length) H
theorem Zb1 : Ys X (.builtin "len") (Qx X.K) := by
 intro pins s σ H xs us Q I rs q
 rcases q with ⟨a, rfl, hz, q⟩ | q
 · exact Zaz pins s σ H _ us Q I rs ⟨tx a, rfl, by rw [YW]; exact hz, by rw [YW]; exact q⟩
 · exact Zay pins s σ H xs us Q I rs q
def rIntX : List V -> Hp -> VK -> Prop := fun xs H Q => (∃ a, xs = [S a] /\ a.length <= 640 /\ a ≠ [] /\ a.all Uq = true /\ Q (.int (Qq a : Nat)) H) \/ (∃ k, xs = [.bl k] /\ Q (.int (if k then 1 else 0)) H)
theorem Zb2 : Ys X (.type "int") rIntX := by
 intro pins s σ H xs us Q I rs h
 rcases h with ⟨a, rfl, hl, hne, hd, q⟩ | h
 · obtain ⟨u, rfl, t, rfl⟩ := Xf rs
   have hd' : PySem.NumText.AllDigits (tx a).cps.toList := by
    rw [Vh]
    intro c hc
    have := List.all_eq_true.mp hd c hc
    unfold Uq at this
    rw [Bool.and_eq_true, decide_eq_true_eq, decide_eq_true_eq] at this
    exact this
   have e := PySem.intText_digits hd' (by rw [Vh]; exact hne) (by rw [YW]; omega)
   rw [Vh] at e
   exact PySem.W.KIN.call_text e (by rw [YW]; exact hl) ⟨.int (Qq a : Nat), H, I.tok _, ⟨_, rfl⟩, q⟩
 · exact ZbT pins s σ H xs us Q I rs (.inr h)
theorem Zcq : Ys X (.builtin "isinstance") (fun xs H Q => ∃ x c cv t b, xs = [x, c] /\ (∀ v, RelV c v -> v = cv) /\ TyOf X.K H x t /\ PySem.W.kitOne X.K t cv = some b /\ Q (.bl b) H) := by
 intro pins s σ H xs us Q I rs h
 obtain ⟨x, c, cv, t, b, rfl, hc, ty, e, q⟩ := h
 obtain ⟨u, w', rfl, rx, rc⟩ := JI rs
 have ec := hc _ rc
 subst ec
 exact ZbW I rx ty e fun tk => ⟨.bl b, H, I.tok tk, rfl, q⟩
end
section
variable {X : Cx} {K : PySem.W.Frag} {pos : Pos} {tg : Expr}
theorem Ze9 (hK : X.K = K := by rfl) : OpR X (compareOp .In) (Us K false) := hK ▸ Zey
theorem ZO (hK : X.K = K := by rfl) : IxR X (Ut K) := hK ▸ Zf6
theorem Z9 (hK : X.K = K := by rfl) : Ys X (.builtin "len") (Qx K) := hK ▸ Zb1
def Zf7 (K : PySem.W.Frag) : List V -> Hp -> VK -> Prop := fun xs H Q => ∃ x c cv t b, xs = [x, c] /\ (∀ v, RelV c v -> v = cv) /\ TyOf K H x t /\ PySem.W.kitOne K t cv = some b /\ Q (.bl b) H
theorem Uu {l : Expr} {tl : TE} (hl : PE X l tl) (hK : X.K = K := by rfl) : PI X tg l (Qw K tl) := hK ▸ Zex hl
theorem VO {e : Expr} {ta : TE} {f : Str} (he : PE X e ta) (hb : attributeBase e f X.env (eval e X.env) = eval e X.env := by rfl) (hK : X.K = K := by rfl) : PE X (.Attribute e f pos) (Qi K ta f) := hK ▸ Zet he hb
def ZcO (K : PySem.W.Frag) : List V -> Hp -> VK -> Prop := fun xs H Q => ∃ p ys, xs = [.ref p] /\ ((SqL K H p ys /\ ∀ l, H l = none -> Q (.ref l) (upd H l (.tup ys))) \/ (SqT K H p ys /\ Q (.ref p) H))
theorem Uv (hK : X.K = K := by rfl) : Ys X (.type "tuple") (ZcO K) := hK ▸ Zah
theorem Xi {o e : Expr} {es : List Expr} {to : TE} {t : TA} {name : Str} {apos cpos : Pos} {T id : String} {r : V -> List V -> Hp -> VK -> Prop} (pa : PlainAttrs T) (slot : Slot T name id) (hty : typeOf (.builtin id) = pure (.type "method_descriptor")) (hm : MtR X id r) (ho : PE X o to) (ha : PA X (e :: es) t)
 (hbase : attributeBase o name X.env (eval o X.env) = eval o X.env := by rfl)
 (hfew : ((backTo cpos (starEach (e :: es) X.env)).all (fun x => !x.1) && (backToKw cpos (keywordEach [] X.env)).all (fun x => x.1.isSome)
   && decide ((e :: es).length + ([] : List Keyword).length + (if ([] : List Keyword).isEmpty then 0 else 1) < 30)) = true := by rfl)
 (hline : (apos.endLine == cpos.line) = true := by rfl) (hs : starEach (e :: es) X.env = (false, eval e X.env) :: starEach es X.env := by rfl) (hplain : (backTo cpos (starEach es X.env)).any (·.1) = false := by rfl) (hK : X.K = K := by rfl) :
 PE X (.Call (.Attribute o name apos) (e :: es) [] cpos) (tBM K T r to t) := hK ▸ Ze6 pa slot hty hm ho ha hbase hfew hline hs hplain
theorem Zfa {es : List Expr} {k : Nat} {t : TGs} {n : Nat} (h : PGs X es t) (hc : X.calm = true := by rfl)
 (hn : (assignEach es X.env).length = n := by rfl) (hst : (assignEach es X.env).findIdx? (·.1) = none := by rfl) (hK : X.K = K := by rfl) : PG X (.Tuple es k pos) (Qa K n t) := hK ▸ Zer hc h hn hst
end
end L2
namespace L2
open PySem PySem.Spec PyProof.Rows
theorem Zcr {H : Hp} {q : Addr} {o : HO} (h : H q = none) : Same H (upd H q o) := fun b u e => by
 rw [Zn (YI e h)]
 exact e
structure Walk (J : It) (xs : List V) (H : Hp) : Prop where
 go : ∀ i, i < xs.length -> J.go i H
 yld : ∀ (i : Nat) v H', i < xs.length -> J.yld i H v H' -> H' = H /\ xs[i]? = some v
 stop : ∀ i, xs.length <= i -> J.stop i H
end L2
namespace L2
open PySem PySem.Spec PyProof.Rows
section
variable {X : Cx} {tg : Expr}
end
end L2
namespace L2
open PySem PySem.Spec PyProof.Rows
section
variable {X : Cx} {elts : List Expr} {x1 : Nat} {tpos : Pos}
end
end L2
namespace L2
open PySem PySem.Spec PyProof.Rows
section
variable {κ : Type} [DecidableEq κ]
def Yf (kvs : List (κ × V)) (k : κ) : Option V := (kvs.find? fun kv => decide (kv.1 = k)).map (·.2)
def ZZ (kvs : List (κ × V)) (k : κ) (v : V) : List (κ × V) :=
 if (kvs.any fun kv => decide (kv.1 = k)) = true then kvs.map (fun kv => if kv.1 = k then (kv.1, v) else kv) else kvs ++ [(k, v)]
theorem Uw {p : κ × V} {r : List (κ × V)} {k : κ} (e : p.1 = k) : Yf (p :: r) k = some p.2 := by simp [Yf, List.find?_cons, e]
theorem Ux {p : κ × V} {r : List (κ × V)} {k : κ} (e : ¬ p.1 = k) : Yf (p :: r) k = Yf r k := by simp [Yf, List.find?_cons, e]
theorem Uy (k : κ) : ∀ kvs : List (κ × V), (kvs.any fun kv => decide (kv.1 = k)) = (Yf kvs k).isSome
 | [] => rfl
 | p :: r => by
  rw [List.any_cons]
  by_cases e : p.1 = k
  · simp only [Uw e, decide_eq_true e, Bool.true_or, Option.isSome_some]
  · rw [Ux e, decide_eq_false e, Bool.false_or]; exact Uy k r
theorem Zac (kvs : List (κ × V)) (k : κ) (v : V) : (ZZ kvs k v).length <= kvs.length + 1 := by
 unfold ZZ
 split
 · rw [List.length_map]; omega
 · rw [List.length_append, List.length_cons, List.length_nil]; omega
theorem RelO.isSome_eq {o : Option V} {u : Option Value} (r : RelO o u) : o.isSome = u.isSome := by
 cases o with
 | none => cases u with
  | none => rfl
  | some _ => exact (show False from r).elim
 | some _ => cases u with
  | none => exact (show False from r).elim
  | some _ => rfl
theorem KV.val {kvs : List (κ × V)} {vs : List (κ × Value)} (r : KV kvs vs) (k : κ) : RelO (Yf kvs k) (valueAt vs k) := by
 unfold KV at r
 induction r with
 | nil => exact True.intro
 | @cons p q ps qs h t ih =>
  obtain ⟨h1, h2⟩ := h
  by_cases e : p.1 = k
  · have e' : q.1 = k := h1.symm.trans e
    have b : valueAt (q :: qs) k = some q.2 := by simp [valueAt, List.find?_cons, e']
    rw [Uw e, b]; exact h2
  · have e' : ¬ q.1 = k := fun z => e (h1.trans z)
    have b : valueAt (q :: qs) k = valueAt qs k := by simp [valueAt, List.find?_cons, e']
    rw [Ux e, b]; exact ih
theorem KV.any {kvs : List (κ × V)} {vs : List (κ × Value)} (r : KV kvs vs) (k : κ) : (kvs.any fun kv => decide (kv.1 = k)) = vs.any fun kv => decide (kv.1 = k) := by
 unfold KV at r
 induction r with
 | nil => rfl
 | cons h t ih => rw [List.any_cons, List.any_cons, ih, h.1]
theorem KV.repl {kvs : List (κ × V)} {vs : List (κ × Value)} (r : KV kvs vs) (k : κ) {y : V} {u : Value} (ry : RelV y u) :
 KV (kvs.map fun kv => if kv.1 = k then (kv.1, y) else kv) (vs.map fun kv => if kv.1 = k then (kv.1, u) else kv) := by
 unfold KV at r ⊢
 induction r with
 | nil => exact .nil
 | @cons p q ps qs h t ih =>
  rw [List.map_cons, List.map_cons]
  refine .cons ?_ ih
  obtain ⟨h1, h2⟩ := h
  by_cases e : p.1 = k
  · rw [if_pos e, if_pos (h1.symm.trans e)]; exact ⟨h1, ry⟩
  · rw [if_neg e, if_neg (fun z => e (h1.trans z))]; exact ⟨h1, h2⟩
theorem KV.put {kvs : List (κ × V)} {vs : List (κ × Value)} (r : KV kvs vs) (k : κ) {y : V} {u : Value} (ry : RelV y u) : KV (ZZ kvs k y) (stored vs k u) := by
 unfold ZZ stored
 rw [r.any k]
 by_cases e : (vs.any fun kv => decide (kv.1 = k)) = true
 · rw [if_pos e, if_pos e]; exact r.repl k ry
 · rw [if_neg e, if_neg e]; exact Paired.snoc r ⟨rfl, ry⟩
theorem KV.keys {kvs : List (κ × V)} {vs : List (κ × Value)} (r : KV kvs vs) : kvs.map (·.1) = vs.map (·.1) := by
 unfold KV at r
 induction r with
 | nil => rfl
 | cons h t ih => rw [List.map_cons, List.map_cons, ih, h.1]
theorem KV.length {kvs : List (κ × V)} {vs : List (κ × Value)} (r : KV kvs vs) : kvs.length = vs.length := Paired.length r
end
theorem VP {P : Program} {w : World} {k : Key} {u : Value} (r : RelV (kV k) u) : (Yi P w).is k u = true := by
 cases k with
 | inl i => obtain ⟨t, e⟩ := (show ∃ t, u = Value.int i t from r); subst e; exact ZaB P w i t
 | inr x => obtain ⟨t, e⟩ := (show ∃ t, u = Value.str x t from r); subst e; exact ZaC P w x t
theorem Zaj {P : Program} {w : World} : ∀ {ks : List Key} {us : List Value}, Vals (ks.map kV) us -> ItemsAre (Yi P w) ks us
 | [], _, r => by rw [List.map_nil] at r; cases r; exact .nil
 | k :: ks, _, r => by
  rw [List.map_cons] at r
  cases r with
  | cons h t => exact .cons (VP h) (Zaj t)
abbrev KT (H : Hp) : List (List Key × V) -> List (List Key × Addr × Value) -> Prop := Paired fun p q => p.1 = q.1 /\ H q.2.1 = some (.tup (p.1.map kV)) /\ RelV p.2 q.2.2
theorem KT.val {H : Hp} {kvs : List (List Key × V)} {xs : List (List Key × Addr × Value)} (r : KT H kvs xs) (k : List Key) : RelO (Yf kvs k) ((atKey xs k).map (·.2)) := by
 induction r with
 | nil => exact True.intro
 | @cons p q ps qs h t ih =>
  obtain ⟨h1, _, h2⟩ := h
  by_cases e : p.1 = k
  · have e' : q.1 = k := h1.symm.trans e
    have b : atKey (q :: qs) k = some q.2 := by simp [atKey, List.find?_cons, e']
    rw [Uw e, b]; exact h2
  · have e' : ¬ q.1 = k := fun z => e (h1.trans z)
    have b : atKey (q :: qs) k = atKey qs k := by simp [atKey, List.find?_cons, e']
    rw [Ux e, b]; exact ih
theorem KT.repl {H : Hp} {kvs : List (List Key × V)} {xs : List (List Key × Addr × Value)} (r : KT H kvs xs) (k : List Key) {y : V} {u : Value} (ry : RelV y u) :
 KT H (kvs.map fun kv => if kv.1 = k then (kv.1, y) else kv) (xs.map (putAt k u)) := by
 induction r with
 | nil => exact .nil
 | @cons p q ps qs h t ih =>
  rw [List.map_cons, List.map_cons]
  refine .cons ?_ ih
  obtain ⟨h1, h2, h3⟩ := h
  unfold putAt
  by_cases e : p.1 = k
  · rw [if_pos e, if_pos (h1.symm.trans e)]; exact ⟨h1, h2, ry⟩
  · rw [if_neg e, if_neg (fun z => e (h1.trans z))]; exact ⟨h1, h2, h3⟩
theorem KT.put {H : Hp} {kvs : List (List Key × V)} {xs : List (List Key × Addr × Value)} (r : KT H kvs xs) (k : List Key) {b : Addr} {y : V} {u : Value} (hb : H b = some (.tup (k.map kV))) (ry : RelV y u) :
 KT H (ZZ kvs k y) (storedH xs k b u) := by
 have e : (kvs.any fun kv => decide (kv.1 = k)) = (atKey xs k).isSome := by
  rw [Uy, (r.val k).isSome_eq, Option.isSome_map]
 unfold ZZ storedH
 rw [e]
 by_cases q : (atKey xs k).isSome = true
 · rw [if_pos q, if_pos q]; exact r.repl k ry
 · rw [if_neg q, if_neg q]; exact Paired.snoc r ⟨rfl, hb, ry⟩
theorem KT.keeps {H H' : Hp} {kvs : List (List Key × V)} {xs : List (List Key × Addr × Value)} (r : KT H kvs xs) (ht : ∀ b ys, H b = some (.tup ys) -> H' b = some (.tup ys)) : KT H' kvs xs :=
 Paired.mapP r fun _ _ z => ⟨z.1, ht _ _ z.2.1, z.2.2⟩
section
variable {P : Program} {w : World} {H : Hp} {h : Heap} {a : Addr}
theorem Zd2 {u : HO} (ok : HOk P w H h) (e : Rd H a u) : ObjOk P w H h a u := e.ok ok
theorem VQ {kvs : List (Key × V)} (ok : HOk P w H h) (e : Rd H a (.dK kvs)) : kvs.length <= sizeLine /\ (a == sysModules) = false /\ ∃ vs, KV kvs vs /\ h.DictOf (Yi P w) a vs :=
 show ObjOk P w H h a (.dK kvs) from Zd2 ok e
theorem Zfb {kvs : List (Key × V)} (ok : HOk P w H h) (e : H a = some (.dK kvs)) : kvs.length <= sizeLine /\ (a == sysModules) = false /\ ∃ vs, KV kvs vs /\ h.DictOf (Yi P w) a vs := VQ ok (.inl e)
theorem Vk {ks : List Key} (ok : HOk P w H h) (e : H a = some (.tup (ks.map kV))) : (tupleKind (Yi P w)).is h ks a := by
 obtain ⟨_, its, r, o, h1, h2, ⟨n, h3⟩, _⟩ := (show ObjOk P w H h a (.tup (ks.map kV)) from ok a _ e)
 exact ⟨o, its.toArray, n, h1, h2, h3, by simpa using Zaj r⟩
theorem VR {kvs : List (List Key × V)} (ok : HOk P w H h) (e : Rd H a (.dT kvs)) : kvs.length <= sizeLine /\ (a == sysModules) = false /\
 ∃ xs, KT H kvs xs /\ h.DictOfH (tupleKind (Yi P w)) a xs := by
 obtain ⟨z, y, xs, r, o, es, ep, h1, h2, h3, h4, h5⟩ := (show ObjOk P w H h a (.dT kvs) from Zd2 ok e)
 refine ⟨z, y, xs, r, o, es, ep, h1, h2, h3, h4, fun x hx => ?_, h5⟩
 have all : ∀ {l : List (List Key × V)} {m : List (List Key × Addr × Value)}, KT H l m -> ∀ x ∈ m, (tupleKind (Yi P w)).is h x.1 x.2.1 := by
  intro l m q
  induction q with
  | nil => intro x hx; exact nomatch hx
  | @cons p q ps qs hq t ih =>
   intro x hx
   rcases List.mem_cons.mp hx with e | hx
   · subst e
     exact Vk ok (by rw [<- hq.1]; exact hq.2.1)
   · exact ih x hx
 exact all r x hx
theorem Zd3 {kvs : List (List Key × V)} (ok : HOk P w H h) (e : H a = some (.dT kvs)) : kvs.length <= sizeLine /\ (a == sysModules) = false /\
 ∃ xs, KT H kvs xs /\ h.DictOfH (tupleKind (Yi P w)) a xs := VR ok (.inl e)
end
def DGet (H : Hp) (a : Addr) (y : V) (r : Option V) : Prop :=
 (∃ kvs k, Rd H a (.dK kvs) /\ y = kV k /\ r = Yf kvs k) \/ ∃ kvs k b, Rd H a (.dT kvs) /\ y = .ref b /\ H b = some (.tup (k.map kV)) /\ r = Yf kvs k
def DPut (H : Hp) (a : Addr) (y v : V) (H' : Hp) : Prop :=
 (∃ kvs k, H a = some (.dK kvs) /\ y = kV k /\ kvs.length < sizeLine /\ H' = upd H a (.dK (ZZ kvs k v))) \/
 ∃ kvs k b, H a = some (.dT kvs) /\ y = .ref b /\ H b = some (.tup (k.map kV)) /\ kvs.length < sizeLine /\ H' = upd H a (.dT (ZZ kvs k v))
theorem DGet.k {H : Hp} {a : Addr} {kvs : List (Key × V)} {k : Key} (e : H a = some (.dK kvs)) : DGet H a (kV k) (Yf kvs k) := .inl ⟨kvs, k, .inl e, rfl, rfl⟩
theorem DGet.t {H : Hp} {a b : Addr} {kvs : List (List Key × V)} {k : List Key} (e : H a = some (.dT kvs)) (eb : H b = some (.tup (k.map kV))) : DGet H a (.ref b) (Yf kvs k) := .inr ⟨kvs, k, b, .inl e, rfl, eb, rfl⟩
theorem DPut.k {H : Hp} {a : Addr} {kvs : List (Key × V)} {k : Key} {v : V} (e : H a = some (.dK kvs)) (hl : kvs.length < sizeLine) : DPut H a (kV k) v (upd H a (.dK (ZZ kvs k v))) := .inl ⟨kvs, k, e, rfl, hl, rfl⟩
theorem DPut.t {H : Hp} {a b : Addr} {kvs : List (List Key × V)} {k : List Key} {v : V} (e : H a = some (.dT kvs)) (eb : H b = some (.tup (k.map kV))) (hl : kvs.length < sizeLine) :
 DPut H a (.ref b) v (upd H a (.dT (ZZ kvs k v))) := .inr ⟨kvs, k, b, e, rfl, eb, hl, rfl⟩
section
variable {X : Cx} {pins : List (Addr × Obj)} {σ : St} {H : Hp} {s : Shared} {a : Addr} {y v : V} {u r : Value} {o : Option V} {A : Around} {E : Value -> Shared -> Prop}
theorem Inv.big (I : Inv X pins σ H s) : sysModules < s.heap.objs.size := by
 have h : mainGlobals < s.heap.objs.size := (I.mod.glob.keeps I.bk).lt
 exact Nat.lt_trans (by decide) h
theorem Zb3 {Q : Value -> Shared -> Prop} (hu : A.units + 1 < cLine) (I : Inv X pins σ H s) (g : DGet H a y (some v)) (ry : RelV y u) (h : ∀ w' s', Inv X pins σ H s' -> RelV v w' -> Q w' s') :
 wpAny (model X.prog X.w) A (getItem (.ref a) u) Q E s := by
 rcases g with ⟨kvs, k, e, ey, l⟩ | ⟨kvs, k, b, e, ey, eb, l⟩
 · subst ey
   obtain ⟨z, hd, vs, rel, dd⟩ := VQ I.hok e
   obtain ⟨w', hw, rw'⟩ := RelO.some_of (v := v) (o := valueAt vs k) (by rw [l]; exact rel.val k)
   exact wpAny_getItem_of (VP ry) dd.mapOf hw (h w' _ (I.tok _) rw')
 · subst ey
   cases (show u = Value.ref b from ry)
   obtain ⟨z, hd, xs, rel, dd⟩ := VR I.hok e
   obtain ⟨w', hw, rw'⟩ := RelO.some_of (v := v) (o := (atKey xs k).map (·.2)) (by rw [l]; exact rel.val k)
   obtain ⟨p, hp, hp2⟩ := Option.map_eq_some_iff.mp hw
   refine wpAny_getItem_heap (tupleKind_room_in1 hu) (Vk I.hok eb) dd hp ?_
   rw [hp2]
   exact h w' _ (I.tok _) rw'
theorem Zf8 {Q : Value -> Shared -> Prop} (hu : A.units + 1 < cLine) (I : Inv X pins σ H s) (g : DGet H a y o) (ry : RelV y u) (h : ∀ s', Inv X pins σ H s' -> Q (.bool o.isSome) s') :
 wpAny (model X.prog X.w) A (compareOp .In u (.ref a)) Q E s := by
 rcases g with ⟨kvs, k, e, ey, l⟩ | ⟨kvs, k, b, e, ey, eb, l⟩
 · subst ey
   obtain ⟨z, hd, vs, rel, dd⟩ := VQ I.hok e
   refine wpAny_in_of (VP ry) hd dd.mapOf ?_
   rw [<- (rel.val k).isSome_eq, <- l]
   exact h _ (I.tok _)
 · subst ey
   cases (show u = Value.ref b from ry)
   obtain ⟨z, hd, xs, rel, dd⟩ := VR I.hok e
   refine wpAny_in_heap (tupleKind_room_in1 hu) (Vk I.hok eb) hd dd ?_
   have q := (rel.val k).isSome_eq
   rw [Option.isSome_map] at q
   rw [<- q, <- l]
   exact h _ (I.tok _)
theorem Zdm {Q : Value -> Shared -> Prop} (hu : A.units + 1 < cLine) (I : Inv X pins σ H s) (g : DGet H a y o) (ry : RelV y u) (h : ∀ s', Inv X pins σ H s' -> Q (.bool (!o.isSome)) s') :
 wpAny (model X.prog X.w) A (compareOp .NotIn u (.ref a)) Q E s := by
 rcases g with ⟨kvs, k, e, ey, l⟩ | ⟨kvs, k, b, e, ey, eb, l⟩
 · subst ey
   obtain ⟨z, hd, vs, rel, dd⟩ := VQ I.hok e
   refine wpAny_notIn_of (VP ry) hd dd.mapOf ?_
   rw [<- (rel.val k).isSome_eq, <- l]
   exact h _ (I.tok _)
 · subst ey
   cases (show u = Value.ref b from ry)
   obtain ⟨z, hd, xs, rel, dd⟩ := VR I.hok e
   refine wpAny_notIn_heap (tupleKind_room_in1 hu) (Vk I.hok eb) hd dd ?_
   have q := (rel.val k).isSome_eq
   rw [Option.isSome_map] at q
   rw [<- q, <- l]
   exact h _ (I.tok _)
theorem Qy {h' : Heap} {t' : Nat} {ob : HO} (I : Inv X pins σ H s) (mu : Mut (H a)) (hs : Heap.SameBut a s.heap h') (he : ∃ q, h'.get? a = some q) (new : ObjOk X.prog X.w (upd H a ob) h' a ob) :
 Inv X pins σ (upd H a ob) { s with heap := h', toks := t' } :=
 I.write (x := a) (e := a) mu (.inl rfl) (fun b q hb z => (hs.2 b hb).trans z) he new
theorem Zez {P : Program} {w : World} {H' : Hp} {h' : Heap} {kvs : List (Key × V)} {vs : List (Key × Value)} (z : kvs.length <= sizeLine) (hd : (a == sysModules) = false) (rel : KV kvs vs) (dd : h'.DictOf (Yi P w) a vs) :
 ObjOk P w H' h' a (.dK kvs) := ⟨z, hd, vs, rel, dd⟩
theorem Zb4 {H' : Hp} {Q : Unit -> Shared -> Prop} (hu : A.units + 1 < cLine) (I : Inv X pins σ H s) (g : DPut H a y v H') (ry : RelV y u) (rv : RelV v r) (h : ∀ s', Inv X pins σ H' s' -> Q () s') :
 wpAny (model X.prog X.w) A (setItem (.ref a) u r) Q E s := by
 rcases g with ⟨kvs, k, e, ey, l, eH⟩ | ⟨kvs, k, b, e, ey, eb, l, eH⟩
 · subst ey eH
   obtain ⟨z, hd, vs, rel, dd⟩ := Zfb I.hok e
   have hz : vs.length <= sizeLine := by rw [<- rel.length]; exact z
   have hl : (ZZ kvs k v).length <= sizeLine := by have := Zac kvs k v; omega
   refine wpAny_setItem_pairs (hsz := hz) (VP ry) dd fun h' dd' hs => h _ ?_
   have he : ∃ q, h'.get? a = some q := let ⟨q, _, _, hq, _⟩ := dd'; ⟨q, hq⟩
   exact Qy I (by rw [e]; exact True.intro) hs he (Zez hl hd (rel.put k rv) dd')
 · subst ey eH
   cases (show u = Value.ref b from ry)
   obtain ⟨z, hd, xs, rel, dd⟩ := Zd3 I.hok e
   have hz : xs.length <= sizeLine := by rw [<- Paired.length rel]; exact z
   have hl : (ZZ kvs k v).length <= sizeLine := by have := Zac kvs k v; omega
   refine wpAny_setItem_heap (hsz := hz) (tupleKind_room_in1 hu) (Vk I.hok eb) dd fun h' dd' hs => h _ ?_
   obtain ⟨q, es, ep, hq, h2, h3, h4, _, h5⟩ := dd'
   refine Qy I (by rw [e]; exact True.intro) hs ⟨q, hq⟩ ⟨hl, hd, _, (rel.put k eb rv).keeps fun c ys ec => ?_, q, es, ep, hq, h2, h3, h4, h5⟩
   rw [Zn (ne_of ec e (fun z => nomatch z))]
   exact ec
end
section
variable {X : Cx} {pins : List (Addr × Obj)} {σ : St} {H : Hp} {s : Shared} {a : Addr} {kvs : List (Key × V)} {k : Key} {u : Value} {A : Around} {E : Value -> Shared -> Prop}
end
def ZfO (i : Expr) : Prop := ∀ ov iv, subscripted i false ov iv = operate [ov, iv] (getItem ov iv)
theorem Zdn {prog : Program} {w : World} {A : Around} {E : Value -> Shared -> Prop} {s : Shared} {env : Env} {value slice : Expr} {pos : Pos} {T id : String} {Q : Value -> Shared -> Prop}
 (hl : typeLookup (.type T) "__getitem__" = pure (some (.builtin id))) (hs : ZfO slice)
 (h : wpAny (model prog w) A (eval value env) (fun o s₁ => wpAny (model prog w) A (eval slice env) (fun i s₂ => s₂.TypeIs o T /\ wpAny (model prog w) A (getItem o i) Q E s₂) E s₁) E s) :
 wpAny (model prog w) A (eval (.Subscript value slice pos) env) Q E s := by
 refine Subscript_ (wpAny_mono h (fun o s₁ h₁ => wpAny_mono h₁ (fun i s₂ h₂ => ?_) fun _ _ x => x) fun _ _ x => x)
 obtain ⟨hT, h₂⟩ := h₂
 unfold subscriptTail
 refine wpAny_bind ?_
 rw [getitemInPython_of_ne hT.not_modules]
 refine wpAny_bind (wpAny_specialOf hT hl ?_)
 have fin : wpAny (model prog w) A (subscripted slice false o i) (fun r s₃ => wpAny (model prog w) A (letTemporaryGo value o r >>= fun _ => pure r) Q E s₃) E s₂ := by
  rw [hs o i]
  exact wpAny_operating (wpAny_mono h₂ (fun r s₃ h₃ => wpAny_bind (wpAny_letTemporaryGo (wpAny_pure h₃))) fun _ _ x => x)
 first
  | exact wpAny_pure (wpAny_bind fin)
  | exact wpAny_bind (wpAny_pure (wpAny_bind fin))
  | exact wpAny_bind fin
theorem ZaD {X : Cx} {pins : List (Addr × Obj)} {σ : St} {H : Hp} {s : Shared} {a : Addr} {y : V} {o : Option V} (I : Inv X pins σ H s) (g : DGet H a y o) : s.TypeIs (.ref a) "dict" := by
 rcases g with ⟨kvs, k, e, _, _⟩ | ⟨kvs, k, b, e, _, _, _⟩
 · obtain ⟨_, _, vs, _, dd⟩ := VQ I.hok e
   exact dd.typeIs
 · obtain ⟨_, _, xs, _, dd⟩ := VR I.hok e
   exact dd.typeIs
def Zd4 (td ty : TE) : TE := fun σ H Q => td σ H fun x H1 => ty σ H1 fun y H2 => ∃ a v, x = .ref a /\ DGet H2 a y (some v) /\ Q v H2
def ZfP (ty td : TE) : TE := fun σ H Q => ty σ H fun y H1 => td σ H1 fun x H2 => ∃ a o, x = .ref a /\ DGet H2 a y o /\ Q (.bl o.isSome) H2
def Zbl (ty td : TE) : TE := fun σ H Q => ty σ H fun y H1 => td σ H1 fun x H2 => ∃ a o, x = .ref a /\ DGet H2 a y o /\ Q (.bl (!o.isSome)) H2
def Qz (td ty tv : TE) : TS := fun D σ H => tv σ H fun v H1 => td σ H1 fun x H2 => ty σ H2 fun y H3 => ∃ a H4, x = .ref a /\ DPut H3 a y v H4 /\ D.nx σ H4
section
variable {X : Cx} {o i e value : Expr} {pos pos' tpos : Pos} {td ty tv : TE}
theorem Zdo (hu : X.A.units + 1 < cLine) (ho : PE X o td) (hi : PE X i ty) (hs : ZfO i) : PE X (.Subscript o i pos) (Zd4 td ty) := by
 intro pins s σ H Q I h
 refine Zdn PySem.F.slot_dict_getitem.lookup hs (thn (ho pins s σ H _ I h) fun u s1 ⟨x, H1, I1, rx, q1⟩ => thn (hi pins s1 σ H1 _ I1 q1) fun iv s2 ⟨y, H2, I2, ry, a, v, ex, g, q2⟩ => ?_)
 subst ex
 obtain rfl : u = Value.ref a := rx
 exact ⟨ZaD I2 g, Zb3 hu I2 g ry fun w' s3 I3 rw' => ⟨v, H2, I3, rw', q2⟩⟩
theorem ZeA (hu : X.A.units + 1 < cLine) (hi : PE X i ty) (ho : PE X o td) : PC X .In i o (ZfP ty td) := by
 intro pins s σ H Q I h
 refine thn (hi pins s σ H _ I h) fun iv s1 ⟨y, H1, I1, ry, q1⟩ => thn (ho pins s1 σ H1 _ I1 q1) fun u s2 ⟨x, H2, I2, rx, a, ov, ex, g, q2⟩ => ?_
 subst ex
 obtain rfl : u = Value.ref a := rx
 exact Zf8 hu I2 g ry fun s3 I3 => ⟨.bl ov.isSome, H2, I3, rfl, q2⟩
theorem Zak (hu : X.A.units + 1 < cLine) (hi : PE X i ty) (ho : PE X o td) : PC X .NotIn i o (Zbl ty td) := by
 intro pins s σ H Q I h
 refine thn (hi pins s σ H _ I h) fun iv s1 ⟨y, H1, I1, ry, q1⟩ => thn (ho pins s1 σ H1 _ I1 q1) fun u s2 ⟨x, H2, I2, rx, a, ov, ex, g, q2⟩ => ?_
 subst ex
 obtain rfl : u = Value.ref a := rx
 exact Zdm hu I2 g ry fun s3 I3 => ⟨.bl (!ov.isSome), H2, I3, rfl, q2⟩
theorem QA (hu : X.A.units + 1 < cLine) (ho : PE X o td) (hi : PE X i ty) (hv : PE X value tv) (hs : swapsWith value (some (.Subscript o i pos')) pos.line X.env = pure false) :
 PS X (.Assign [.Subscript o i pos'] value pos) (Qz td ty tv) := by
 intro pins s σ H D I h
 refine wpAny_Assign_Subscript (thn (hv pins s σ H _ I h) fun r s1 ⟨v, H1, I1, rv, q1⟩ => thn (ho pins s1 σ H1 _ I1 q1) fun u s2 ⟨x, H2, I2, rx, q2⟩ => thn (hi pins s2 σ H2 _ I2 q2) fun iv s3 ⟨y, H3, I3, ry, a, H4, ex, g, q3⟩ => ?_) hs
 subst ex
 obtain rfl : u = Value.ref a := rx
 exact Zb4 hu I3 g ry rv fun s4 I4 => ⟨σ, H4, I4, q3⟩
end
theorem Zcs {P : Program} {w : World} {H : Hp} (h : Heap) (hb : sysModules < h.objs.size) : ObjOk P w H (h.push { cls := .type "dict", data := .dict #[] }) h.objs.size (.dK []) :=
 ⟨Nat.zero_le _, beq_eq_false_iff_ne.mpr (Ne.symm (Nat.ne_of_lt hb)), [], .nil, Heap.DictOf.new h⟩
theorem Zct {P : Program} {w : World} {H : Hp} (h : Heap) (hb : sysModules < h.objs.size) : ObjOk P w H (h.push { cls := .type "dict", data := .dict #[] }) h.objs.size (.dT []) :=
 ⟨Nat.zero_le _, beq_eq_false_iff_ne.mpr (Ne.symm (Nat.ne_of_lt hb)), [], .nil, _, #[], 0, Heap.get?_push_size _ rfl, ⟨rfl, rfl, rfl⟩, rfl, rfl, List.nodup_nil⟩
def tDNewK : TE := fun _ H Q => ∀ p, H p = none -> Q (.ref p) (upd H p (.dK []))
section
variable {X : Cx} {pos : Pos}
theorem Zcu : PE X (.Dict [] [] pos) tDNewK := fun pins s σ H Q I h =>
 wpAny_Dict_empty ⟨.ref s.heap.objs.size, _, I.laid (a := s.heap.objs.size) (o := .dK []) (t' := s.toks) (fun _ _ q => Heap.get?_push_of_some _ q) (Nat.le_refl _) (Zcs s.heap I.big), rfl, h _ (I.hok.fresh (Nat.le_refl _))⟩
end
def QB : List (TE × TE) -> St -> Hp -> (List (V × V) -> Hp -> Prop) -> Prop
 | [], _, H, Q => Q [] H
 | (tk, tv) :: r, σ, H, Q => tk σ H fun x H1 => tv σ H1 fun y H2 => QB r σ H2 fun ps H3 => Q ((x, y) :: ps) H3
abbrev VV : List (V × V) -> List (Value × Value) -> Prop := Paired fun p q => RelV p.1 q.1 /\ RelV p.2 q.2
def PPs (X : Cx) (pos : Pos) (keys : List (Option Expr)) (values : List Expr) (trs : List (TE × TE)) : Prop :=
 ∀ (pins : List (Addr × Obj)) (s : Shared) (σ : St) (H : Hp) (Q : List (V × V) -> Hp -> Prop), Inv X pins σ H s -> QB trs σ H Q ->
  wpAny (model X.prog X.w) X.A (evalPairs (pairTrees keys values X.env pos)) (fun vs s' => ∃ ps H', Inv X pins σ H' s' /\ VV ps vs /\ Q ps H') X.xe s
theorem Zdp {X : Cx} {pos : Pos} : PPs X pos [] [] [] := fun pins s σ H Q I h => pairTrees_nil_walk ⟨[], H, I, .nil, h⟩
theorem Zcv {X : Cx} {pos : Pos} {k v : Expr} {ks : List (Option Expr)} {vs : List Expr} {tk tv : TE} {trs : List (TE × TE)} (hk : PE X k tk) (hv : PE X v tv) (hr : PPs X pos ks vs trs) :
 PPs X pos (some k :: ks) (v :: vs) ((tk, tv) :: trs) := fun pins s σ H Q I h =>
 pairTrees_cons_walk (thn (hk pins s σ H _ I h) fun u s1 ⟨x, H1, I1, rx, q1⟩ => thn (hv pins s1 σ H1 _ I1 q1) fun w2 s2 ⟨y, H2, I2, ry, q2⟩ =>
  thn (hr pins s2 σ H2 _ I2 q2) fun ws s3 ⟨ps, H3, I3, rel, q3⟩ => ⟨(x, y) :: ps, H3, I3, .cons ⟨rx, ry⟩ rel, q3⟩)
structure M1 (X : Cx) (o : Expr) (m : Str) (apos : Pos) (e : Expr) (cpos : Pos) : Prop where
 base : attributeBase o m X.env (eval o X.env) = eval o X.env
 few : ((backTo cpos (starEach [e] X.env)).all (fun x => !x.1) && (backToKw cpos (keywordEach [] X.env)).all (fun x => x.1.isSome)
  && decide (([e] : List Expr).length + ([] : List Keyword).length + (if ([] : List Keyword).isEmpty then 0 else 1) < 30)) = true
 line : (apos.endLine == cpos.line) = true
 trees : backTo cpos (starEach [e] X.env) = [(false, eval e X.env)]
structure M2 (X : Cx) (o : Expr) (m : Str) (apos : Pos) (e f : Expr) (cpos : Pos) : Prop where
 base : attributeBase o m X.env (eval o X.env) = eval o X.env
 few : ((backTo cpos (starEach [e, f] X.env)).all (fun x => !x.1) && (backToKw cpos (keywordEach [] X.env)).all (fun x => x.1.isSome)
  && decide (([e, f] : List Expr).length + ([] : List Keyword).length + (if ([] : List Keyword).isEmpty then 0 else 1) < 30)) = true
 line : (apos.endLine == cpos.line) = true
 trees : backTo cpos (starEach [e, f] X.env) = [(false, eval e X.env), (false, eval f X.env)]
section
variable {X : Cx} {pins : List (Addr × Obj)} {σ : St} {H : Hp} {s : Shared} {a : Addr} {y d : V} {u r : Value} {o : Option V} {A : Around} {E : Value -> Shared -> Prop}
end
section
variable {X : Cx} {o e f : Expr} {apos cpos : Pos} {td ty tx : TE}
end
section
variable {X : Cx} {pins : List (Addr × Obj)} {σ : St} {H : Hp} {s : Shared} {a : Addr} {kvs : List (Key × V)} {A : Around} {E : Value -> Shared -> Prop}
end
section
variable {X : Cx} {pins : List (Addr × Obj)} {σ : St} {H : Hp} {s : Shared} {a : Addr} {y : V} {u : Value} {A : Around} {E : Value -> Shared -> Prop}
end
end L2
namespace DL
open PySem PySem.Spec L2
inductive D where
 | non
 | bl (b : Bool)
 | int (i : Int)
 | str (cs : List Nat)
 | lst (xs : List D)
 | tup (xs : List D)
 | obj (c : String) (ks : List String) (xs : List D)
 | dct (ks : List Key) (xs : List D)
 | dtt (ks : List (List Key)) (xs : List D)
def KL (K : PySem.W.Frag) (a : Addr) (vs : List V) : Prop := ∃ (o : Obj) (its : Array Value) (n : Nat), K.lookup a = some o /\ o.cls = .type "list" /\ o.dict = none /\ o.data = .seq its n /\ its.size <= sizeLine /\ Vals vs its.toList
structure Kn where
 c : String -> Addr
 K : PySem.W.Frag
def Zi : D -> Bool
 | .non => true
 | .bl _ => true
 | .int _ => true
 | .str _ => true
 | _ => false
mutual
def Rep (cA : Kn) (av : Addr -> Prop) (H : Hp) : D -> V -> Prop
 | .non, v => v = .non
 | .bl b, v => v = .bl b
 | .int i, v => v = .int i
 | .str cs, v => v = S cs
 | .lst xs, v => ∃ a vs, v = .ref a /\ (av a -> KL cA.K a vs) /\ SqL cA.K H a vs /\ RepL cA av H xs vs
 | .tup xs, v => ∃ a vs, v = .ref a /\ ¬ av a /\ H a = some (.tup vs) /\ RepL cA av H xs vs
 | .obj c ks xs, v => ∃ a dx vs, v = .ref a /\ ¬ av a /\ H a = some (.ins (cA.c c) dx ((ks.map Str.ofString).zip vs)) /\ ks.length = xs.length /\ RepL cA av H xs vs
 | .dct ks xs, v => ∃ a vs, v = .ref a /\ ¬ av a /\ H a = some (.dK (ks.zip vs)) /\ ks.length = xs.length /\ RepL cA av H xs vs
 | .dtt ks xs, v => ∃ a vs, v = .ref a /\ ¬ av a /\ H a = some (.dT (ks.zip vs)) /\ ks.length = xs.length /\ RepL cA av H xs vs
def RepL (cA : Kn) (av : Addr -> Prop) (H : Hp) : List D -> List V -> Prop
 | [], vs => vs = []
 | x :: xs, vs => ∃ v r, vs = v :: r /\ Rep cA av H x v /\ RepL cA av H xs r
end
section
variable {cA : Kn} {G : Cn} {av av' : Addr -> Prop} {H H' : Hp}
theorem Rd.ext {a : Addr} {u : HO} (h : Rd H a u) (k : ∀ o, H a = some o -> H' a = some o) : Rd H' a u := by
 rcases h with h | ⟨o, h⟩
 · exact .inl (k _ h)
 · exact .inr ⟨o, k _ h⟩
theorem Rd.there {a : Addr} {u : HO} (h : Rd H a u) : H a ≠ none := by
 rcases h with h | ⟨o, h⟩ <;> rw [h] <;> exact fun z => by cases z
theorem ZcP {K : PySem.W.Frag} {a : Addr} {vs : List V} (n : av a -> KL K a vs) (r : SqL K H a vs) (k : ∀ b o, ¬ av b -> H b = some o -> H' b = some o) : SqL K H' a vs := by
 by_cases h : av a
 · exact .inr (n h)
 · rcases r with r | r
   · exact .inl (Rd.ext r fun o => k a o h)
   · exact .inr r
theorem Zfc {K : PySem.W.Frag} {a : Addr} {vs : List V} (n : av a -> KL K a vs) (r : SqL K H a vs) (k : ∀ b, av' b -> av b \/ H b = none) : av' a -> KL K a vs := fun z => by
 rcases k a z with z | z
 · exact n z
 · rcases r with r | r
   · exact absurd z (Rd.there r)
   · exact r
mutual
theorem Rep.ext : ∀ {d : D} {v : V}, (∀ b o, ¬ av b -> H b = some o -> H' b = some o) -> Rep cA av H d v -> Rep cA av H' d v
 | .non, _, _, h => h
 | .bl _, _, _, h => h
 | .int _, _, _, h => h
 | .str _, _, _, h => h
 | .lst xs, v, k, h => by
  unfold Rep at h ⊢
  obtain ⟨a, vs, e, n, r, l⟩ := h
  exact ⟨a, vs, e, n, ZcP n r k, RepL.ext k l⟩
 | .tup xs, v, k, h => by
  unfold Rep at h ⊢
  obtain ⟨a, vs, e, n, r, l⟩ := h
  exact ⟨a, vs, e, n, k a _ n r, RepL.ext k l⟩
 | .obj c ks xs, v, k, h => by
  unfold Rep at h ⊢
  obtain ⟨a, dx, vs, e, n, r, z, l⟩ := h
  exact ⟨a, dx, vs, e, n, k a _ n r, z, RepL.ext k l⟩
 | .dct ks xs, v, k, h => by
  unfold Rep at h ⊢
  obtain ⟨a, vs, e, n, r, z, l⟩ := h
  exact ⟨a, vs, e, n, k a _ n r, z, RepL.ext k l⟩
 | .dtt ks xs, v, k, h => by
  unfold Rep at h ⊢
  obtain ⟨a, vs, e, n, r, z, l⟩ := h
  exact ⟨a, vs, e, n, k a _ n r, z, RepL.ext k l⟩
theorem RepL.ext : ∀ {xs : List D} {vs : List V}, (∀ b o, ¬ av b -> H b = some o -> H' b = some o) -> RepL cA av H xs vs -> RepL cA av H' xs vs
 | [], _, _, h => h
 | x :: xs, vs, k, h => by
  unfold RepL at h ⊢
  obtain ⟨v, r, e, h1, h2⟩ := h
  exact ⟨v, r, e, Rep.ext k h1, RepL.ext k h2⟩
end
mutual
theorem Rep.av : ∀ {d : D} {v : V}, (∀ b, av' b -> av b \/ H b = none) -> Rep cA av H d v -> Rep cA av' H d v
 | .non, _, _, h => h
 | .bl _, _, _, h => h
 | .int _, _, _, h => h
 | .str _, _, _, h => h
 | .lst xs, v, k, h => by
  unfold Rep at h ⊢
  obtain ⟨a, vs, e, n, r, l⟩ := h
  exact ⟨a, vs, e, Zfc n r k, r, RepL.av k l⟩
 | .tup xs, v, k, h => by
  unfold Rep at h ⊢
  obtain ⟨a, vs, e, n, r, l⟩ := h
  exact ⟨a, vs, e, fun z => (k a z).elim n (by rw [r]; exact fun z => by cases z), r, RepL.av k l⟩
 | .obj c ks xs, v, k, h => by
  unfold Rep at h ⊢
  obtain ⟨a, dx, vs, e, n, r, z, l⟩ := h
  exact ⟨a, dx, vs, e, fun y => (k a y).elim n (by rw [r]; exact fun z => by cases z), r, z, RepL.av k l⟩
 | .dct ks xs, v, k, h => by
  unfold Rep at h ⊢
  obtain ⟨a, vs, e, n, r, z, l⟩ := h
  exact ⟨a, vs, e, fun y => (k a y).elim n (by rw [r]; exact fun z => by cases z), r, z, RepL.av k l⟩
 | .dtt ks xs, v, k, h => by
  unfold Rep at h ⊢
  obtain ⟨a, vs, e, n, r, z, l⟩ := h
  exact ⟨a, vs, e, fun y => (k a y).elim n (by rw [r]; exact fun z => by cases z), r, z, RepL.av k l⟩
theorem RepL.av : ∀ {xs : List D} {vs : List V}, (∀ b, av' b -> av b \/ H b = none) -> RepL cA av H xs vs -> RepL cA av' H xs vs
 | [], _, _, h => h
 | x :: xs, vs, k, h => by
  unfold RepL at h ⊢
  obtain ⟨v, r, e, h1, h2⟩ := h
  exact ⟨v, r, e, Rep.av k h1, RepL.av k h2⟩
end
theorem Rep.scal {d : D} {v : V} (hs : Zi d = true) (h : Rep cA av H d v) : Rep cA av' H' d v := by
 cases d <;> first | exact h | cases hs
theorem Rep.same {d : D} {v : V} (k : Same H H') (h : Rep cA av H d v) : Rep cA av H' d v := h.ext fun b o _ => k b o
theorem RepL.same {xs : List D} {vs : List V} (k : Same H H') (h : RepL cA av H xs vs) : RepL cA av H' xs vs := h.ext fun b o _ => k b o
theorem RepL.nil : RepL cA av H [] [] := by unfold RepL; rfl
theorem RepL.cons {d : D} {v : V} {xs : List D} {vs : List V} (h : Rep cA av H d v) (t : RepL cA av H xs vs) : RepL cA av H (d :: xs) (v :: vs) := by
 unfold RepL
 exact ⟨v, vs, rfl, h, t⟩
theorem RepL.uncons {d : D} {xs : List D} {vs : List V} (h : RepL cA av H (d :: xs) vs) : ∃ v r, vs = v :: r /\ Rep cA av H d v /\ RepL cA av H xs r := by
 unfold RepL at h
 exact h
theorem RepL.nil_of {vs : List V} (h : RepL cA av H [] vs) : vs = [] := by
 unfold RepL at h
 exact h
theorem RepL.length : ∀ {xs : List D} {vs : List V}, RepL cA av H xs vs -> xs.length = vs.length
 | [], vs, h => by rw [h.nil_of]; rfl
 | x :: xs, vs, h => by
  obtain ⟨v, r, rfl, _, t⟩ := h.uncons
  rw [List.length_cons, List.length_cons, RepL.length t]
theorem RepL.get : ∀ {xs : List D} {vs : List V} {i : Nat} {x : D}, RepL cA av H xs vs -> xs[i]? = some x -> ∃ v, vs[i]? = some v /\ Rep cA av H x v
 | [], _, _, _, _, e => by simp at e
 | y :: xs, vs, 0, x, h, e => by
  obtain ⟨v, r, rfl, h1, _⟩ := h.uncons
  simp at e; subst e
  exact ⟨v, rfl, h1⟩
 | y :: xs, vs, i + 1, x, h, e => by
  obtain ⟨v, r, rfl, _, t⟩ := h.uncons
  obtain ⟨u, h1, h2⟩ := RepL.get (i := i) t (by simpa using e)
  exact ⟨u, by simpa using h1, h2⟩
theorem RepL.append : ∀ {xs ys : List D} {vs ws : List V}, RepL cA av H xs vs -> RepL cA av H ys ws -> RepL cA av H (xs ++ ys) (vs ++ ws)
 | [], _, vs, _, h, t => by rw [h.nil_of]; exact t
 | x :: xs, ys, vs, ws, h, t => by
  obtain ⟨v, r, rfl, h1, h2⟩ := h.uncons
  exact .cons h1 (RepL.append h2 t)
theorem RepL.set {d : D} {v : V} (hd : Rep cA av H d v) : ∀ {xs : List D} {vs : List V} (i : Nat), RepL cA av H xs vs -> RepL cA av H (xs.set i d) (vs.set i v)
 | [], vs, _, h => by rw [h.nil_of]; exact .nil
 | x :: xs, vs, 0, h => by
  obtain ⟨v', r, rfl, h1, h2⟩ := h.uncons
  exact .cons hd h2
 | x :: xs, vs, i + 1, h => by
  obtain ⟨v', r, rfl, h1, h2⟩ := h.uncons
  exact .cons h1 (RepL.set hd i h2)
def val : D -> V
 | .bl b => .bl b
 | .int i => .int i
 | .str cs => S cs
 | _ => .non
theorem Rep.val {d : D} {v : V} (hs : Zi d = true) (h : Rep cA av H d v) : v = DL.val d := by
 cases d <;> first | exact h | cases hs
theorem Rep.of_val {d : D} (hs : Zi d = true) : Rep cA av H d (DL.val d) := by
 cases d <;> first | rfl | cases hs
theorem RepL.vals : ∀ {xs : List D} {vs : List V}, xs.all Zi = true -> RepL cA av H xs vs -> vs = xs.map DL.val
 | [], vs, _, h => h.nil_of
 | x :: xs, vs, hs, h => by
  rw [List.all_cons, Bool.and_eq_true] at hs
  obtain ⟨v, r, rfl, h1, h2⟩ := h.uncons
  rw [List.map_cons, h1.val hs.1, RepL.vals hs.2 h2]
theorem RepL.of_vals : ∀ {xs : List D}, xs.all Zi = true -> RepL cA av H xs (xs.map DL.val)
 | [], _ => .nil
 | x :: xs, hs => by
  rw [List.all_cons, Bool.and_eq_true] at hs
  exact .cons (.of_val hs.1) (RepL.of_vals hs.2)
def RepT (cA : Kn) (t i : Addr -> Prop) (H : Hp) : D -> V -> Prop
 | .lst xs, v => ∃ a vs, v = .ref a /\ (t a -> KL cA.K a vs) /\ SqL cA.K H a vs /\ RepL cA i H xs vs
 | .tup xs, v => ∃ a vs, v = .ref a /\ ¬ t a /\ H a = some (.tup vs) /\ RepL cA i H xs vs
 | .obj c ks xs, v => ∃ a dx vs, v = .ref a /\ ¬ t a /\ H a = some (.ins (cA.c c) dx ((ks.map Str.ofString).zip vs)) /\ ks.length = xs.length /\ RepL cA i H xs vs
 | .dct ks xs, v => ∃ a vs, v = .ref a /\ ¬ t a /\ H a = some (.dK (ks.zip vs)) /\ ks.length = xs.length /\ RepL cA i H xs vs
 | .dtt ks xs, v => ∃ a vs, v = .ref a /\ ¬ t a /\ H a = some (.dT (ks.zip vs)) /\ ks.length = xs.length /\ RepL cA i H xs vs
 | d, v => v = DL.val d
theorem Rep.t {d : D} {v : V} (h : Rep cA av H d v) : RepT cA av av H d v := by
 cases d <;> first | exact h | (unfold Rep at h; exact h)
theorem RepT.r {d : D} {v : V} (h : RepT cA av av H d v) : Rep cA av H d v := by
 cases d <;> first | exact h | (unfold Rep; exact h)
theorem RepT.weak {t t' i i' : Addr -> Prop} {d : D} {v : V} (ht : ∀ a, t' a -> t a) (hi : ∀ a, i' a -> i a) (h : RepT cA t i H d v) : RepT cA t' i' H d v := by
 cases d with
 | lst xs => obtain ⟨a, vs, e, n, r, l⟩ := h; exact ⟨a, vs, e, fun z => n (ht a z), r, l.av fun b z => .inl (hi b z)⟩
 | tup xs => obtain ⟨a, vs, e, n, r, l⟩ := h; exact ⟨a, vs, e, fun z => n (ht a z), r, l.av fun b z => .inl (hi b z)⟩
 | obj c ks xs => obtain ⟨a, dx, vs, e, n, r, z, l⟩ := h; exact ⟨a, dx, vs, e, fun z => n (ht a z), r, z, l.av fun b z => .inl (hi b z)⟩
 | dct ks xs => obtain ⟨a, vs, e, n, r, z, l⟩ := h; exact ⟨a, vs, e, fun z => n (ht a z), r, z, l.av fun b z => .inl (hi b z)⟩
 | dtt ks xs => obtain ⟨a, vs, e, n, r, z, l⟩ := h; exact ⟨a, vs, e, fun z => n (ht a z), r, z, l.av fun b z => .inl (hi b z)⟩
 | _ => exact h
theorem RepT.same {t i : Addr -> Prop} {d : D} {v : V} (k : Same H H') (h : RepT cA t i H d v) : RepT cA t i H' d v := by
 cases d with
 | lst xs => obtain ⟨a, vs, e, n, r, l⟩ := h; exact ⟨a, vs, e, n, k.seq r, l.same k⟩
 | tup xs => obtain ⟨a, vs, e, n, r, l⟩ := h; exact ⟨a, vs, e, n, k a _ r, l.same k⟩
 | obj c ks xs => obtain ⟨a, dx, vs, e, n, r, z, l⟩ := h; exact ⟨a, dx, vs, e, n, k a _ r, z, l.same k⟩
 | dct ks xs => obtain ⟨a, vs, e, n, r, z, l⟩ := h; exact ⟨a, vs, e, n, k a _ r, z, l.same k⟩
 | dtt ks xs => obtain ⟨a, vs, e, n, r, z, l⟩ := h; exact ⟨a, vs, e, n, k a _ r, z, l.same k⟩
 | _ => exact h
end
abbrev Env := List (Option D)
structure Cn where
 cA : Kn
 pin : Nat -> Option (Addr ⊕ V)
def AV (av : Addr -> Prop) (A : Nat -> Option Addr) (a : Addr) : Prop := av a \/ ∃ i, A i = some a
def Own (cA : Kn) (av : Addr -> Prop) (H : Hp) : D -> Addr -> Prop
 | .lst xs, a => ∃ vs, H a = some (.lst vs) /\ RepL cA av H xs vs
 | .obj c ks xs, a => ∃ dx vs, H a = some (.ins (cA.c c) dx ((ks.map Str.ofString).zip vs)) /\ ks.length = xs.length /\ RepL cA av H xs vs
 | .dct ks xs, a => ∃ vs, H a = some (.dK (ks.zip vs)) /\ ks.length = xs.length /\ RepL cA av H xs vs
 | .dtt ks xs, a => ∃ vs, H a = some (.dT (ks.zip vs)) /\ ks.length = xs.length /\ RepL cA av H xs vs
 | _, _ => False
structure ER (G : Cn) (ow : List Nat) (H0 : Hp) (av : Addr -> Prop) (A : Nat -> Option Addr) (σ : St) (H : Hp) (δ : Env) : Prop where
 same : Same H0 H
 avd : ∀ a, av a -> H0 a ≠ none
 fr : ∀ i a, A i = some a -> H0 a = none
 inj : ∀ i j a, A i = some a -> A j = some a -> i = j
 live : ∀ i a, A i = some a -> H a ≠ none
 dom : ∀ i, A i ≠ none -> i ∈ ow
 dom' : ∀ i ∈ ow, A i ≠ none
 len : σ.length = δ.length
 pin : ∀ i a, G.2 i = some (.inl a) -> A i = some a
 kept : ∀ i v, G.2 i = some (.inr v) -> σ[i]? = some (some v)
 var : ∀ (i : Nat) (d : D), δ[i]? = some (some d) -> ∃ v, σ[i]? = some (some v) /\ (A i = none -> Rep G.1 (AV av A) H d v) /\ (∀ a, A i = some a -> v = .ref a /\ Own G.1 (AV av A) H d a)
inductive Ql where
 | cl | tp | dt
def RepQ (cA : Kn) (av : Addr -> Prop) (A : Nat -> Option Addr) (H : Hp) : Ql -> D -> V -> Prop
 | .cl, d, v => RepT cA (AV av A) (AV av A) H d v
 | .tp, d, v => RepT cA av (AV av A) H d v
 | .dt, d, v => RepT cA av av H d v
def Ql.it : Ql -> Ql
 | .dt => .dt
 | _ => .cl
section
variable {cA : Kn} {G : Cn} {ow : List Nat} {H0 H H' : Hp} {av : Addr -> Prop} {A : Nat -> Option Addr} {σ : St} {δ : Env}
theorem AV.l {a : Addr} (h : av a) : AV av A a := .inl h
def Ql.iv (q : Ql) (av : Addr -> Prop) (A : Nat -> Option Addr) : Addr -> Prop := match q with
 | .dt => av
 | _ => AV av A
theorem RepQ.tp {q : Ql} {d : D} {v : V} (h : RepQ cA av A H q d v) : RepT cA av (q.iv av A) H d v := by
 cases q with
 | cl => exact h.weak (fun a => .inl) fun a z => z
 | tp => exact h
 | dt => exact h
theorem RepQ.any {q : Ql} {d : D} {v : V} (h : RepQ cA av A H q d v) : Rep cA av H d v := by
 cases q with
 | cl => exact (h.weak (fun a => .inl) fun a => .inl).r
 | tp => exact (h.weak (fun a z => z) fun a => .inl).r
 | dt => exact h.r
theorem RepQ.same {q : Ql} {d : D} {v : V} (k : Same H H') (h : RepQ cA av A H q d v) : RepQ cA av A H' q d v := by
 cases q <;> exact RepT.same k h
theorem ER.mono (E : ER G ow H0 av A σ H δ) (k : Same H H') : ER G ow H0 av A σ H' δ := by
 refine ⟨E.same.trans k, E.avd, E.fr, E.inj, fun i a e => ?_, E.dom, E.dom', E.len, E.pin, E.kept, fun i d e => ?_⟩
 · have := E.live i a e
   cases q : H a with
   | none => exact absurd q this
   | some o => rw [k a o q]; exact fun z => by cases z
 · obtain ⟨v, h1, h2, h3⟩ := E.var i d e
   refine ⟨v, h1, fun z => (h2 z).same k, fun a z => ⟨(h3 a z).1, ?_⟩⟩
   have := (h3 a z).2
   cases d with
   | lst xs => obtain ⟨vs, q1, q2⟩ := this; exact ⟨vs, k _ _ q1, q2.same k⟩
   | obj c ks xs => obtain ⟨dx, vs, q1, q0, q2⟩ := this; exact ⟨dx, vs, k _ _ q1, q0, q2.same k⟩
   | dct ks xs => obtain ⟨vs, q1, q0, q2⟩ := this; exact ⟨vs, k _ _ q1, q0, q2.same k⟩
   | dtt ks xs => obtain ⟨vs, q1, q0, q2⟩ := this; exact ⟨vs, k _ _ q1, q0, q2.same k⟩
   | _ => exact this
theorem ER.avl (E : ER G ow H0 av A σ H δ) : ∀ a, AV av A a -> H a ≠ none := fun a h => by
 rcases h with h | ⟨i, h⟩
 · have := E.avd a h
   cases q : H0 a with
   | none => exact absurd q this
   | some o => rw [E.same a o q]; exact fun z => by cases z
 · exact E.live i a h
theorem ER.avH (E : ER G ow H0 av A σ H δ) : ∀ a, av a -> H a ≠ none := fun a h => E.avl a (.inl h)
end
def VE (G : Cn) (ow : List Nat) (te : TE) (q : Ql) (ε : Env -> Option D) : Prop :=
 ∀ H0 av A σ H δ, ER G ow H0 av A σ H δ -> ∀ d, ε δ = some d -> ∀ Q : VK, (∀ v H', Same H H' -> RepQ G.1 av A H' q d v -> Q v H') -> te σ H Q
def VF (G : Cn) (ow : List Nat) (te : TE) (ε : Env -> Option D) : Prop :=
 ∀ H0 av A σ H δ, ER G ow H0 av A σ H δ -> ∀ d, ε δ = some d -> ∀ Q : VK, (∀ p vs xs H1, Same H H1 -> H1 p = none -> RepL G.1 (AV av A) H1 xs vs -> d = .lst xs -> Q (.ref p) (upd H1 p (.lst vs))) -> te σ H Q
def VT (G : Cn) (ow : List Nat) (tt : TT) (τ : Env -> Option Bool) : Prop :=
 ∀ H0 av A σ H δ, ER G ow H0 av A σ H δ -> ∀ b, τ δ = some b -> ∀ Q : Bool -> Hp -> Prop, (∀ H', Same H H' -> Q b H') -> tt σ H Q
def RepQL (cA : Kn) (av : Addr -> Prop) (A : Nat -> Option Addr) (H : Hp) (q : Ql) : List D -> List V -> Prop
 | [], vs => vs = []
 | x :: xs, vs => ∃ v r, vs = v :: r /\ RepQ cA av A H q x v /\ RepQL cA av A H q xs r
def VA (G : Cn) (ow : List Nat) (ta : TA) (q : Ql) (α : Env -> Option (List D)) : Prop :=
 ∀ H0 av A σ H δ, ER G ow H0 av A σ H δ -> ∀ ds, α δ = some ds -> ∀ Q : List V -> Hp -> Prop, (∀ vs H', Same H H' -> RepQL G.1 av A H' q ds vs -> Q vs H') -> ta σ H Q
section
variable {cA : Kn} {G : Cn} {ow : List Nat}
theorem RepQL.same {av : Addr -> Prop} {A : Nat -> Option Addr} {H H' : Hp} {q : Ql} (k : Same H H') : ∀ {xs : List D} {vs : List V}, RepQL cA av A H q xs vs -> RepQL cA av A H' q xs vs
 | [], _, h => h
 | x :: xs, vs, h => by
  obtain ⟨v, r, e, h1, h2⟩ := h
  exact ⟨v, r, e, h1.same k, RepQL.same k h2⟩
theorem RepQL.cl {av : Addr -> Prop} {A : Nat -> Option Addr} {H : Hp} : ∀ {xs : List D} {vs : List V}, RepQL cA av A H .cl xs vs -> RepL cA (AV av A) H xs vs
 | [], _, h => by unfold RepL; exact h
 | x :: xs, vs, h => by
  obtain ⟨v, r, e, h1, h2⟩ := h
  subst e
  exact .cons (RepT.r h1) (RepQL.cl h2)
theorem RepQL.any {av : Addr -> Prop} {A : Nat -> Option Addr} {H : Hp} {q : Ql} : ∀ {xs : List D} {vs : List V}, RepQL cA av A H q xs vs -> RepL cA av H xs vs
 | [], _, h => by unfold RepL; exact h
 | x :: xs, vs, h => by
  obtain ⟨v, r, e, h1, h2⟩ := h
  subst e
  exact .cons h1.any (RepQL.any h2)
theorem VE.dt {te : TE} {q : Ql} {ε : Env -> Option D} (h : VE G ow te q ε) : VE G ow te .dt ε := fun H0 av A σ H δ E d e Q k =>
 h H0 av A σ H δ E d e Q fun v H' s r => k v H' s r.any.t
theorem Z0 {H : Hp} {p : Addr} {o : HO} (h : H p = none) : Same H (upd H p o) := Zcr h
theorem VF.cl {te : TE} {ε : Env -> Option D} (h : VF G ow te ε) : VE G ow te .cl ε := fun H0 av A σ H δ E d e Q k =>
 h H0 av A σ H δ E d e Q fun p vs xs H1 s hp l hd => by
  subst hd
  refine k _ _ (s.trans (Z0 hp)) ⟨p, vs, rfl, fun z => ((E.mono s).avl p z hp).elim, SqL.of ZE, l.same (Z0 hp)⟩
def YX (ε : Env -> Option D) (δ : Env) : Option D := match ε δ with
 | some d => if Zi d then some d else none
 | none => none
theorem VE.scal {te : TE} {q : Ql} {ε : Env -> Option D} (h : VE G ow te q ε) : VE G ow te .cl (YX ε) := fun H0 av A σ H δ E d e Q k => by
 unfold YX at e
 cases he : ε δ with
 | none => rw [he] at e; cases e
 | some d' =>
  rw [he] at e
  by_cases hs : Zi d' = true
  · have e' : d' = d := by simpa [hs] using e
    subst e'
    exact h H0 av A σ H δ E d' he Q fun v H' s r => k v H' s (Rep.scal hs r.any).t
  · simp [hs] at e
def Za (i : Nat) (δ : Env) : Option D := match δ[i]? with
 | some (some d) => some d
 | _ => none
theorem Ya {i : Nat} {δ : Env} {d : D} (h : Za i δ = some d) : δ[i]? = some (some d) := by
 unfold Za at h
 cases e : δ[i]? with
 | none => rw [e] at h; cases h
 | some o =>
  rw [e] at h
  cases o with
  | none => cases h
  | some x => exact congrArg (some ∘ some) (Option.some.inj h)
theorem Zc (i : Nat) (hi : (ow.contains i) = false) : VE G ow (Yq i) .cl (Za i) := fun H0 av A σ H δ E d e Q k => by
 obtain ⟨v, h1, h2, _⟩ := E.var i d (Ya e)
 have hn : A i = none := by
  cases q : A i with
  | none => rfl
  | some a =>
   have := E.dom i (by rw [q]; exact fun z => by cases z)
   simp at hi
   exact absurd this hi
 exact ⟨v, h1, k v H (Same.refl H) (h2 hn).t⟩
theorem XA (i : Nat) (hi : (ow.contains i) = true) : VE G ow (Yq i) .tp (Za i) := fun H0 av A σ H δ E d e Q k => by
 obtain ⟨v, h1, _, h3⟩ := E.var i d (Ya e)
 have hi' : i ∈ ow := by simpa using hi
 cases q : A i with
 | none => exact absurd q (E.dom' i hi')
 | some a =>
  obtain ⟨rfl, o⟩ := h3 a q
  have na : ¬ av a := fun z => E.avd a z (E.fr i a q)
  refine ⟨_, h1, k _ H (Same.refl H) ?_⟩
  cases d with
  | lst xs => obtain ⟨vs, q1, q2⟩ := o; exact ⟨a, vs, rfl, fun z => (na z).elim, SqL.of q1, q2⟩
  | obj c ks xs => obtain ⟨dx, vs, q1, q0, q2⟩ := o; exact ⟨a, dx, vs, rfl, na, q1, q0, q2⟩
  | dct ks xs => obtain ⟨vs, q1, q0, q2⟩ := o; exact ⟨a, vs, rfl, na, q1, q0, q2⟩
  | dtt ks xs => obtain ⟨vs, q1, q0, q2⟩ := o; exact ⟨a, vs, rfl, na, q1, q0, q2⟩
  | _ => exact False.elim o
def eC (d : D) (_ : Env) : Option D := some d
theorem Zq {v : V} {d : D} (hs : Zi d = true) (hv : v = val d) : VE G ow (tC v) .cl (eC d) := fun H0 av A σ H δ E d' e Q k => by
 have e' : d = d' := Option.some.inj e
 subst e' hv
 exact k _ H (Same.refl H) (Rep.of_val hs).t
def YK (cA : Kn) (r : R2) (f : D -> D -> Option D) : Prop :=
 ∀ (t t' i : Addr -> Prop) (H : Hp) (x y : D) (vx vy : V) (d : D), (∀ a, i a -> H a ≠ none) -> RepT cA t i H x vx -> RepT cA t' i H y vy -> f x y = some d -> ∀ Q : VK, (∀ v H', Same H H' -> Rep cA i H' d v -> Q v H') -> r vx vy H Q
def eOp (f : D -> D -> Option D) (a b : Env -> Option D) (δ : Env) : Option D := match a δ with
 | some x => match b δ with
  | some y => f x y
  | none => none
 | none => none
theorem Uz {f : D -> D -> Option D} {a b : Env -> Option D} {δ : Env} {d : D} (h : eOp f a b δ = some d) : ∃ x y, a δ = some x /\ b δ = some y /\ f x y = some d := by
 unfold eOp at h
 cases ea : a δ with
 | none => rw [ea] at h; cases h
 | some x =>
  rw [ea] at h
  cases eb : b δ with
  | none => rw [eb] at h; cases h
  | some y => rw [eb] at h; exact ⟨x, y, rfl, rfl, h⟩
def Ql.jn : Ql -> Ql -> Ql
 | .dt, _ => .dt
 | _, .dt => .dt
 | _, _ => .cl
theorem Zk {r : R2} {f : D -> D -> Option D} {ta tb : TE} {qa qb : Ql} {a b : Env -> Option D} (hr : YK G.1 r f) (ha : VE G ow ta qa a) (hb : VE G ow tb qb b) : VE G ow (tOp r ta tb) (qa.jn qb) (eOp f a b) := fun H0 av A σ H δ E d e Q k => by
 obtain ⟨x, y, ex, ey, ed⟩ := Uz e
 refine ha H0 av A σ H δ E x ex _ fun vx H1 s1 r1 => hb H0 av A σ H1 δ (E.mono s1) y ey _ fun vy H2 s2 r2 => ?_
 have E2 := (E.mono s1).mono s2
 have r1' := (r1.same s2).tp
 have r2' := r2.tp
 have key : ∀ i : Addr -> Prop, (∀ a, i a -> H2 a ≠ none) -> RepT G.1 av i H2 x vx -> RepT G.1 av i H2 y vy -> (∀ v H', Same H2 H' -> Rep G.1 i H' d v -> Q v H') -> r vx vy H2 Q := fun i hi h1 h2 h3 => hr av av i H2 x y vx vy d hi h1 h2 ed Q h3
 have toav : ∀ {dd : D} {v : V}, RepT G.1 av (AV av A) H2 dd v -> RepT G.1 av av H2 dd v := fun h => h.weak (fun a z => z) fun a => .inl
 cases qa with
 | dt =>
  refine key av E2.avH r1' ?_ fun v H' s3 r3 => k v H' ((s1.trans s2).trans s3) r3.t
  cases qb with
  | dt => exact r2'
  | cl => exact toav r2'
  | tp => exact toav r2'
 | cl =>
  cases qb with
  | dt => exact key av E2.avH (toav r1') r2' fun v H' s3 r3 => k v H' ((s1.trans s2).trans s3) r3.t
  | cl => exact key _ E2.avl r1' r2' fun v H' s3 r3 => k v H' ((s1.trans s2).trans s3) r3.t
  | tp => exact key _ E2.avl r1' r2' fun v H' s3 r3 => k v H' ((s1.trans s2).trans s3) r3.t
 | tp =>
  cases qb with
  | dt => exact key av E2.avH (toav r1') r2' fun v H' s3 r3 => k v H' ((s1.trans s2).trans s3) r3.t
  | cl => exact key _ E2.avl r1' r2' fun v H' s3 r3 => k v H' ((s1.trans s2).trans s3) r3.t
  | tp => exact key _ E2.avl r1' r2' fun v H' s3 r3 => k v H' ((s1.trans s2).trans s3) r3.t
end
end DL
namespace DL
open PySem PySem.Spec L2
mutual
def toP : D -> PyData
 | .non => .none
 | .bl b => .bool b
 | .int i => .int i
 | .str cs => .str (tx cs)
 | .lst xs => .list (YY xs)
 | .tup xs => .tuple (YY xs)
 | .obj _ _ _ => .dict []
 | .dct _ _ => .dict []
 | .dtt _ _ => .dict []
def YY : List D -> List PyData
 | [] => []
 | x :: xs => toP x :: YY xs
end
section
variable {X : Cx} {cA : Kn}
mutual
theorem VU {pins : List (Addr × Obj)} {σ : L2.St} {H : Hp} {s : Shared} {av : Addr -> Prop} (hK : cA.K = X.K) (I : Inv X pins σ H s) : ∀ (d : D) (v : V) (u : Value), PyData.canLay0 (toP d) = true -> Rep cA av H d v -> RelV v u -> ∃ as, Reads s.heap u (toP d) as
 | .non, v, u, _, h, r => by
  cases (show v = .non from h); cases r
  exact ⟨_, .none⟩
 | .bl b, v, u, _, h, r => by
  cases (show v = .bl b from h); cases r
  exact ⟨_, .bool b⟩
 | .int i, v, u, _, h, r => by
  cases (show v = .int i from h)
  obtain ⟨t, rfl⟩ := r
  exact ⟨_, .int i t⟩
 | .str cs, v, u, _, h, r => by
  cases (show v = S cs from h)
  obtain ⟨t, rfl⟩ := r
  exact ⟨_, .str _ t⟩
 | .lst xs, v, u, c, h, r => by
  unfold Rep at h
  obtain ⟨a, vs, rfl, _, rd, l⟩ := h
  cases r
  obtain ⟨its, rv, ⟨ob, n, e, hc, hd, hs⟩, z⟩ := I.list (show SqL X.K H a vs from hK ▸ rd)
  obtain ⟨as, ra⟩ := QC hK I xs vs its (by unfold toP PyData.canLay0 at c; exact c) l rv
  unfold toP
  exact ⟨_, .list e hc hs (by simpa using ra)⟩
 | .tup xs, v, u, c, h, r => by
  unfold Rep at h
  obtain ⟨a, vs, rfl, _, rd, l⟩ := h
  cases r
  obtain ⟨z, its, rv, ob, e, hc, ⟨n, hd⟩, _⟩ := (show ObjOk X.prog X.w H s.heap a (.tup vs) from I.hok a _ rd)
  obtain ⟨as, ra⟩ := QC hK I xs vs its (by unfold toP PyData.canLay0 at c; exact c) l rv
  unfold toP
  exact ⟨_, .tuple e hc hd (by simpa using ra)⟩
 | .obj c' ks xs, v, u, c, h, r => by
  unfold toP PyData.canLay0 at c
  cases c
 | .dct ks xs, v, u, c, h, r => by
  unfold toP PyData.canLay0 at c
  cases c
 | .dtt ks xs, v, u, c, h, r => by
  unfold toP PyData.canLay0 at c
  cases c
theorem QC {pins : List (Addr × Obj)} {σ : L2.St} {H : Hp} {s : Shared} {av : Addr -> Prop} (hK : cA.K = X.K) (I : Inv X pins σ H s) : ∀ (xs : List D) (vs : List V) (us : List Value), PyData.canLayAll0 (YY xs) = true -> RepL cA av H xs vs -> Vals vs us -> ∃ as, ReadsAll s.heap us (YY xs) as
 | [], vs, us, _, h, r => by
  rw [h.nil_of] at r
  cases r
  exact ⟨_, .nil⟩
 | x :: xs, vs, us, c, h, r => by
  obtain ⟨v, rr, rfl, h1, h2⟩ := h.uncons
  cases r with
  | cons r1 r2 =>
   unfold YY PyData.canLayAll0 at c
   rw [Bool.and_eq_true] at c
   obtain ⟨a1, q1⟩ := VU hK I x v _ c.1 h1 r1
   obtain ⟨a2, q2⟩ := QC hK I xs rr _ c.2 h2 r2
   unfold YY
   exact ⟨_, .cons q1 q2⟩
end
end
def eqD (x y : D) : Option D :=
 if Zi x && Zi y && scal (val x) (val y) then some (.bl (decide (val x = val y)))
 else if SeqAt.shaped (toP x) && SeqAt.shaped (toP y) then some (.bl (PyData.eqv (toP x) (toP y))) else none
def neD (x y : D) : Option D := match eqD x y with
 | some (.bl b) => some (.bl (!b))
 | _ => none
def UA (cA : Kn) (neg : Bool) : R2 := fun x y H Q => ∃ av av' dx dy b, Rep cA av H dx x /\ Rep cA av' H dy y /\ eqD dx dy = some (.bl b) /\ Q (.bl (neg != b)) H
section
variable {X : Cx} {cA : Kn}
theorem Vl (hu : X.A.units + 64 < cLine) (hK : cA.K = X.K := by rfl) : OpR X (compareOp .Eq) (UA cA false) := by
 intro pins s σ H x y v u Q I rx ry h
 obtain ⟨av, av', dx, dy, b, hx, hy, e, q⟩ := h
 unfold eqD at e
 by_cases h1 : (Zi dx && Zi dy && scal (val dx) (val dy)) = true
 · rw [if_pos h1] at e
   simp only [Bool.and_eq_true] at h1
   obtain ⟨⟨s1, s2⟩, s3⟩ := h1
   have e1 := hx.val s1
   have e2 := hy.val s2
   subst e1 e2
   have e' : decide (val dx = val dy) = b := by simpa using e
   exact Ze3 pins s σ H _ _ v u Q I rx ry ⟨s3, by rw [e']; simpa using q⟩
 · rw [if_neg h1] at e
   by_cases h2 : (SeqAt.shaped (toP dx) && SeqAt.shaped (toP dy)) = true
   · rw [if_pos h2] at e
     rw [Bool.and_eq_true] at h2
     obtain ⟨as, ra⟩ := VU hK I dx x v (SeqAt.canLay_of_shaped h2.1) hx rx
     obtain ⟨bs, rb⟩ := VU hK I dy y u (SeqAt.canLay_of_shaped h2.2) hy ry
     have e' : PyData.eqv (toP dx) (toP dy) = b := by simpa using e
     exact PyProof.Rows.eq_dataH ra rb h2.1 h2.2 hu (by rw [e']; exact ⟨.bl b, H, I, rfl, by simpa using q⟩)
   · rw [if_neg h2] at e
     cases e
theorem ZcQ (hu : X.A.units + 64 < cLine) (hK : cA.K = X.K := by rfl) : OpR X (compareOp .NotEq) (UA cA true) := by
 intro pins s σ H x y v u Q I rx ry h
 obtain ⟨av, av', dx, dy, b, hx, hy, e, q⟩ := h
 unfold eqD at e
 by_cases h1 : (Zi dx && Zi dy && scal (val dx) (val dy)) = true
 · rw [if_pos h1] at e
   simp only [Bool.and_eq_true] at h1
   obtain ⟨⟨s1, s2⟩, s3⟩ := h1
   have e1 := hx.val s1
   have e2 := hy.val s2
   subst e1 e2
   have e' : decide (val dx = val dy) = b := by simpa using e
   exact Ze4 pins s σ H _ _ v u Q I rx ry ⟨s3, by rw [e']; simpa using q⟩
 · rw [if_neg h1] at e
   by_cases h2 : (SeqAt.shaped (toP dx) && SeqAt.shaped (toP dy)) = true
   · rw [if_pos h2] at e
     rw [Bool.and_eq_true] at h2
     obtain ⟨as, ra⟩ := VU hK I dx x v (SeqAt.canLay_of_shaped h2.1) hx rx
     obtain ⟨bs, rb⟩ := VU hK I dy y u (SeqAt.canLay_of_shaped h2.2) hy ry
     have e' : PyData.eqv (toP dx) (toP dy) = b := by simpa using e
     exact PyProof.Rows.ne_dataH ra rb h2.1 h2.2 hu (by rw [e']; exact ⟨.bl (!b), H, I, rfl, by simpa using q⟩)
   · rw [if_neg h2] at e
     cases e
theorem RepT.av0 {t i : Addr -> Prop} {H : Hp} {d : D} {v : V} (h : RepT cA t i H d v) : Rep cA (fun _ => False) H d v := (h.weak (fun _ z => z.elim) fun _ z => z.elim).r
theorem ZcR {x y d : D} (h : eqD x y = some d) : ∃ b, d = .bl b := by
 unfold eqD at h
 split at h
 · exact ⟨_, (Option.some.inj h).symm⟩
 · split at h
   · exact ⟨_, (Option.some.inj h).symm⟩
   · cases h
theorem Vm : YK cA (UA cA false) eqD := fun t t' i H x y vx vy d _ hx hy e Q k => by
 obtain ⟨b, rfl⟩ := ZcR e
 exact ⟨_, _, x, y, b, hx.av0, hy.av0, e, k _ H (Same.refl H) (by cases b <;> rfl)⟩
theorem Zd5 : YK cA (UA cA true) neD := fun t t' i H x y vx vy d _ hx hy e Q k => by
 unfold neD at e
 cases he : eqD x y with
 | none => rw [he] at e; cases e
 | some z =>
  obtain ⟨b, rfl⟩ := ZcR he
  rw [he] at e
  have e' : D.bl (!b) = d := Option.some.inj e
  subst e'
  exact ⟨_, _, x, y, b, hx.av0, hy.av0, he, k _ H (Same.refl H) (by cases b <;> rfl)⟩
def Vn (x : List Nat) (n : Int) : List Nat := (List.replicate n.toNat x).flatten
theorem Zal (x : List Nat) : ∀ (k : Nat) (acc : Array Nat), (List.replicate k x.toArray).foldl (· ++ ·) acc = acc ++ (List.replicate k x).flatten.toArray
 | 0, acc => by simp
 | k + 1, acc => by
  rw [List.replicate_succ, List.replicate_succ, List.foldl_cons, Zal x k, List.flatten_cons]
  simp
theorem ZeB (x : List Nat) (n : Int) : Txt.mul (tx x) n = tx (Vn x n) := by
 unfold Txt.mul Vn
 by_cases h1 : n < 1
 · rw [if_pos h1]
   have : n.toNat = 0 := by omega
   rw [this]
   rfl
 · rw [if_neg h1]
   by_cases h2 : (n == 1 || (tx x).length == 0) = true
   · rw [if_pos h2]
     rw [Bool.or_eq_true] at h2
     rcases h2 with h2 | h2
     · have : n = 1 := by simpa using h2
       subst this
       simp
     · have : x = [] := by
        have : (tx x).length = 0 := by simpa using h2
        rw [YW] at this
        exact List.eq_nil_of_length_eq_zero this
       subst this
       simp
   · rw [if_neg h2]
     have := Zal x n.toNat #[]
     rw [this]
     simp
def rMulS : R2 := fun x y H Q => ∃ a n, x = S a /\ y = .int n /\ (n < 2 ^ 63 /\ -(2 ^ 63) <= n /\ a.length * n.toNat <= sizeLine) /\ Q (S (Vn a n)) H
theorem op_mulS : OpR X (binaryOp .Mult) rMulS := by
 intro pins s σ H x y v u Q I rx ry h
 obtain ⟨a, n, rfl, rfl, ⟨h1, h2, h3⟩, q⟩ := h
 obtain ⟨t, rfl⟩ := rx
 obtain ⟨t', rfl⟩ := ry
 refine SB.mul ⟨?_, fun hn hc => ?_, fun hn hc => ?_⟩ fun t' k => ⟨S (Vn a n), H, I.tok _, ⟨_, by rw [ZeB]⟩, q⟩
 · have e1 : decide (n < -(2 ^ 63 : Int)) = false := decide_eq_false (by omega)
   have e2 : decide (n ≥ 2 ^ 63) = false := decide_eq_false (by omega)
   rw [e1, e2]; rfl
 · rw [YW]
   have hs : sizeLine = 16777216 := sizeLine_eq
   intro hgt
   have h5 : (a.length : Int) * n <= 16777216 := by
    have : (a.length : Int) * n = ((a.length * n.toNat : Nat) : Int) := by
     rw [Int.natCast_mul, Int.toNat_of_nonneg (by omega)]
    rw [this]; omega
   have h6 : (2 ^ 63 - 1) / n < (a.length : Int) := hgt
   have h7 : (2 ^ 63 - 1 : Int) < (a.length : Int) * n := by
    have := Int.lt_mul_of_ediv_lt (show (0 : Int) < n by omega) h6
    rw [Int.mul_comm]; rw [Int.mul_comm] at this; exact this
   omega
 · rw [YW]
   show decide (a.length * n.toNat > sizeLine) = false
   exact decide_eq_false (by omega)
instance (i j : Int) : Decidable (CMul i j) := by unfold CMul; infer_instance
instance (i j : Int) : Decidable (YV i j) := by unfold YV; infer_instance
def addD : D -> D -> Option D
 | .int i, .int j => some (.int (i + j))
 | .str a, .str b => if a.length + b.length <= sizeLine then some (.str (a ++ b)) else none
 | _, _ => none
def ZfQ : D -> D -> Option D
 | .int i, .int j => some (.int (i - j))
 | _, _ => none
def ZfR : D -> D -> Option D
 | .int i, .int j => if CMul i j then some (.int (i * j)) else none
 | .str a, .int n => if n < 2 ^ 63 /\ -(2 ^ 63) <= n /\ a.length * n.toNat <= sizeLine then some (.str (Vn a n)) else none
 | _, _ => none
def fdivD : D -> D -> Option D
 | .int i, .int j => if YV i j then some (.int (i / j)) else none
 | _, _ => none
def modD : D -> D -> Option D
 | .int i, .int j => if 0 < j then some (.int (i % j)) else none
 | _, _ => none
def YL (p : Int -> Int -> Bool) : D -> D -> Option D
 | .int i, .int j => some (.bl (p i j))
 | _, _ => none
theorem ZeC : YK cA Ze8 addD := fun t t' i H x y vx vy d _ hx hy e Q k => by
 cases x <;> cases y <;> first | (cases e; done) | skip
 · cases (show vx = _ from hx); cases (show vy = _ from hy)
   cases e
   exact .inl ⟨_, _, rfl, rfl, k _ H (Same.refl H) rfl⟩
 · cases (show vx = _ from hx); cases (show vy = _ from hy)
   rename_i a b
   dsimp only [addD] at e
   by_cases hz : a.length + b.length <= sizeLine
   · rw [if_pos hz] at e
     cases e
     exact .inr (.inl ⟨_, _, rfl, rfl, hz, k _ H (Same.refl H) rfl⟩)
   · rw [if_neg hz] at e; cases e
theorem UB : YK cA (rI YV fun i j => .int (i / j)) fdivD := fun t t' i H x y vx vy d _ hx hy e Q k => by
 cases x <;> cases y <;> first | (cases e; done) | skip
 cases (show vx = _ from hx); cases (show vy = _ from hy)
 rename_i a b
 dsimp only [fdivD] at e
 by_cases hz : YV a b
 · rw [if_pos hz] at e
   cases e
   exact ⟨_, _, rfl, rfl, hz, k _ H (Same.refl H) rfl⟩
 · rw [if_neg hz] at e; cases e
theorem Xj : YK cA (rI (fun _ j => 0 < j) fun i j => .int (i % j)) modD := fun t t' i H x y vx vy d _ hx hy e Q k => by
 cases x <;> cases y <;> first | (cases e; done) | skip
 cases (show vx = _ from hx); cases (show vy = _ from hy)
 rename_i a b
 dsimp only [modD] at e
 by_cases hz : 0 < b
 · rw [if_pos hz] at e
   cases e
   exact ⟨_, _, rfl, rfl, hz, k _ H (Same.refl H) rfl⟩
 · rw [if_neg hz] at e; cases e
theorem UC {p : Int -> Int -> Bool} : YK cA (rI0 fun i j => .bl (p i j)) (YL p) := fun t t' i H x y vx vy d _ hx hy e Q k => by
 cases x <;> cases y <;> first | (cases e; done) | skip
 cases (show vx = _ from hx); cases (show vy = _ from hy)
 cases e
 exact ⟨_, _, rfl, rfl, k _ H (Same.refl H) rfl⟩
def inD (neg : Bool) : D -> D -> Option D
 | .str [c], .str b => some (.bl (neg != decide (c ∈ b)))
 | x, .lst ys => if Zi x && ys.all Zi then some (.bl (if neg then !(inV (val x) (ys.map val)) else inV (val x) (ys.map val))) else none
 | x, .tup ys => if Zi x && ys.all Zi then some (.bl (if neg then !(inV (val x) (ys.map val)) else inV (val x) (ys.map val))) else none
 | _, _ => none
theorem VW {d : D} : Zi d = true -> Yc (val d) = true := by
 intro h
 cases d <;> first | rfl | cases h
theorem VY : ∀ {xs : List D}, xs.all Zi = true -> (xs.map val).all Yc = true
 | [], _ => rfl
 | x :: xs, h => by
  rw [List.all_cons, Bool.and_eq_true] at h
  rw [List.map_cons, List.all_cons, VW h.1, VY h.2]
  rfl
theorem Zdq {t i : Addr -> Prop} {H : Hp} {d : D} {v : V} (hs : Zi d = true) (h : RepT cA t i H d v) : v = val d := by
 cases d <;> first | exact h | cases hs
theorem Zfd {neg : Bool} : YK cA (Us cA.K neg) (inD neg) := fun t t' i H x y vx vy d _ hx hy e Q k => by
 have seq : ∀ ys, (y = .lst ys \/ y = .tup ys) -> (if Zi x && ys.all Zi then some (D.bl (if neg then !(inV (val x) (ys.map val)) else inV (val x) (ys.map val))) else none) = some d -> Us cA.K neg vx vy H Q := fun ys hy' e => by
  by_cases hz : (Zi x && ys.all Zi) = true
  · rw [if_pos hz] at e
    rw [Bool.and_eq_true] at hz
    have ex := Zdq hz.1 hx
    subst ex
    cases e
    rcases hy' with rfl | rfl
    · obtain ⟨a, vs, rfl, _, rd, l⟩ := hy
      have ev := l.vals hz.2
      subst ev
      exact .inr ⟨a, _, rfl, .inl rd, VW hz.1, VY hz.2, k _ H (Same.refl H) rfl⟩
    · obtain ⟨a, vs, rfl, _, rd, l⟩ := hy
      have ev := l.vals hz.2
      subst ev
      exact .inr ⟨a, _, rfl, .inr (SqT.of rd), VW hz.1, VY hz.2, k _ H (Same.refl H) rfl⟩
  · rw [if_neg hz] at e; cases e
 cases y with
 | lst ys => exact seq ys (.inl rfl) (by cases x <;> first | exact e | (rename_i cs; cases cs <;> first | exact e | (rename_i c r; cases r <;> exact e)))
 | tup ys => exact seq ys (.inr rfl) (by cases x <;> first | exact e | (rename_i cs; cases cs <;> first | exact e | (rename_i c r; cases r <;> exact e)))
 | str b =>
  cases x with
  | str cs =>
   cases cs with
   | nil => cases e
   | cons c r =>
    cases r with
    | cons _ _ => cases e
    | nil =>
     cases (show vx = _ from hx); cases (show vy = _ from hy)
     cases e
     exact .inl ⟨c, b, rfl, rfl, k _ H (Same.refl H) rfl⟩
  | _ => cases e
 | _ => cases x <;> first | (cases e; done) | (rename_i cs; cases cs <;> first | (cases e; done) | (rename_i c r; cases r <;> cases e))
def ixD : D -> D -> Option D
 | .lst xs, .int i => atI xs i
 | .tup xs, .int i => atI xs i
 | .str cs, .int i => if cs.length <= sizeLine then (atI cs i).map fun c => .str [c] else none
 | _, _ => none
theorem Zbm {av : Addr -> Prop} {H : Hp} {xs : List D} {vs : List V} {i : Int} {d : D} (l : RepL cA av H xs vs) (h : atI xs i = some d) : ∃ v, atI vs i = some v /\ Rep cA av H d v := by
 unfold atI at h ⊢
 rw [l.length] at h
 cases e : ixN vs.length i with
 | none => rw [e] at h; cases h
 | some j =>
  rw [e] at h
  exact l.get h
theorem ZS : YK cA (Ut cA.K) ixD := fun t t' i H x y vx vy d _ hx hy e Q k => by
 cases y <;> first | (cases x <;> cases e; done) | skip
 rename_i j
 cases (show vy = _ from hy)
 cases x <;> first | (cases e; done) | skip
 · cases (show vx = _ from hx)
   rename_i cs
   dsimp only [ixD] at e
   by_cases hz : cs.length <= sizeLine
   · rw [if_pos hz] at e
     cases ea : atI cs j with
     | none => rw [ea] at e; cases e
     | some c =>
      rw [ea] at e
      cases e
      exact .inr (.inr ⟨cs, j, c, rfl, rfl, hz, ea, k _ H (Same.refl H) rfl⟩)
   · rw [if_neg hz] at e; cases e
 · obtain ⟨a, vs, rfl, _, rd, l⟩ := hx
   obtain ⟨v, h1, h2⟩ := Zbm l e
   exact .inl ⟨a, vs, j, v, rfl, rfl, rd, h1, k v H (Same.refl H) h2⟩
 · obtain ⟨a, vs, rfl, _, rd, l⟩ := hx
   obtain ⟨v, h1, h2⟩ := Zbm l e
   exact .inr (.inl ⟨a, vs, j, v, rfl, rfl, SqT.of rd, h1, k v H (Same.refl H) h2⟩)
end
end DL
namespace DL
open PySem PySem.Spec L2
section
variable {cA : Kn} {G : Cn} {ow : List Nat}
def bD : Option D -> Option Bool
 | some (.bl b) => some b
 | _ => none
theorem Zbn {o : Option D} {b : Bool} (h : bD o = some b) : o = some (.bl b) := by
 cases o with
 | none => cases h
 | some d => cases d <;> first | (cases h; rfl) | cases h
def xB (ε : Env -> Option D) (δ : Env) : Option Bool := bD (ε δ)
theorem Xk {te : TE} {q : Ql} {ε : Env -> Option D} (h : VE G ow te q ε) : VT G ow (tB te) (xB ε) := fun H0 av A σ H δ E b e Q k =>
 h H0 av A σ H δ E _ (Zbn e) _ fun v H' s r => ⟨b, by cases q <;> exact r, k H' s⟩
theorem Xl {te : TE} {q : Ql} {ε : Env -> Option D} (h : VE G ow te q ε) : VT G ow (JH te) (xB ε) := fun H0 av A σ H δ E b e Q k =>
 h H0 av A σ H δ E _ (Zbn e) _ fun v H' s r => ⟨b, by cases q <;> exact r, k H' s⟩
def YZ (τ : Env -> Option Bool) (δ : Env) : Option Bool := match τ δ with
 | some b => some (!b)
 | none => none
theorem ZcS {t : TT} {τ : Env -> Option Bool} (h : VT G ow t τ) : VT G ow (Jn t) (YZ τ) := fun H0 av A σ H δ E b e Q k => by
 unfold YZ at e
 cases he : τ δ with
 | none => rw [he] at e; cases e
 | some c =>
  rw [he] at e
  cases e
  exact h H0 av A σ H δ E c he _ fun H' s => k H' s
def Yv (τ υ : Env -> Option Bool) (δ : Env) : Option Bool := match τ δ with
 | some true => υ δ
 | some false => some false
 | none => none
def xOr (τ υ : Env -> Option Bool) (δ : Env) : Option Bool := match τ δ with
 | some true => some true
 | some false => υ δ
 | none => none
theorem ZcT {t u : TT} {τ υ : Env -> Option Bool} (h : VT G ow t τ) (h' : VT G ow u υ) : VT G ow (Jm t u) (Yv τ υ) := fun H0 av A σ H δ E b e Q k => by
 unfold Yv at e
 cases he : τ δ with
 | none => rw [he] at e; cases e
 | some c =>
  rw [he] at e
  refine h H0 av A σ H δ E c he _ fun H' s => ?_
  cases c with
  | true => exact XY (h' H0 av A σ H' δ (E.mono s) b e _ fun H2 s2 => k H2 (s.trans s2))
  | false => cases e; exact XX (k H' s)
theorem Zfe {t u : TT} {τ υ : Env -> Option Bool} (h : VT G ow t τ) (h' : VT G ow u υ) : VT G ow (tOr t u) (xOr τ υ) := fun H0 av A σ H δ E b e Q k => by
 unfold xOr at e
 cases he : τ δ with
 | none => rw [he] at e; cases e
 | some c =>
  rw [he] at e
  refine h H0 av A σ H δ E c he _ fun H' s => ?_
  cases c with
  | true => cases e; exact XY (k H' s)
  | false => exact XX (h' H0 av A σ H' δ (E.mono s) b e _ fun H2 s2 => k H2 (s.trans s2))
theorem ZcU : VT G ow tYes (fun _ => some true) := fun H0 av A σ H δ E b e Q k => by
 cases e
 exact k H (Same.refl H)
theorem blq {av : Addr -> Prop} {A : Nat -> Option Addr} {H : Hp} {q : Ql} {b : Bool} : RepQ cA av A H q (.bl b) (.bl b) := by cases q <;> exact rfl
theorem qbl {av : Addr -> Prop} {A : Nat -> Option Addr} {H : Hp} {q : Ql} {b : Bool} {v : V} (h : RepQ cA av A H q (.bl b) v) : v = .bl b := by cases q <;> exact h
def XZ (a b : Env -> Option D) (δ : Env) : Option D := match a δ with
 | some (.bl true) => b δ
 | some (.bl false) => some (.bl false)
 | _ => none
def eOr (a b : Env -> Option D) (δ : Env) : Option D := match a δ with
 | some (.bl true) => some (.bl true)
 | some (.bl false) => b δ
 | _ => none
def ZfS (a : Env -> Option D) (δ : Env) : Option D := match a δ with
 | some (.bl b) => some (.bl (!b))
 | _ => none
theorem ZeD {ta tb : TE} {qa qb : Ql} {a b : Env -> Option D} (ha : VE G ow ta qa a) (hb : VE G ow tb qb b) : VE G ow (Jr ta tb) qb (XZ a b) := fun H0 av A σ H δ E d e Q k => by
 unfold XZ at e
 cases he : a δ with
 | none => rw [he] at e; cases e
 | some x =>
  rw [he] at e
  cases x <;> first | (cases e; done) | skip
  rename_i c
  refine ha H0 av A σ H δ E _ he _ fun v H' s r => ⟨c, qbl r, ?_⟩
  cases c with
  | true => exact XY (hb H0 av A σ H' δ (E.mono s) d e _ fun v2 H2 s2 r2 => k v2 H2 (s.trans s2) r2)
  | false => cases e; exact XX (k _ H' s blq)
def eIf (τ : Env -> Option Bool) (a b : Env -> Option D) (δ : Env) : Option D := match τ δ with
 | some true => a δ
 | some false => b δ
 | none => none
def Vo : D -> Bool
 | .non => true
 | _ => false
theorem Zbo {av : Addr -> Prop} {H : Hp} {d : D} {v : V} (h : Rep cA av H d v) : decide (v = .non) = Vo d := by
 cases d with
 | non => cases (show v = _ from h); rfl
 | bl b => cases (show v = _ from h); rfl
 | int i => cases (show v = _ from h); rfl
 | str cs => cases (show v = _ from h); rfl
 | lst xs => unfold Rep at h; obtain ⟨a, vs, rfl, _⟩ := h; rfl
 | tup xs => unfold Rep at h; obtain ⟨a, vs, rfl, _⟩ := h; rfl
 | obj c ks xs => unfold Rep at h; obtain ⟨a, dx, vs, rfl, _⟩ := h; rfl
 | dct ks xs => unfold Rep at h; obtain ⟨a, vs, rfl, _⟩ := h; rfl
 | dtt ks xs => unfold Rep at h; obtain ⟨a, vs, rfl, _⟩ := h; rfl
def Z1 (a : Env -> Option D) (δ : Env) : Option D := match a δ with
 | some d => some (.bl (Vo d))
 | none => none
def Y0 (a : Env -> Option D) (δ : Env) : Option D := match a δ with
 | some d => some (.bl (!Vo d))
 | none => none
theorem UD {ta : TE} {qa : Ql} {a : Env -> Option D} (ha : VE G ow ta qa a) : VE G ow (Jh ta) .cl (Z1 a) := fun H0 av A σ H δ E d e Q k => by
 unfold Z1 at e
 cases he : a δ with
 | none => rw [he] at e; cases e
 | some x =>
  rw [he] at e
  cases e
  refine ha H0 av A σ H δ E _ he _ fun v H' s r => ?_
  rw [Zbo r.any]
  exact k _ H' s blq
theorem Zbp {ta : TE} {qa : Ql} {a : Env -> Option D} (ha : VE G ow ta qa a) : VE G ow (Ji ta) .cl (Y0 a) := fun H0 av A σ H δ E d e Q k => by
 unfold Y0 at e
 cases he : a δ with
 | none => rw [he] at e; cases e
 | some x =>
  rw [he] at e
  cases e
  refine ha H0 av A σ H δ E _ he _ fun v H' s r => ?_
  rw [Zbo r.any]
  exact k _ H' s blq
def ZcV (f g : D -> D -> Option D) (a b c : Env -> Option D) (δ : Env) : Option D := match eOp f a b δ with
 | some (.bl true) => eOp g b c δ
 | some (.bl false) => some (.bl false)
 | _ => none
def ZfT : D -> Option D
 | .int i => some (.int (-i))
 | _ => none
def eUn (f : D -> Option D) (a : Env -> Option D) (δ : Env) : Option D := match a δ with
 | some x => f x
 | none => none
def eNil (_ : Env) : Option (List D) := some []
def Zb (a : Env -> Option D) (r : Env -> Option (List D)) (δ : Env) : Option (List D) := match a δ with
 | some x => match r δ with
  | some xs => some (x :: xs)
  | none => none
 | none => none
theorem Zl {q : Ql} : VA G ow tNil q eNil := fun H0 av A σ H δ E ds e Q k => by
 cases e
 exact k [] H (Same.refl H) rfl
theorem Zf {te : TE} {ta : TA} {q : Ql} {a : Env -> Option D} {r : Env -> Option (List D)} (ha : VE G ow te q a) (hr : VA G ow ta q r) : VA G ow (Xy te ta) q (Zb a r) := fun H0 av A σ H δ E ds e Q k => by
 unfold Zb at e
 cases he : a δ with
 | none => rw [he] at e; cases e
 | some x =>
  rw [he] at e
  cases hr' : r δ with
  | none => rw [hr'] at e; cases e
  | some xs =>
   rw [hr'] at e
   cases e
   exact ha H0 av A σ H δ E x he _ fun v H1 s1 r1 => hr H0 av A σ H1 δ (E.mono s1) xs hr' _ fun vs H2 s2 r2 => k _ H2 (s1.trans s2) ⟨v, vs, rfl, r1.same s2, r2⟩
theorem RepQL.length {av : Addr -> Prop} {A : Nat -> Option Addr} {H : Hp} {q : Ql} {xs : List D} {vs : List V} (h : RepQL cA av A H q xs vs) : xs.length = vs.length := h.any.length
def ZQ (α : Env -> Option (List D)) (δ : Env) : Option D := match α δ with
 | some xs => if xs.length <= sizeLine then some (.lst xs) else none
 | none => none
theorem VZ {t : TA} {α : Env -> Option (List D)} (h : VA G ow t .cl α) : VF G ow (Qj t) (ZQ α) := fun H0 av A σ H δ E d e Q k => by
 unfold ZQ at e
 cases he : α δ with
 | none => rw [he] at e; cases e
 | some xs =>
  rw [he] at e
  by_cases hz : xs.length <= sizeLine
  · have e' : D.lst xs = d := by simpa [hz] using e
    exact h H0 av A σ H δ E xs he _ fun vs H1 s1 r1 => ⟨by rw [<- r1.length]; exact hz, fun p hp => k p vs xs H1 s1 hp r1.cl e'.symm⟩
  · simp [hz] at e
def ZJ (α : Env -> Option (List D)) (δ : Env) : Option D := match α δ with
 | some xs => if xs.length <= sizeLine then some (.tup xs) else none
 | none => none
theorem X0 {t : TA} {α : Env -> Option (List D)} (h : VA G ow t .cl α) : VE G ow (JN t) .cl (ZJ α) := fun H0 av A σ H δ E d e Q k => by
 unfold ZJ at e
 cases he : α δ with
 | none => rw [he] at e; cases e
 | some xs =>
  rw [he] at e
  by_cases hz : xs.length <= sizeLine
  · have e' : D.tup xs = d := by simpa [hz] using e
    subst e'
    refine h H0 av A σ H δ E xs he _ fun vs H1 s1 r1 => ⟨by rw [<- r1.length]; exact hz, fun p hp => k _ _ (s1.trans (Z0 hp)) ⟨p, vs, rfl, fun z => (E.mono s1).avl p z hp, ZE, r1.cl.same (Z0 hp)⟩⟩
  · simp [hz] at e
def Vp (cA : Kn) (i : Addr -> Prop) (H : Hp) : List D -> List V -> Prop
 | [], vs => vs = []
 | x :: xs, vs => ∃ v r, vs = v :: r /\ (∃ t, RepT cA t i H x v) /\ Vp cA i H xs r
theorem RepQL.il {av : Addr -> Prop} {A : Nat -> Option Addr} {H : Hp} {q : Ql} : ∀ {xs : List D} {vs : List V}, RepQL cA av A H q xs vs -> Vp cA (q.iv av A) H xs vs
 | [], _, h => h
 | x :: xs, vs, h => by
  obtain ⟨v, r, e, h1, h2⟩ := h
  exact ⟨v, r, e, ⟨_, h1.tp⟩, RepQL.il h2⟩
def QD (cA : Kn) (r : List V -> Hp -> VK -> Prop) (f : List D -> Option D) : Prop :=
 ∀ (i : Addr -> Prop) (H : Hp) (ds : List D) (vs : List V) (d : D), (∀ a, i a -> H a ≠ none) -> Vp cA i H ds vs -> f ds = some d -> ∀ Q : VK, (∀ v H', Same H H' -> Rep cA i H' d v -> Q v H') -> r vs H Q
def eCB (f : List D -> Option D) (α : Env -> Option (List D)) (δ : Env) : Option D := match α δ with
 | some ds => f ds
 | none => none
theorem Z4 {r : List V -> Hp -> VK -> Prop} {f : List D -> Option D} {t : TA} {q : Ql} {α : Env -> Option (List D)} (hr : QD G.1 r f) (h : VA G ow t q α) : VE G ow (tCB r t) q.it (eCB f α) := fun H0 av A σ H δ E d e Q k => by
 unfold eCB at e
 cases he : α δ with
 | none => rw [he] at e; cases e
 | some ds =>
  rw [he] at e
  refine h H0 av A σ H δ E ds he _ fun vs H1 s1 r1 => ?_
  have E1 := E.mono s1
  cases q with
  | cl => exact hr _ H1 ds vs d E1.avl r1.il e _ fun v H' s r => k v H' (s1.trans s) r.t
  | tp => exact hr _ H1 ds vs d E1.avl r1.il e _ fun v H' s r => k v H' (s1.trans s) r.t
  | dt => exact hr _ H1 ds vs d E1.avH r1.il e _ fun v H' s r => k v H' (s1.trans s) r.t
theorem il1 {i : Addr -> Prop} {H : Hp} {x : D} {vs : List V} (h : Vp cA i H [x] vs) : ∃ v t, vs = [v] /\ RepT cA t i H x v := by
 obtain ⟨v, r, rfl, ⟨t, h1⟩, h2⟩ := h
 cases (show r = [] from h2)
 exact ⟨v, t, rfl, h1⟩
def lenD : List D -> Option D
 | [.str a] => if a.length <= sizeLine then some (.int a.length) else none
 | [.lst xs] => some (.int xs.length)
 | [.tup xs] => some (.int xs.length)
 | _ => none
theorem Yb : QD cA (Qx cA.K) lenD := fun i H ds vs d _ h e Q k => by
 cases ds with
 | nil => cases e
 | cons x r =>
  cases r with
  | cons _ _ => cases x <;> cases e
  | nil =>
   obtain ⟨v, t, rfl, hx⟩ := il1 h
   cases x <;> first | (cases e; done) | skip
   · rename_i a
     dsimp only [lenD] at e
     by_cases hz : a.length <= sizeLine
     · rw [if_pos hz] at e
       cases e
       exact .inl ⟨a, by rw [show v = S a from hx], hz, k _ H (Same.refl H) rfl⟩
     · rw [if_neg hz] at e; cases e
   · obtain ⟨a, ws, rfl, _, rd, l⟩ := hx
     cases e
     exact .inr ⟨a, ws, rfl, .inl rd, k _ H (Same.refl H) (by rw [l.length]; rfl)⟩
   · obtain ⟨a, ws, rfl, _, rd, l⟩ := hx
     cases e
     exact .inr ⟨a, ws, rfl, .inr (SqT.of rd), k _ H (Same.refl H) (by rw [l.length]; rfl)⟩
def ZfU : List D -> Option D
 | [.int i, .int j] => some (.int (if j < i then j else i))
 | _ => none
def ZfV : List D -> Option D
 | [.int i, .int j] => some (.int (if j > i then j else i))
 | _ => none
def intD : List D -> Option D
 | [.str a] => if a.length <= 640 /\ a ≠ [] /\ a.all Uq = true then some (.int (Qq a : Nat)) else none
 | [.bl b] => some (.int (if b then 1 else 0))
 | _ => none
theorem ZeE : QD cA rIntX intD := fun i H ds vs d _ h e Q k => by
 unfold intD at e
 split at e
 · rename_i a
   obtain ⟨v, t, rfl, hx⟩ := il1 h
   cases (show v = _ from hx)
   by_cases hz : a.length <= 640 /\ a ≠ [] /\ a.all Uq = true
   · rw [if_pos hz] at e
     cases e
     exact .inl ⟨a, rfl, hz.1, hz.2.1, hz.2.2, k _ H (Same.refl H) rfl⟩
   · rw [if_neg hz] at e; cases e
 · rename_i b
   obtain ⟨v, t, rfl, hx⟩ := il1 h
   cases (show v = _ from hx)
   cases e
   exact .inr ⟨b, rfl, k _ H (Same.refl H) rfl⟩
 · cases e
def Yw : List D -> Option D
 | [.lst xs] => some (.tup xs)
 | [.tup xs] => some (.tup xs)
 | _ => none
theorem UE {t : TA} {α : Env -> Option (List D)} (h : VA G ow t .cl α) : VE G ow (tCB (ZcO G.1.K) t) .cl (eCB Yw α) := fun H0 av A σ H δ E d e Q k => by
 unfold eCB at e
 cases he : α δ with
 | none => rw [he] at e; cases e
 | some ds =>
  rw [he] at e
  refine h H0 av A σ H δ E ds he _ fun vs H1 s1 r1 => ?_
  have E1 := E.mono s1
  have e : Yw ds = some d := e
  unfold Yw at e
  split at e
  · rename_i xs
    cases e
    obtain ⟨v, r, rfl, ⟨a, ws, rfl, _, rd, l⟩, h2⟩ := r1
    cases (show r = [] from h2)
    exact ⟨a, ws, rfl, .inl ⟨rd, fun p hp => k _ _ (s1.trans (Z0 hp)) ⟨p, ws, rfl, fun z => E1.avl p z hp, ZE, l.same (Z0 hp)⟩⟩⟩
  · rename_i xs
    cases e
    obtain ⟨v, r, rfl, ⟨a, ws, rfl, na, rd, l⟩, h2⟩ := r1
    cases (show r = [] from h2)
    exact ⟨a, ws, rfl, .inr ⟨SqT.of rd, k _ H1 s1 ⟨a, ws, rfl, na, rd, l⟩⟩⟩
  · cases e
end
end DL
namespace DL
open PySem PySem.Spec L2
inductive Out where
 | nx (δ : Env)
 | rt (d : D)
 | bk (δ : Env)
 | ct (δ : Env)
def Zd6 (G : Cn) (owN owB owC : List Nat) (H0 : Hp) (av : Addr -> Prop) (De : Ends) : Out -> Prop
 | .nx δ' => ∀ A' σ' H', ER G owN H0 av A' σ' H' δ' -> De.nx σ' H'
 | .rt d => ∀ v H', Same H0 H' -> Rep G.1 av H' d v -> De.rt v H'
 | .bk δ' => ∀ A' σ' H', ER G owB H0 av A' σ' H' δ' -> De.bk σ' H'
 | .ct δ' => ∀ A' σ' H', ER G owC H0 av A' σ' H' δ' -> De.ct σ' H'
def VS (G : Cn) (ow owN owB owC : List Nat) (ts : TS) (φ : Env -> Option Out) : Prop :=
 ∀ H0 av A σ H δ, ER G ow H0 av A σ H δ -> ∀ o, φ δ = some o -> ∀ De : Ends, Zd6 G owN owB owC H0 av De o -> ts De σ H
def VG (G : Cn) (ow ow' : List Nat) (g : TG) (γ : D -> Env -> Option Env) : Prop :=
 ∀ H0 av A σ H δ, ER G ow H0 av A σ H δ -> ∀ d v, Rep G.1 (AV av A) H d v -> ∀ δ', γ d δ = some δ' -> ∀ Q : L2.St -> Hp -> Prop, (∀ A' σ' H', Same H H' -> ER G ow' H0 av A' σ' H' δ' -> Q σ' H') -> g v σ H Q
def sub (a b : List Nat) : Bool := a.all fun x => b.contains x
theorem UF {a b : List Nat} (h : sub a b = true) : ∀ x ∈ a, x ∈ b := fun x hx => by
 have := List.all_eq_true.mp h x hx
 simpa using this
section
variable {cA : Kn} {G : Cn} {ow owN owB owC ow1 ow2 : List Nat} {H0 H H' : Hp} {av : Addr -> Prop} {A : Nat -> Option Addr} {σ : L2.St} {δ : Env}
theorem V0 {α : Type} {l : List (Option α)} {i j : Nat} {x y : α} (h : (l.set i (some x))[j]? = some (some y)) : (j = i /\ y = x /\ i < l.length) \/ (j ≠ i /\ l[j]? = some (some y)) := by
 by_cases e : j = i
 · subst e
   by_cases hl : j < l.length
   · rw [List.getElem?_set_self hl] at h
     exact .inl ⟨rfl, (Option.some.inj (Option.some.inj h)).symm, hl⟩
   · rw [List.getElem?_eq_none (by simpa using hl)] at h
     cases h
 · rw [List.getElem?_set_ne (Ne.symm e)] at h
   exact .inr ⟨e, h⟩
theorem ER.set {i : Nat} {d : D} {v : V} (E : ER G ow H0 av A σ H δ) (h : Rep G.1 (AV av A) H d v) (hw : ∀ j, j ∈ ow1 ↔ j ∈ ow /\ j ≠ i) (hn : G.2 i = none) :
 ER G ow1 H0 av (fun j => if j = i then none else A j) (σ.set i (some v)) H (δ.set i (some d)) := by
 have less : ∀ b, AV av (fun j => if j = i then none else A j) b -> AV av A b := fun b z => by
  rcases z with z | ⟨j, z⟩
  · exact .inl z
  · by_cases e : j = i
    · simp [e] at z
    · simp [e] at z; exact .inr ⟨j, z⟩
 refine ⟨E.same, E.avd, fun j a e => ?_, fun j k a e1 e2 => ?_, fun j a e => ?_, fun j e => ?_, fun j hj => ?_, by simp [E.len], fun j a e => (by
  have q : j ≠ i := fun z => by rw [z, hn] at e; cases e
  simp only [q, if_false]; exact E.pin j a e), (fun j v' e => by
  have q : j ≠ i := fun z => by rw [z, hn] at e; cases e
  rw [List.getElem?_set_ne (Ne.symm q)]; exact E.kept j v' e), fun j d' e => ?_⟩
 · by_cases q : j = i
   · simp [q] at e
   · simp [q] at e; exact E.fr j a e
 · by_cases q : j = i
   · simp [q] at e1
   · by_cases q2 : k = i
     · simp [q2] at e2
     · simp [q] at e1; simp [q2] at e2; exact E.inj j k a e1 e2
 · by_cases q : j = i
   · simp [q] at e
   · simp [q] at e; exact E.live j a e
 · by_cases q : j = i
   · simp [q] at e
   · simp [q] at e; exact (hw j).mpr ⟨E.dom j e, q⟩
 · obtain ⟨h1, h2⟩ := (hw j).mp hj
   simp [h2]
   exact E.dom' j h1
 · rcases V0 e with ⟨rfl, rfl, hl⟩ | ⟨q, e'⟩
   · refine ⟨v, ?_, fun _ => h.av fun b z => .inl (less b z), fun a z => by simp at z⟩
     rw [List.getElem?_set_self (by rw [E.len]; exact hl)]
   · obtain ⟨v', h1, h2, h3⟩ := E.var j d' e'
     refine ⟨v', by rw [List.getElem?_set_ne (Ne.symm q)]; exact h1, fun z => ?_, fun a z => ?_⟩
     · simp [q] at z
       exact (h2 z).av fun b z => .inl (less b z)
     · simp [q] at z
       obtain ⟨r1, r2⟩ := h3 a z
       refine ⟨r1, ?_⟩
       cases d' with
       | lst xs => obtain ⟨vs, q1, q2⟩ := r2; exact ⟨vs, q1, q2.av fun b z => .inl (less b z)⟩
       | obj c ks xs => obtain ⟨dx, vs, q1, q0, q2⟩ := r2; exact ⟨dx, vs, q1, q0, q2.av fun b z => .inl (less b z)⟩
       | dct ks xs => obtain ⟨vs, q1, q0, q2⟩ := r2; exact ⟨vs, q1, q0, q2.av fun b z => .inl (less b z)⟩
       | dtt ks xs => obtain ⟨vs, q1, q0, q2⟩ := r2; exact ⟨vs, q1, q0, q2.av fun b z => .inl (less b z)⟩
       | _ => exact r2
theorem ER.own {i : Nat} {xs : List D} {vs : List V} {p : Addr} (E : ER G ow H0 av A σ H δ) (hp : H p = none) (l : RepL G.1 (AV av A) H xs vs) (hw : ∀ j, j ∈ ow1 ↔ j ∈ ow \/ j = i) (hn : G.2 i = none) :
 ER G ow1 H0 av (fun j => if j = i then some p else A j) (σ.set i (some (.ref p))) (upd H p (.lst vs)) (δ.set i (some (.lst xs))) := by
 have hs : Same H (upd H p (.lst vs)) := Z0 hp
 have less : ∀ b, AV av (fun j => if j = i then some p else A j) b -> AV av A b \/ H b = none := fun b z => by
  rcases z with z | ⟨j, z⟩
  · exact .inl (.inl z)
  · by_cases e : j = i
    · simp [e] at z; subst z; exact .inr hp
    · simp [e] at z; exact .inl (.inr ⟨j, z⟩)
 have np : ∀ j a, A j = some a -> a ≠ p := fun j a e z => by subst z; exact E.live j a e hp
 have h0 : H0 p = none := by
  cases q : H0 p with
  | none => rfl
  | some o => rw [E.same p o q] at hp; cases hp
 refine ⟨E.same.trans hs, E.avd, fun j a e => ?_, fun j k a e1 e2 => ?_, fun j a e => ?_, fun j e => ?_, fun j hj => ?_, by simp [E.len], fun j a e => (by
  have q : j ≠ i := fun z => by rw [z, hn] at e; cases e
  simp only [q, if_false]; exact E.pin j a e), (fun j v' e => by
  have q : j ≠ i := fun z => by rw [z, hn] at e; cases e
  rw [List.getElem?_set_ne (Ne.symm q)]; exact E.kept j v' e), fun j d' e => ?_⟩
 · by_cases q : j = i
   · simp [q] at e; subst e; exact h0
   · simp [q] at e; exact E.fr j a e
 · by_cases q : j = i
   · by_cases q2 : k = i
     · rw [q, q2]
     · simp [q] at e1; simp [q2] at e2
       exact absurd e1.symm (np k a e2)
   · by_cases q2 : k = i
     · simp [q] at e1; simp [q2] at e2
       exact absurd e2.symm (np j a e1)
     · simp [q] at e1; simp [q2] at e2; exact E.inj j k a e1 e2
 · by_cases q : j = i
   · simp [q] at e; subst e; rw [ZE]; exact fun z => by cases z
   · simp [q] at e
     rw [Zn (np j a e)]
     exact E.live j a e
 · by_cases q : j = i
   · exact (hw j).mpr (.inr q)
   · simp [q] at e; exact (hw j).mpr (.inl (E.dom j e))
 · by_cases q : j = i
   · simp [q]
   · simp [q]
     exact E.dom' j (((hw j).mp hj).resolve_right q)
 · rcases V0 e with ⟨rfl, rfl, hl⟩ | ⟨q, e'⟩
   · refine ⟨.ref p, ?_, fun z => by simp at z, fun a z => ?_⟩
     · rw [List.getElem?_set_self (by rw [E.len]; exact hl)]
     · simp at z
       subst z
       exact ⟨rfl, vs, ZE, (l.av less).same hs⟩
   · obtain ⟨v', h1, h2, h3⟩ := E.var j d' e'
     refine ⟨v', by rw [List.getElem?_set_ne (Ne.symm q)]; exact h1, fun z => ?_, fun a z => ?_⟩
     · simp [q] at z
       exact ((h2 z).av less).same hs
     · simp [q] at z
       obtain ⟨r1, r2⟩ := h3 a z
       refine ⟨r1, ?_⟩
       cases d' with
       | lst xs => obtain ⟨vs', q1, q2⟩ := r2; exact ⟨vs', hs _ _ q1, (q2.av less).same hs⟩
       | obj c ks xs => obtain ⟨dx, vs', q1, q0, q2⟩ := r2; exact ⟨dx, vs', hs _ _ q1, q0, (q2.av less).same hs⟩
       | dct ks xs => obtain ⟨vs', q1, q0, q2⟩ := r2; exact ⟨vs', hs _ _ q1, q0, (q2.av less).same hs⟩
       | dtt ks xs => obtain ⟨vs', q1, q0, q2⟩ := r2; exact ⟨vs', hs _ _ q1, q0, (q2.av less).same hs⟩
       | _ => exact r2
theorem ER.put {i : Nat} {a : Addr} {d d' : D} (E : ER G ow H0 av A σ H δ) (hi : A i = some a) (hd : δ[i]? = some (some d)) (hk : ∀ b o, b ≠ a -> H b = some o -> H' b = some o) (hl : H' a ≠ none) (ho : Own G.1 (AV av A) H' d' a) :
 ER G ow H0 av A σ H' (δ.set i (some d')) := by
 have kk : ∀ b o, ¬ AV av A b -> H b = some o -> H' b = some o := fun b o n e => hk b o (fun z => n (.inr ⟨i, by rw [z]; exact hi⟩)) e
 refine ⟨fun b o e => hk b o (fun z => ?_) (E.same b o e), E.avd, E.fr, E.inj, fun j b e => ?_, E.dom, E.dom', by simp [E.len], E.pin, E.kept, fun j d'' e => ?_⟩
 · rw [z, E.fr i a hi] at e; cases e
 · by_cases q : b = a
   · subst q; exact hl
   · have := E.live j b e
     cases e' : H b with
     | none => exact absurd e' this
     | some o => rw [hk b o q e']; exact fun z => by cases z
 · rcases V0 e with ⟨rfl, rfl, hl'⟩ | ⟨q, e'⟩
   · obtain ⟨v, h1, _, h3⟩ := E.var j d hd
     obtain ⟨r1, _⟩ := h3 a hi
     exact ⟨v, h1, fun z => (by rw [hi] at z; cases z), fun b z => by
      rw [hi] at z; cases z
      exact ⟨r1, ho⟩⟩
   · obtain ⟨v', h1, h2, h3⟩ := E.var j d'' e'
     refine ⟨v', h1, fun z => (h2 z).ext kk, fun b z => ?_⟩
     obtain ⟨r1, r2⟩ := h3 b z
     have nb : b ≠ a := fun w => q (E.inj j i a (by rw [<- w]; exact z) hi)
     refine ⟨r1, ?_⟩
     cases d'' with
     | lst xs => obtain ⟨vs, q1, q2⟩ := r2; exact ⟨vs, hk _ _ nb q1, q2.ext kk⟩
     | obj c ks xs => obtain ⟨dx, vs, q1, q0, q2⟩ := r2; exact ⟨dx, vs, hk _ _ nb q1, q0, q2.ext kk⟩
     | dct ks xs => obtain ⟨vs, q1, q0, q2⟩ := r2; exact ⟨vs, hk _ _ nb q1, q0, q2.ext kk⟩
     | dtt ks xs => obtain ⟨vs, q1, q0, q2⟩ := r2; exact ⟨vs, hk _ _ nb q1, q0, q2.ext kk⟩
     | _ => exact r2
theorem ER.freeze (i : Nat) (E : ER G ow H0 av A σ H δ) (hw : ∀ j, j ∈ ow1 ↔ j ∈ ow /\ j ≠ i) (hn : G.2 i = none) : ER G ow1 H0 av (fun j => if j = i then none else A j) σ H δ := by
 have less : ∀ b, AV av (fun j => if j = i then none else A j) b -> AV av A b := fun b z => by
  rcases z with z | ⟨j, z⟩
  · exact .inl z
  · by_cases e : j = i
    · simp [e] at z
    · simp [e] at z; exact .inr ⟨j, z⟩
 refine ⟨E.same, E.avd, fun j a e => ?_, fun j k a e1 e2 => ?_, fun j a e => ?_, fun j e => ?_, fun j hj => ?_, E.len, fun j a e => (by
  have q : j ≠ i := fun z => by rw [z, hn] at e; cases e
  simp only [q, if_false]; exact E.pin j a e), E.kept, fun j d' e => ?_⟩
 · by_cases q : j = i
   · simp [q] at e
   · simp [q] at e; exact E.fr j a e
 · by_cases q : j = i
   · simp [q] at e1
   · by_cases q2 : k = i
     · simp [q2] at e2
     · simp [q] at e1; simp [q2] at e2; exact E.inj j k a e1 e2
 · by_cases q : j = i
   · simp [q] at e
   · simp [q] at e; exact E.live j a e
 · by_cases q : j = i
   · simp [q] at e
   · simp [q] at e; exact (hw j).mpr ⟨E.dom j e, q⟩
 · obtain ⟨h1, h2⟩ := (hw j).mp hj
   simp [h2]
   exact E.dom' j h1
 · obtain ⟨v', h1, h2, h3⟩ := E.var j d' e
   refine ⟨v', h1, fun z => ?_, fun a z => ?_⟩
   · by_cases q : j = i
     · subst q
       cases hA : A j with
       | none => exact (h2 hA).av fun b z => .inl (less b z)
       | some a =>
        obtain ⟨rfl, r2⟩ := h3 a hA
        have na : ¬ AV av (fun k => if k = j then none else A k) a := fun z => by
         rcases z with z | ⟨k, z⟩
         · exact E.avd a z (E.fr j a hA)
         · by_cases qk : k = j
           · simp [qk] at z
           · simp [qk] at z; exact qk (E.inj k j a z hA)
        cases d' with
        | lst xs => obtain ⟨vs, q1, q2⟩ := r2; unfold Rep; exact ⟨a, vs, rfl, fun z => (na z).elim, SqL.of q1, q2.av fun b z => .inl (less b z)⟩
        | obj c ks xs => obtain ⟨dx, vs, q1, q0, q2⟩ := r2; unfold Rep; exact ⟨a, dx, vs, rfl, na, q1, q0, q2.av fun b z => .inl (less b z)⟩
        | dct ks xs => obtain ⟨vs, q1, q0, q2⟩ := r2; unfold Rep; exact ⟨a, vs, rfl, na, q1, q0, q2.av fun b z => .inl (less b z)⟩
        | dtt ks xs => obtain ⟨vs, q1, q0, q2⟩ := r2; unfold Rep; exact ⟨a, vs, rfl, na, q1, q0, q2.av fun b z => .inl (less b z)⟩
        | _ => exact False.elim r2
     · simp [q] at z
       exact (h2 z).av fun b z => .inl (less b z)
   · by_cases q : j = i
     · simp [q] at z
     · simp [q] at z
       obtain ⟨r1, r2⟩ := h3 a z
       refine ⟨r1, ?_⟩
       cases d' with
       | lst xs => obtain ⟨vs, q1, q2⟩ := r2; exact ⟨vs, q1, q2.av fun b z => .inl (less b z)⟩
       | obj c ks xs => obtain ⟨dx, vs, q1, q0, q2⟩ := r2; exact ⟨dx, vs, q1, q0, q2.av fun b z => .inl (less b z)⟩
       | dct ks xs => obtain ⟨vs, q1, q0, q2⟩ := r2; exact ⟨vs, q1, q0, q2.av fun b z => .inl (less b z)⟩
       | dtt ks xs => obtain ⟨vs, q1, q0, q2⟩ := r2; exact ⟨vs, q1, q0, q2.av fun b z => .inl (less b z)⟩
       | _ => exact r2
open Classical in
noncomputable def cut (A : Nat -> Option Addr) (H : Hp) : Hp := fun b => if ∃ i, A i = some b then none else H b
theorem ZaH {b : Addr} {o : HO} (h : cut A H b = some o) : H b = some o /\ ¬ ∃ i, A i = some b := by
 unfold cut at h
 by_cases e : ∃ i, A i = some b
 · rw [if_pos e] at h; cases h
 · rw [if_neg e] at h; exact ⟨h, e⟩
theorem Vq {b : Addr} (e : ¬ ∃ i, A i = some b) : cut A H b = H b := by
 unfold cut
 rw [if_neg e]
theorem ER.cut (E : ER G ow H0 av A σ H δ) : ER G ow (DL.cut A H) av A σ H δ := by
 refine ⟨fun b o e => (ZaH e).1, fun a z => ?_, fun i a e => ?_, E.inj, E.live, E.dom, E.dom', E.len, E.pin, E.kept, E.var⟩
 · rw [Vq fun ⟨i, e⟩ => E.avd a z (E.fr i a e)]
   exact E.avH a z
 · unfold DL.cut
   rw [if_pos ⟨i, e⟩]
theorem ER.sub0 (E : ER G ow H0 av A σ H δ) : Same H0 (DL.cut A H) := fun b o e => by
 rw [Vq fun ⟨i, z⟩ => by rw [E.fr i b z] at e; cases e]
 exact E.same b o e
theorem ER.uncut {A' : Nat -> Option Addr} {σ' : L2.St} {δ' : Env} (E : ER G ow H0 av A σ H δ) (E' : ER G ow1 (DL.cut A H) av A' σ' H' δ') : ER G ow1 H0 av A' σ' H' δ' :=
 ⟨E.sub0.trans E'.same, E.avd, fun i a e => E.sub0.free (E'.fr i a e), E'.inj, E'.live, E'.dom, E'.dom', E'.len, E'.pin, E'.kept, E'.var⟩
def sNext (δ : Env) : Option Out := some (.nx δ)
theorem Xm : VS G ow ow owB owC tNext sNext := fun H0 av A σ H δ E o e De k => by
 cases e
 exact k A σ H E
def Zd (φ ψ : Env -> Option Out) (δ : Env) : Option Out := match φ δ with
 | some (.nx δ') => ψ δ'
 | r => r
theorem Zx {t u : TS} {φ ψ : Env -> Option Out} (h1 : VS G ow ow1 owB owC t φ) (h2 : VS G ow1 owN owB owC u ψ) : VS G ow owN owB owC (Vd t u) (Zd φ ψ) := fun H0 av A σ H δ E o e De k => by
 unfold Zd at e
 cases he : φ δ with
 | none => rw [he] at e; cases e
 | some o1 =>
  rw [he] at e
  refine h1 H0 av A σ H δ E o1 he _ ?_
  cases o1 with
  | nx δ' => exact fun A' σ' H' E' => h2 H0 av A' σ' H' δ' E' o e De k
  | rt d => cases e; exact k
  | bk δ' => cases e; exact k
  | ct δ' => cases e; exact k
def sIf (τ : Env -> Option Bool) (φ ψ : Env -> Option Out) (δ : Env) : Option Out := match τ δ with
 | some true => φ δ
 | some false => ψ δ
 | none => none
theorem YM {c : TT} {t u : TS} {τ : Env -> Option Bool} {φ ψ : Env -> Option Out} (hc : VT G ow c τ) (h1 : VS G ow owN owB owC t φ) (h2 : VS G ow owN owB owC u ψ) : VS G ow owN owB owC (U8 c t u) (sIf τ φ ψ) := fun H0 av A σ H δ E o e De k => by
 unfold sIf at e
 cases he : τ δ with
 | none => rw [he] at e; cases e
 | some b =>
  rw [he] at e
  refine hc H0 av A σ H δ E b he _ fun H' s => ?_
  cases b with
  | true => exact XY (h1 H0 av A σ H' δ (E.mono s) o e De k)
  | false => exact XX (h2 H0 av A σ H' δ (E.mono s) o e De k)
def Zu (ε : Env -> Option D) (δ : Env) : Option Out := match ε δ with
 | some d => some (.rt d)
 | none => none
theorem Yg {te : TE} {q : Ql} {ε : Env -> Option D} (h : VE G ow te q ε) : VS G ow owN owB owC (Ug te) (Zu ε) := fun H0 av A σ H δ E o e De k => by
 unfold Zu at e
 cases he : ε δ with
 | none => rw [he] at e; cases e
 | some d =>
  rw [he] at e
  cases e
  exact h H0 av A σ H δ E d he _ fun v H' s r => k v H' (E.same.trans s) r.any
def Zd7 (_ : Env) : Option Out := some (.rt .non)
def sNever (_ : Env) : Option Out := none
theorem Zcw {ts : TS} : VS G ow owN owB owC ts sNever := fun H0 av A σ H δ E o e De k => by cases e
def Zg (i : Nat) (ε : Env -> Option D) (δ : Env) : Option Out := match ε δ with
 | some d => some (.nx (δ.set i (some d)))
 | none => none
theorem UG {i : Nat} (h1 : sub ow1 ow = true) (h2 : ow1.contains i = false) (h3 : sub ow (i :: ow1) = true) : ∀ j, j ∈ ow1 ↔ j ∈ ow /\ j ≠ i := fun j => by
 constructor
 · intro h
   refine ⟨UF h1 j h, fun e => ?_⟩
   subst e
   have : j ∉ ow1 := by simpa using h2
   exact this h
 · rintro ⟨h, n⟩
   rcases List.mem_cons.mp (UF h3 j h) with e | e
   · exact absurd e n
   · exact e
theorem QE {i : Nat} (h1 : sub ow1 (i :: ow) = true) (h2 : ow1.contains i = true) (h3 : sub ow ow1 = true) : ∀ j, j ∈ ow1 ↔ j ∈ ow \/ j = i := fun j => by
 constructor
 · intro h
   rcases List.mem_cons.mp (UF h1 j h) with e | e
   · exact .inr e
   · exact .inl e
 · rintro (h | rfl)
   · exact UF h3 j h
   · simpa using h2
theorem ZW {te : TE} {ε : Env -> Option D} (i : Nat) (h : VE G ow te .cl ε) (hn : G.2 i = none) (h1 : sub owN ow = true) (h2 : owN.contains i = false) (h3 : sub ow (i :: owN) = true) : VS G ow owN owB owC (YT te (YJ i)) (Zg i ε) := fun H0 av A σ H δ E o e De k => by
 unfold Zg at e
 cases he : ε δ with
 | none => rw [he] at e; cases e
 | some d =>
  rw [he] at e
  cases e
  exact h H0 av A σ H δ E d he _ fun v H' s r => k _ _ H' ((E.mono s).set (RepT.r r) (UG h1 h2 h3) hn)
theorem QF {te : TE} {ε : Env -> Option D} (i : Nat) (h : VF G ow te ε) (hn : G.2 i = none) (h1 : sub owN (i :: ow) = true) (h2 : owN.contains i = true) (h3 : sub ow owN = true) : VS G ow owN owB owC (YT te (YJ i)) (Zg i ε) := fun H0 av A σ H δ E o e De k => by
 unfold Zg at e
 cases he : ε δ with
 | none => rw [he] at e; cases e
 | some d =>
  rw [he] at e
  cases e
  refine h H0 av A σ H δ E d he _ fun p vs xs H1 s hp l hd => ?_
  subst hd
  exact k _ _ _ ((E.mono s).own hp l (QE h1 h2 h3) hn)
def QG (ε : Env -> Option D) (δ : Env) : Option Out := match ε δ with
 | some _ => some (.nx δ)
 | none => none
def Yn (i : Nat) (ε : Env -> Option D) (δ : Env) : Option Out := match Za i δ with
 | some (.lst xs) => match ε δ with
  | some d => if xs.length < sizeLine then some (.nx (δ.set i (some (.lst (xs ++ [d]))))) else none
  | none => none
 | _ => none
theorem QH {K : PySem.W.Frag} {te : TE} {ε : Env -> Option D} (i : Nat) (hi : ow.contains i = true) (h : VE G ow te .cl ε) : VS G ow ow owB owC (U7 (tBM K "list" rAppend (Yq i) (Xy te tNil))) (Yn i ε) := fun H0 av A σ H δ E o e De k => by
 unfold Yn at e
 cases hv : Za i δ with
 | none => rw [hv] at e; cases e
 | some x =>
  rw [hv] at e
  cases x <;> first | (cases e; done) | skip
  rename_i xs
  dsimp only at e
  cases he : ε δ with
  | none => rw [he] at e; cases e
  | some d =>
   rw [he] at e
   dsimp only at e
   by_cases hz : xs.length < sizeLine
   · rw [if_pos hz] at e
     cases e
     have hi' : i ∈ ow := by simpa using hi
     cases hA : A i with
     | none => exact absurd hA (E.dom' i hi')
     | some a =>
      obtain ⟨v, h1, _, h3⟩ := E.var i _ (Ya hv)
      obtain ⟨rfl, vs, q1, q2⟩ := h3 a hA
      refine ⟨_, h1, .inl ⟨rfl, vs, SqL.of q1⟩, h H0 av A σ H δ E d he _ fun v H' s r => ?_⟩
      have E' := E.mono s
      have q1' := s _ _ q1
      refine ⟨a, vs, v, rfl, rfl, q1', by rw [<- q2.length]; exact hz, k A σ _ (E'.put hA (Ya hv) (fun b o hb e => by rw [Zn hb]; exact e) (by rw [ZE]; exact fun z => by cases z) ⟨_, ZE, ?_⟩)⟩
      have ex : ∀ b o, ¬ AV av A b -> H' b = some o -> upd H' a (.lst (vs ++ [v])) b = some o := fun b o n e => by
       rw [Zn fun z => n (.inr ⟨i, by rw [z]; exact hA⟩)]
       exact e
      exact ((q2.same s).append (.cons (RepT.r r) .nil)).ext ex
   · rw [if_neg hz] at e; cases e
theorem VS.frz {t : TS} {φ : Env -> Option Out} (i : Nat) (h : VS G ow1 owN owB owC t φ) (hn : G.2 i = none) (h1 : sub ow1 ow = true) (h2 : ow1.contains i = false) (h3 : sub ow (i :: ow1) = true) : VS G ow owN owB owC t φ := fun H0 av A σ H δ E o e De k =>
 h H0 av _ σ H δ (E.freeze i (UG h1 h2 h3) hn) o e De k
def Zt (i : Nat) (d : D) (δ : Env) : Option Env := some (δ.set i (some d))
theorem XB (i : Nat) (hi : ow.contains i = false) (hn : G.2 i = none) : VG G ow ow (YJ i) (Zt i) := fun H0 av A σ H δ E d v r δ' e Q k => by
 cases e
 exact k _ _ H (Same.refl H) (E.set r (fun j => by
  have : i ∉ ow := by simpa using hi
  exact ⟨fun h => ⟨h, fun z => this (z ▸ h)⟩, fun h => h.1⟩) hn)
def VGs (G : Cn) (ow ow' : List Nat) (g : TGs) (γ : List D -> Env -> Option Env) : Prop :=
 ∀ H0 av A σ H δ, ER G ow H0 av A σ H δ -> ∀ ds vs, RepL G.1 (AV av A) H ds vs -> ∀ δ', γ ds δ = some δ' -> ∀ Q : L2.St -> Hp -> Prop, (∀ A' σ' H', Same H H' -> (∀ b, AV av A' b -> AV av A b) -> ER G ow' H0 av A' σ' H' δ' -> Q σ' H') -> g vs σ H Q
def gsNil (ds : List D) (δ : Env) : Option Env := match ds with
 | [] => some δ
 | _ => none
theorem Zdr : VGs G ow ow gNil gsNil := fun H0 av A σ H δ E ds vs r δ' e Q k => by
 cases ds with
 | nil => cases e; exact ⟨r.nil_of, k A σ H (Same.refl H) (fun _ z => z) E⟩
 | cons _ _ => cases e
def Y1 (i : Nat) (γs : List D -> Env -> Option Env) (ds : List D) (δ : Env) : Option Env := match ds with
 | d :: r => γs r (δ.set i (some d))
 | [] => none
theorem QI {gs : TGs} {γs : List D -> Env -> Option Env} (i : Nat) (hi : ow.contains i = false) (hn : G.2 i = none) (h : VGs G ow ow gs γs) : VGs G ow ow (Jt (YJ i) gs) (Y1 i γs) := fun H0 av A σ H δ E ds vs r δ' e Q k => by
 cases ds with
 | nil => cases e
 | cons d ds =>
  obtain ⟨v, vr, rfl, r1, r2⟩ := r.uncons
  refine ⟨v, vr, rfl, ?_⟩
  have less : ∀ b, AV av (fun j => if j = i then none else A j) b -> AV av A b := fun b z => by
   rcases z with z | ⟨j, z⟩
   · exact .inl z
   · by_cases e : j = i
     · simp [e] at z
     · simp [e] at z; exact .inr ⟨j, z⟩
  have E1 : ER G ow H0 av (fun j => if j = i then none else A j) (σ.set i (some v)) H (δ.set i (some d)) := E.set r1 (fun j => by
   have : i ∉ ow := by simpa using hi
   exact ⟨fun h => ⟨h, fun z => this (z ▸ h)⟩, fun h => h.1⟩) hn
  exact h H0 av _ _ H _ E1 ds vr (r2.av fun b z => .inl (less b z)) δ' e Q fun A' σ' H' s l E' => k A' σ' H' s (fun b z => less b (l b z)) E'
def V1 (n : Nat) (γs : List D -> Env -> Option Env) (d : D) (δ : Env) : Option Env := match d with
 | .tup ds => if ds.length = n then γs ds δ else none
 | _ => none
theorem ZeF {K : PySem.W.Frag} {n : Nat} {gs : TGs} {γs : List D -> Env -> Option Env} (h : VGs G ow ow gs γs) : VG G ow ow (Qa K n gs) (V1 n γs) := fun H0 av A σ H δ E d v r δ' e Q k => by
 cases d <;> first | (cases e; done) | skip
 rename_i ds
 dsimp only [V1] at e
 by_cases hz : ds.length = n
 · rw [if_pos hz] at e
   unfold Rep at r
   obtain ⟨a, vs, rfl, _, rd, l⟩ := r
   exact ⟨a, vs, rfl, SqT.of rd, by rw [<- l.length]; exact hz, h H0 av A σ H δ E ds vs l δ' e Q fun A' σ' H' s _ E' => k A' σ' H' s E'⟩
 · rw [if_neg hz] at e; cases e
def Vr (cA : Kn) (iv : Addr -> Prop) (J : It) (xs : List D) (H0 : Hp) : Prop := ∀ H, Same H0 H ->
 (∀ i, i < xs.length -> J.go i H) /\
 (∀ (i : Nat) x v H', xs[i]? = some x -> J.yld i H v H' -> Same H H' /\ ∀ av' : Addr -> Prop, (∀ b, av' b -> H b ≠ none) -> (∀ b, av' b -> iv b \/ H0 b = none) -> Rep cA av' H' x v) /\
 (∀ i, xs.length <= i -> J.stop i H)
def VI (G : Cn) (ow : List Nat) (wi : TI) (ι : Env -> Option (List D)) : Prop :=
 ∀ H0 av A σ H δ, ER G ow H0 av A σ H δ -> ∀ xs, ι δ = some xs -> ∀ R : It -> Hp -> Prop, (∀ J H1, Same H H1 -> Vr G.1 (AV av A) J xs (DL.cut A H1) -> R J H1) -> wi σ H R
def ZA (γ : D -> Env -> Option Env) (φ : Env -> Option Out) : List D -> Env -> Option Out
 | [], δ => some (.nx δ)
 | x :: r, δ => match γ x δ with
  | none => none
  | some δ1 => match φ δ1 with
   | none => none
   | some (.nx δ2) => ZA γ φ r δ2
   | some (.ct δ2) => ZA γ φ r δ2
   | some (.bk δ2) => some (.nx δ2)
   | some (.rt d) => some (.rt d)
def ZP (ι : Env -> Option (List D)) (γ : D -> Env -> Option Env) (φ : Env -> Option Out) (δ : Env) : Option Out := match ι δ with
 | some xs => ZA γ φ xs δ
 | none => none
theorem Vs {wi : TI} {g : TG} {tb : TS} {ι : Env -> Option (List D)} {γ : D -> Env -> Option Env} {φ : Env -> Option Out} (hi : VI G ow wi ι) (hg : VG G ow ow g γ) (hb : VS G ow ow ow ow tb φ) : VS G ow ow owB owC (Qe wi g tb) (ZP ι γ φ) := fun H0 av A σ H δ E o e De k => by
 unfold ZP at e
 cases he : ι δ with
 | none => rw [he] at e; cases e
 | some xs =>
  rw [he] at e
  have e : ZA γ φ xs δ = some o := e
  refine hi H0 av A σ H δ E xs he _ fun J H1 s1 W => ?_
  have E1 := E.mono s1
  refine ⟨fun i m σ' H' => m = xs.length - i /\ i <= xs.length /\ ∃ A' δ', ER G ow (DL.cut A H1) av A' σ' H' δ' /\ ZA γ φ (xs.drop i) δ' = some o, ⟨xs.length, by simp, Nat.zero_le _, A, δ, E1.cut, e⟩, ?_⟩
  rintro i m σ' H' ⟨rfl, hle, A', δ', E', e'⟩
  obtain ⟨w1, w2, w3⟩ := W H' E'.same
  by_cases hlt : i < xs.length
  · refine .inr ⟨w1 i hlt, fun σ2 H2 => ∃ A2 δ2, ER G ow (DL.cut A H1) av A2 σ2 H2 δ2 /\ ZA γ φ (xs.drop (i + 1)) δ2 = some o, fun σ2 H2 ⟨A2, δ2, E2, e2⟩ => ⟨xs.length - (i + 1), by omega, rfl, hlt, A2, δ2, E2, e2⟩, fun v H2 y => ?_⟩
    have hx : xs[i]? = some xs[i] := List.getElem?_eq_getElem hlt
    obtain ⟨s2, rep⟩ := w2 i _ v H2 hx y
    have E2 := E'.mono s2
    have rep' : Rep G.1 (AV av A') H2 xs[i] v := rep _ E'.avl fun b z => by
     rcases z with z | ⟨j, z⟩
     · exact .inl (.inl z)
     · exact .inr (E'.fr j b z)
    rw [List.drop_eq_getElem_cons hlt] at e'
    unfold ZA at e'
    cases hγ : γ xs[i] δ' with
    | none => rw [hγ] at e'; cases e'
    | some δ1 =>
     rw [hγ] at e'
     dsimp only at e'
     refine hg _ av A' σ' H2 δ' E2 _ v rep' δ1 hγ _ fun A3 σ3 H3 s3 E3 => ?_
     cases hφ : φ δ1 with
     | none => rw [hφ] at e'; cases e'
     | some o1 =>
      rw [hφ] at e'
      refine hb _ av A3 σ3 H3 δ1 E3 o1 hφ _ ?_
      cases o1 with
      | nx δ2 => exact fun A4 σ4 H4 E4 => ⟨A4, δ2, E4, e'⟩
      | ct δ2 => exact fun A4 σ4 H4 E4 => ⟨A4, δ2, E4, e'⟩
      | bk δ2 => cases e'; exact fun A4 σ4 H4 E4 => k A4 σ4 H4 (E1.uncut E4)
      | rt d => cases e'; exact fun v H4 s4 r4 => k v H4 (E1.sub0.trans s4) r4
  · have ei : i = xs.length := by omega
    subst ei
    rw [List.drop_length] at e'
    cases e'
    exact .inl ⟨w3 _ (Nat.le_refl _), k A' σ' H' (E1.uncut E')⟩
def ZB (τ : Env -> Option Bool) (φ : Env -> Option Out) : Nat -> Env -> Option Out
 | 0, _ => none
 | n + 1, δ => match τ δ with
  | none => none
  | some false => some (.nx δ)
  | some true => match φ δ with
   | none => none
   | some (.nx δ2) => ZB τ φ n δ2
   | some (.ct δ2) => ZB τ φ n δ2
   | some (.bk δ2) => some (.nx δ2)
   | some (.rt d) => some (.rt d)
theorem UH {τ : Env -> Option Bool} {φ : Env -> Option Out} : ∀ (n k : Nat) (δ : Env) (o : Out), ZB τ φ n δ = some o -> ZB τ φ (n + k) δ = some o
 | 0, _, _, _, h => by cases h
 | n + 1, k, δ, o, h => by
  rw [Nat.add_right_comm]
  unfold ZB at h ⊢
  cases ht : τ δ with
  | none => rw [ht] at h; cases h
  | some b =>
   rw [ht] at h
   cases b with
   | false => exact h
   | true =>
    dsimp only at h ⊢
    cases hp : φ δ with
    | none => rw [hp] at h; cases h
    | some o1 =>
     rw [hp] at h
     cases o1 with
     | nx δ2 => exact UH n k δ2 o h
     | ct δ2 => exact UH n k δ2 o h
     | bk δ2 => exact h
     | rt d => exact h
open Classical in
noncomputable def Z5 (τ : Env -> Option Bool) (φ : Env -> Option Out) (δ : Env) : Option Out := if h : ∃ n o, ZB τ φ n δ = some o then ZB τ φ (Classical.choose h) δ else none
theorem V2 {τ : Env -> Option Bool} {φ : Env -> Option Out} {δ : Env} {n : Nat} {o : Out} (h : ZB τ φ n δ = some o) : Z5 τ φ δ = some o := by
 have hx : ∃ n o, ZB τ φ n δ = some o := ⟨n, o, h⟩
 unfold Z5
 rw [dif_pos hx]
 obtain ⟨o', ho'⟩ := Classical.choose_spec hx
 have h1 := UH _ n δ o' ho'
 have h2 := UH _ (Classical.choose hx) δ o h
 rw [Nat.add_comm, h2] at h1
 rw [ho', h1]
theorem ZaE {τ : Env -> Option Bool} {φ : Env -> Option Out} {δ : Env} {o : Out} (h : Z5 τ φ δ = some o) : ∃ n, ZB τ φ n δ = some o := by
 unfold Z5 at h
 split at h
 · exact ⟨_, h⟩
 · cases h
theorem QJ {c : TT} {tb : TS} {τ : Env -> Option Bool} {φ : Env -> Option Out} (hc : VT G ow c τ) (hb : VS G ow ow ow ow tb φ) : VS G ow ow owB owC (Jw c tb) (Z5 τ φ) := fun H0 av A σ H δ E o e De k => by
 obtain ⟨n, e⟩ := ZaE e
 refine ⟨fun m σ' H' => ∃ A' δ', ER G ow H0 av A' σ' H' δ' /\ ZB τ φ m δ' = some o, ⟨n, A, δ, E, e⟩, ?_⟩
 rintro m σ' H' ⟨A', δ', E', e'⟩
 cases m with
 | zero => cases e'
 | succ m =>
  unfold ZB at e'
  cases ht : τ δ' with
  | none => rw [ht] at e'; cases e'
  | some b =>
   rw [ht] at e'
   refine hc H0 av A' σ' H' δ' E' b ht _ fun H2 s2 => ?_
   have E2 := E'.mono s2
   cases b with
   | false => cases e'; exact XX (k A' σ' H2 E2)
   | true =>
    dsimp only at e'
    refine XY ⟨fun σ3 H3 => ∃ A3 δ3, ER G ow H0 av A3 σ3 H3 δ3 /\ ZB τ φ m δ3 = some o, fun σ3 H3 ⟨A3, δ3, E3, e3⟩ => ⟨m, Nat.lt_succ_self _, A3, δ3, E3, e3⟩, ?_⟩
    cases hφ : φ δ' with
    | none => rw [hφ] at e'; cases e'
    | some o1 =>
     rw [hφ] at e'
     refine hb H0 av A' σ' H2 δ' E2 o1 hφ _ ?_
     cases o1 with
     | nx δ2 => exact fun A4 σ4 H4 E4 => ⟨A4, δ2, E4, e'⟩
     | ct δ2 => exact fun A4 σ4 H4 E4 => ⟨A4, δ2, E4, e'⟩
     | bk δ2 => cases e'; exact k
     | rt d => cases e'; exact k
end
end DL
namespace DL
open PySem PySem.Spec L2
section
variable {cA : Kn} {G : Cn} {ow owN owB owC : List Nat}
def Yh (ε : Env -> Option D) (δ : Env) : Option (List D) := match ε δ with
 | some (.lst xs) => some xs
 | some (.tup xs) => some xs
 | some (.str cs) => some (cs.map fun c => .str [c])
 | _ => none
theorem Rep.cut {av : Addr -> Prop} {A : Nat -> Option Addr} {H : Hp} {d : D} {v : V} (h : Rep cA (AV av A) H d v) : Rep cA (AV av A) (DL.cut A H) d v := h.ext fun b o n e => by
 rw [Vq fun ⟨i, z⟩ => n (.inr ⟨i, z⟩)]
 exact e
theorem RepL.cut {av : Addr -> Prop} {A : Nat -> Option Addr} {H : Hp} {d : List D} {v : List V} (h : RepL cA (AV av A) H d v) : RepL cA (AV av A) (DL.cut A H) d v := h.ext fun b o n e => by
 rw [Vq fun ⟨i, z⟩ => n (.inr ⟨i, z⟩)]
 exact e
theorem Zbd {iv : Addr -> Prop} {H0 : Hp} {a : Addr} {vs : List V} {xs : List D} (rd : SqL cA.K H0 a vs) (l : RepL cA iv H0 xs vs) : Vr cA iv (Itl cA.K a) xs H0 := fun H s => by
 have rd' : SqL cA.K H a vs := s.seq rd
 refine ⟨fun i hi => ?_, fun i x v H' hx y => ?_, fun i hi => ⟨vs, rd', by rw [<- l.length]; exact hi⟩⟩
 · obtain ⟨v, hv, _⟩ := l.get (List.getElem?_eq_getElem hi)
   exact ⟨vs, v, rd', hv⟩
 · obtain ⟨rfl, hy⟩ := y
   obtain ⟨v', hv, r⟩ := l.get hx
   rw [hy vs rd'] at hv
   cases hv
   exact ⟨Same.refl _, fun av' _ h2 => (r.av h2).same s⟩
theorem Zb5 {K : PySem.W.Frag} {iv : Addr -> Prop} {H0 : Hp} {a : Addr} {vs : List V} {xs : List D} (rd : H0 a = some (.tup vs)) (l : RepL cA iv H0 xs vs) : Vr cA iv (Itt K a) xs H0 := fun H s => by
 have rd' : SqT K H a vs := SqT.of (s _ _ rd)
 refine ⟨fun i hi => ?_, fun i x v H' hx y => ?_, fun i hi => ⟨vs, rd', by rw [<- l.length]; exact hi⟩⟩
 · obtain ⟨v, hv, _⟩ := l.get (List.getElem?_eq_getElem hi)
   exact ⟨vs, v, rd', hv⟩
 · obtain ⟨rfl, hy⟩ := y
   obtain ⟨v', hv, r⟩ := l.get hx
   rw [hy vs rd'] at hv
   cases hv
   exact ⟨Same.refl _, fun av' _ h2 => (r.av h2).same s⟩
theorem Zb6 {iv : Addr -> Prop} {H0 : Hp} {cs : List Nat} : Vr cA iv (Its cs) (cs.map fun c => .str [c]) H0 := fun H s => by
 refine ⟨fun i hi => (show i < cs.length by simpa using hi), fun i x v H' hx y => ?_, fun i hi => (show cs.length <= i by simpa using hi)⟩
 obtain ⟨rfl, c, hc, rfl⟩ := y
 rw [List.getElem?_map, hc] at hx
 cases hx
 exact ⟨Same.refl _, fun _ _ _ => rfl⟩
theorem UI {tl : TE} {ε : Env -> Option D} (h : VE G ow tl .cl ε) : VI G ow (Qw G.1.K tl) (Yh ε) := fun H0 av A σ H δ E xs e R k => by
 unfold Yh at e
 cases he : ε δ with
 | none => rw [he] at e; cases e
 | some d =>
  rw [he] at e
  refine h H0 av A σ H δ E d he _ fun v H1 s r => ?_
  cases d <;> first | (cases e; done) | skip
  · cases e
    exact .inr (.inr ⟨_, r, k _ H1 s Zb6⟩)
  · cases e
    obtain ⟨a, vs, rfl, na, rd, l⟩ := r
    exact .inl ⟨a, vs, rfl, rd, k _ H1 s (Zbd (ZcP na rd fun b o n e => by rw [Vq fun ⟨i, z⟩ => n (.inr ⟨i, z⟩)]; exact e) l.cut)⟩
  · cases e
    obtain ⟨a, vs, rfl, na, rd, l⟩ := r
    exact .inr (.inl ⟨a, vs, rfl, SqT.of rd, k _ H1 s (Zb5 (by rw [Vq fun ⟨i, z⟩ => na (.inr ⟨i, z⟩)]; exact rd) l.cut)⟩)
def ZD (lo c : Int) (n : Nat) : List D := (List.range n).map fun k => .int (lo + (k : Nat) * c)
theorem QK {iv : Addr -> Prop} {H0 : Hp} {lo : Int} {n : Nat} : Vr cA iv (Itr lo n) (ZD lo 1 n) H0 := fun H s => by
 refine ⟨fun i hi => (show i < n by simpa [ZD] using hi), fun i x v H' hx y => ?_, fun i hi => (show n <= i by simpa [ZD] using hi)⟩
 obtain ⟨rfl, rfl⟩ := y
 have hi : i < n := by have := (List.getElem?_eq_some_iff.mp hx).1; simpa [ZD] using this
 have : x = .int (lo + i) := by
  unfold ZD at hx
  rw [List.getElem?_map, List.getElem?_range hi] at hx
  have := Option.some.inj hx
  rw [<- this]
  show D.int (lo + (i : Int) * 1) = _
  rw [Int.mul_one]
 subst this
 exact ⟨Same.refl _, fun _ _ _ => rfl⟩
def ZL (α : Env -> Option (List D)) (δ : Env) : Option (List D) := match α δ with
 | some [.int j] => if -(2 ^ 62) <= j /\ j < 2 ^ 62 then some (ZD 0 1 j.toNat) else none
 | some [.int i, .int j] => if -(2 ^ 62) <= i /\ i < 2 ^ 62 /\ -(2 ^ 62) <= j /\ j < 2 ^ 62 then some (ZD i 1 (j - i).toNat) else none
 | some [.int i, .int j, .int c] => if c ≠ 0 /\ c.natAbs < 1073741824 /\ Builtin.Range.small i j c = true then some (ZD i c (Builtin.Range.rangeSize i j c).toNat) else none
 | _ => none
theorem ql1 {av : Addr -> Prop} {A : Nat -> Option Addr} {H : Hp} {q : Ql} {x : Int} {vs : List V} (h : RepQL cA av A H q [.int x] vs) : vs = [.int x] := by
 obtain ⟨v, r, rfl, h1, h2⟩ := h
 have := h1.any
 cases (show v = _ from this); cases (show r = [] from h2); rfl
theorem ql2 {av : Addr -> Prop} {A : Nat -> Option Addr} {H : Hp} {q : Ql} {x y : Int} {vs : List V} (h : RepQL cA av A H q [.int x, .int y] vs) : vs = [.int x, .int y] := by
 obtain ⟨v, r, rfl, h1, h2⟩ := h
 have := h1.any
 cases (show v = _ from this); rw [ql1 h2]
theorem UJ {ta : TA} {q : Ql} {a : Env -> Option (List D)} (h : VA G ow ta q a) (hl : ∀ δ ds, a δ = some ds -> ds.length = 1) : VI G ow (Qd ta) (ZL a) := fun H0 av A σ H δ E xs e R k => by
 unfold ZL at e
 cases he : a δ with
 | none => rw [he] at e; cases e
 | some ds =>
  rw [he] at e
  refine h H0 av A σ H δ E ds he _ fun vs H1 s r => ?_
  have hln := hl δ ds he
  split at e
  · rename_i j he2
    cases he2
    by_cases hz : -(2 ^ 62) <= j /\ j < 2 ^ 62
    · rw [if_pos hz] at e
      cases e
      exact ⟨j, ql1 r, hz.1, hz.2, k _ H1 s QK⟩
    · rw [if_neg hz] at e; cases e
  · rename_i he2; cases he2; simp at hln
  · rename_i he2; cases he2; simp at hln
  · cases e
theorem Zds {δ : Env} {ds : List D} (h : eNil δ = some ds) : ds.length = 0 := by cases h; rfl
theorem ZaI {a : Env -> Option D} {r : Env -> Option (List D)} {n : Nat} (hr : ∀ δ ds, r δ = some ds -> ds.length = n) : ∀ δ ds, Zb a r δ = some ds -> ds.length = n + 1 := fun δ ds h => by
 unfold Zb at h
 cases ha : a δ with
 | none => rw [ha] at h; cases h
 | some x =>
  rw [ha] at h
  cases hr' : r δ with
  | none => rw [hr'] at h; cases h
  | some xs => rw [hr'] at h; cases h; rw [List.length_cons, hr δ xs hr']
theorem X1 {a : Env -> Option D} : ∀ δ ds, Zb a eNil δ = some ds -> ds.length = 1 := ZaI fun _ _ => Zds
theorem Zf9 {a b : Env -> Option D} : ∀ δ ds, Zb a (Zb b eNil) δ = some ds -> ds.length = 2 := ZaI X1
def Y2 (n : Nat) (δ : Env) (js : List Nat) : Env := List.replicate n none ++ js.map fun j => (δ[j]?).getD none
def YN (γ : D -> Env -> Option Env) (τ : Env -> Option Bool) (ε : Env -> Option D) (δ0 : Env) : List D -> Option (List D)
 | [] => some []
 | x :: r => match γ x δ0 with
  | none => none
  | some δ1 => match τ δ1 with
   | none => none
   | some false => YN γ τ ε δ0 r
   | some true => match ε δ1 with
    | none => none
    | some y => match YN γ τ ε δ0 r with
     | none => none
     | some ys => some (y :: ys)
def Xn (ι : Env -> Option (List D)) (γ : D -> Env -> Option Env) (τ : Env -> Option Bool) (ε : Env -> Option D) (n : Nat) (js : List Nat) (δ : Env) : Option D := match ι δ with
 | none => none
 | some xs => match YN γ τ ε (Y2 n δ js) xs with
  | none => none
  | some ys => if ys.length <= sizeLine then some (.lst ys) else none
theorem ER.blk {H0 H : Hp} {av : Addr -> Prop} {A : Nat -> Option Addr} {σ : L2.St} {δ : Env} (n : Nat) (js : List Nat) (hjs : js.all (fun j => !ow.contains j) = true) (E : ER G ow H0 av A σ H δ) :
 ER ⟨G.1, fun _ => none⟩ [] H (AV av A) (fun _ => none) (L2.blk n σ js) H (Y2 n δ js) := by
 refine ⟨Same.refl H, E.avl, fun _ _ z => (by cases z), fun _ _ _ z => (by cases z), fun _ _ z => (by cases z), fun _ z => absurd rfl z, fun _ z => (by cases z), ?_, fun _ _ z => (by cases z), fun _ _ z => (by cases z), fun i d e => ?_⟩
 · unfold L2.blk Y2 VN
   rw [List.length_append, List.length_append, List.length_replicate, List.length_replicate, List.length_map, List.length_map]
 · unfold Y2 at e
   by_cases hi : i < n
   · rw [List.getElem?_append_left (by simpa using hi), List.getElem?_replicate, if_pos hi] at e
     cases e
   · rw [List.getElem?_append_right (by simpa using hi), List.length_replicate, List.getElem?_map] at e
     cases hj : js[i - n]? with
     | none => rw [hj] at e; cases e
     | some j =>
      rw [hj] at e
      have e' : (δ[j]?).getD none = some d := Option.some.inj e
      have e2 : δ[j]? = some (some d) := by
       cases q : δ[j]? with
       | none => rw [q] at e'; cases e'
       | some z => rw [q] at e'; exact congrArg some e'
      obtain ⟨v, h1, h2, _⟩ := E.var j d e2
      have hjo : A j = none := by
       cases q : A j with
       | none => rfl
       | some a =>
        have h3 := E.dom j (by rw [q]; exact fun z => by cases z)
        have h4 := List.all_eq_true.mp hjs j (List.mem_of_getElem? hj)
        simp at h4
        exact absurd h3 h4
      refine ⟨v, ?_, fun _ => (h2 hjo).av fun b z => ?_, fun _ z => (by cases z)⟩
      · unfold L2.blk VN
        rw [List.getElem?_append_right (by simpa using hi), List.length_replicate, List.getElem?_map, hj]
        show some ((σ[j]?).getD none) = _
        rw [h1]; rfl
      · rcases z with z | ⟨_, z⟩
        · exact .inl z
        · cases z
theorem Zbq {wi : TI} {g : TG} {tt : TT} {te : TE} {n : Nat} {js : List Nat} {ι : Env -> Option (List D)} {γ : D -> Env -> Option Env} {τ : Env -> Option Bool} {ε : Env -> Option D}
 (hjs : js.all (fun j => !ow.contains j) = true) (hi : VI G ow wi ι) (hg : VG ⟨G.1, fun _ => none⟩ [] [] g γ) (ht : VT ⟨G.1, fun _ => none⟩ [] tt τ) (he : VE ⟨G.1, fun _ => none⟩ [] te .cl ε) : VF G ow (Zd1 wi g tt te n js) (Xn ι γ τ ε n js) := fun H0 av A σ H δ E d e Q k => by
 unfold Xn at e
 cases hι : ι δ with
 | none => rw [hι] at e; cases e
 | some xs =>
  rw [hι] at e
  dsimp only at e
  cases hc : YN γ τ ε (Y2 n δ js) xs with
  | none => rw [hc] at e; cases e
  | some full =>
   rw [hc] at e
   dsimp only at e
   by_cases hz : full.length <= sizeLine
   · rw [if_pos hz] at e
     have ed : D.lst full = d := Option.some.inj e
     refine hi H0 av A σ H δ E xs hι _ fun J H1 s1 W => ?_
     have E1 := E.mono s1
     refine ⟨fun i m ys H' => m = xs.length - i /\ i <= xs.length /\ Same H1 H' /\ ∃ done rest, RepL G.1 (AV av A) H' done ys /\ YN γ τ ε (Y2 n δ js) (xs.drop i) = some rest /\ done ++ rest = full,
      ⟨xs.length, by simp, Nat.zero_le _, Same.refl _, [], full, .nil, hc, rfl⟩, ?_⟩
     rintro i m ys H' ⟨rfl, hle, s', done, rest, rl, hr, hf⟩
     have E' := E1.mono s'
     have sc : Same (DL.cut A H1) H' := fun b o z => s' b o (ZaH z).1
     obtain ⟨w1, w2, w3⟩ := W H' sc
     by_cases hlt : i < xs.length
     · refine .inr ⟨w1 i hlt, fun v H2 y => ?_⟩
       have hx : xs[i]? = some xs[i] := List.getElem?_eq_getElem hlt
       obtain ⟨s2, rep⟩ := w2 i _ v H2 hx y
       have rep' : Rep G.1 (AV av A) H2 xs[i] v := rep _ E'.avl fun b z => .inl z
       have E2 := E'.mono s2
       have EB : ER ⟨G.1, fun _ => none⟩ [] H2 (AV av A) (fun _ => none) (L2.blk n σ js) H2 (Y2 n δ js) := E2.blk n js hjs
       have triv : ∀ (A' : Nat -> Option Addr) {σ' : L2.St} {H3 : Hp} {δ' : Env}, ER ⟨G.1, fun _ => none⟩ [] H2 (AV av A) A' σ' H3 δ' -> ∀ b, AV (AV av A) A' b ↔ AV av A b := fun A' {σ' H3 δ'} E3 b => by
        constructor
        · rintro (z | ⟨j, z⟩)
          · exact z
          · have := E3.dom j (by rw [z]; exact fun z => by cases z)
            cases this
        · exact fun z => .inl z
       rw [List.drop_eq_getElem_cons hlt] at hr
       unfold YN at hr
       cases hγ : γ xs[i] (Y2 n δ js) with
       | none => rw [hγ] at hr; cases hr
       | some δ1 =>
        rw [hγ] at hr
        dsimp only at hr
        refine hg _ _ _ _ H2 _ EB _ v (rep'.av fun b z => .inl ((triv _ EB b).mp z)) δ1 hγ _ fun A3 σ3 H3 s3 E3 => ?_
        cases hτ : τ δ1 with
        | none => rw [hτ] at hr; cases hr
        | some c =>
         rw [hτ] at hr
         refine ht _ _ A3 σ3 H3 δ1 E3 c hτ _ fun H4 s4 => ?_
         have E4 := E3.mono s4
         cases c with
         | false =>
          exact XX ⟨xs.length - (i + 1), by omega, rfl, hlt, (s'.trans s2).trans (s3.trans s4), done, rest, rl.same ((s2.trans s3).trans s4), hr, hf⟩
         | true =>
          dsimp only at hr
          cases hε : ε δ1 with
          | none => rw [hε] at hr; cases hr
          | some yd =>
           rw [hε] at hr
           dsimp only at hr
           cases hr' : YN γ τ ε (Y2 n δ js) (xs.drop (i + 1)) with
           | none => rw [hr'] at hr; cases hr
           | some rest' =>
            rw [hr'] at hr
            have hrr : yd :: rest' = rest := Option.some.inj hr
            subst hrr
            refine XY (he _ _ A3 σ3 H4 δ1 E4 yd hε _ fun vy H5 s5 r5 => ?_)
            have sall : Same H' H5 := ((s2.trans s3).trans s4).trans s5
            refine ⟨?_, xs.length - (i + 1), by omega, rfl, hlt, s'.trans sall, done ++ [yd], rest', (rl.same sall).append (.cons ((RepT.r r5).av fun b z => .inl ((triv _ E4 b).mpr z)) .nil), hr', by rw [<- hf]; simp⟩
            have := congrArg List.length hf
            rw [List.length_append, List.length_cons] at this
            have := rl.length
            omega
     · have ei : i = xs.length := by omega
       subst ei
       rw [List.drop_length] at hr
       cases hr
       refine .inl ⟨w3 _ (Nat.le_refl _), fun p hp => k p ys full H' (s1.trans s') hp (by rw [<- hf, List.append_nil]; exact rl) ed.symm⟩
   · rw [if_neg hz] at e; cases e
def spD (cA : Kn) (n : Nat) (m : List D -> Option D) : Sp := fun vs H Q _ => ∃ av ds d, (∀ a, av a -> H a ≠ none) /\ RepL cA av H ds vs /\ ds.length = n /\ m ds = some d /\ ∀ v H', Same H H' -> Rep cA av H' d v -> Q v H'
def Zw (n : Nat) (m : List D -> Option D) (dds : List D) (α : Env -> Option (List D)) (δ : Env) : Option D := match α δ with
 | some ds => if (ds ++ dds).length = n then m (ds ++ dds) else none
 | none => none
def Ql.cq : Ql -> Ql
 | .cl => .cl
 | _ => .dt
theorem Yx {n : Nat} {m : List D -> Option D} {t : TA} {q : Ql} {α : Env -> Option (List D)} {E0 : XK} (dds : List D) (hd : dds.all Zi = true) (h : VA G ow t q α) : VE G ow (Qk (spD G.1 n m) (dds.map val) E0 t) q.cq (Zw n m dds α) := fun H0 av A σ H δ E d e Q k => by
 unfold Zw at e
 cases he : α δ with
 | none => rw [he] at e; cases e
 | some ds =>
  rw [he] at e
  dsimp only at e
  by_cases hz : (ds ++ dds).length = n
  · rw [if_pos hz] at e
    refine h H0 av A σ H δ E ds he _ fun vs H1 s1 r1 => ?_
    have E1 := E.mono s1
    cases q with
    | cl => exact ⟨AV av A, ds ++ dds, d, E1.avl, r1.cl.append (.of_vals hd), hz, e, fun v H' s r => k v H' (s1.trans s) r.t⟩
    | tp => exact ⟨av, ds ++ dds, d, E1.avH, r1.any.append (.of_vals hd), hz, e, fun v H' s r => k v H' (s1.trans s) r.t⟩
    | dt => exact ⟨av, ds ++ dds, d, E1.avH, r1.any.append (.of_vals hd), hz, e, fun v H' s r => k v H' (s1.trans s) r.t⟩
  · rw [if_neg hz] at e; cases e
def run (N : Nat) (φ : Env -> Option Out) (ds : List D) : Option D := match φ (ds.map some ++ List.replicate (N - ds.length) none) with
 | some (.rt d) => some d
 | some (.nx _) => some .non
 | _ => none
theorem Zb7 {N : List Str} {ds : List D} {vs : List V} {av : Addr -> Prop} {H : Hp} (r : RepL cA av H ds vs) {i : Nat} {d : D} (h : (ds.map some ++ List.replicate (N.length - ds.length) none)[i]? = some (some d)) :
 ∃ v, (L2.start N vs)[i]? = some (some v) /\ Rep cA av H d v := by
 by_cases hi : i < ds.length
 · rw [List.getElem?_append_left (by simpa using hi), List.getElem?_map] at h
   cases hd : ds[i]? with
   | none => rw [hd] at h; cases h
   | some x =>
    rw [hd] at h
    cases h
    obtain ⟨v, hv, rv⟩ := r.get hd
    refine ⟨v, ?_, rv⟩
    unfold L2.start
    have : i < vs.length := by rw [<- r.length]; exact hi
    rw [List.getElem?_append_left (by simpa using this), List.getElem?_map, hv]
    rfl
 · rw [List.getElem?_append_right (by simpa using hi), List.getElem?_replicate] at h
   split at h <;> cases h
theorem ZaJ {N : List Str} {ds : List D} {vs : List V} {av : Addr -> Prop} {H : Hp} (ha : ∀ a, av a -> H a ≠ none) (r : RepL cA av H ds vs) :
 ER ⟨cA, fun _ => none⟩ [] H av (fun _ => none) (L2.start N vs) H (ds.map some ++ List.replicate (N.length - ds.length) none) := by
 refine ⟨Same.refl H, ha, fun _ _ z => (by cases z), fun _ _ _ z => (by cases z), fun _ _ z => (by cases z), fun _ z => absurd rfl z, fun _ z => (by cases z), ?_, fun _ _ z => (by cases z), fun _ _ z => (by cases z), fun i d e => ?_⟩
 · unfold L2.start
   rw [List.length_append, List.length_append, List.length_map, List.length_map, List.length_replicate, List.length_replicate, r.length]
 · obtain ⟨v, h1, h2⟩ := Zb7 r e
   refine ⟨v, h1, fun _ => h2.av fun b z => ?_, fun _ z => (by cases z)⟩
   rcases z with z | ⟨_, z⟩
   · exact .inl z
   · cases z
section
variable {P : Program} {w : World} {K : PySem.W.Frag} {mg : Str -> Option Value} {base : Heap}
end
def ZfW (_ : Env) : Option (Option Int) := some none
def xP (ε : Env -> Option D) (δ : Env) : Option (Option Int) := match ε δ with
 | some (.int i) => some (some i)
 | _ => none
def slD : D -> Option Int -> Option Int -> Option D
 | .str a, lo, hi => if a.length <= sizeLine then some (.str (L2.cutL a lo hi)) else none
 | .lst xs, lo, hi => some (.lst (L2.cutL xs lo hi))
 | .tup xs, lo, hi => if VL xs.length 0 lo = 0 /\ VL xs.length xs.length hi = xs.length then none else some (.tup (L2.cutL xs lo hi))
 | _, _, _ => none
def eSl (a : Env -> Option D) (lo hi : Env -> Option (Option Int)) (δ : Env) : Option D := match a δ with
 | some x => match lo δ with
  | some l => match hi δ with
   | some u => slD x l u
   | none => none
  | none => none
 | none => none
def QL (K : PySem.W.Frag) : List V -> Hp -> VK -> Prop := fun xs H Q => Zf7 K xs H Q \/ ∃ p vs c cv b, xs = [.ref p, c] /\ (∀ v, RelV c v -> v = cv) /\ KL K p vs /\ PySem.W.kitOne K (.type "list") cv = some b /\ Q (.bl b) H
theorem ZeG {X : Cx} {K : PySem.W.Frag} (hK : X.K = K := by rfl) : Ys X (.builtin "isinstance") (QL K) := by
 subst hK
 intro pins s σ H xs us Q I rs h
 rcases h with h | ⟨p, vs, c, cv, b, rfl, hc, ⟨o, its, n, hk, h1, _⟩, e, q⟩
 · exact Zcq pins s σ H xs us Q I rs h
 · obtain ⟨u, w', rfl, rx, rc⟩ := JI rs
   have ec := hc _ rc
   subst ec
   cases (show u = Value.ref p from rx)
   exact PySem.W.kia_one PySem.W.kitx_list I.kIn ⟨o, I.kIn p o hk, h1⟩ e (fun z => nomatch z) fun tk => ⟨.bl b, H, I.tok tk, rfl, q⟩
def kind : D -> String
 | .non => "NoneType"
 | .bl _ => "bool"
 | .int _ => "int"
 | .str _ => "str"
 | .lst _ => "list"
 | .tup _ => "tuple"
 | .obj c _ _ => c
 | .dct _ _ => "dict"
 | .dtt _ _ => "dict"
def plainKinds : List String := ["NoneType", "bool", "int", "str", "list", "tuple"]
def Vt (tab : List (String × Bool)) : D -> Option Bool
 | .obj c _ _ => if plainKinds.contains c then none else tab.lookup c
 | .dct _ _ => none
 | .dtt _ _ => none
 | d => tab.lookup (kind d)
def XC (tab : List (String × Bool)) (a : Env -> Option D) (δ : Env) : Option D := match a δ with
 | some d => match Vt tab d with
  | some b => some (.bl b)
  | none => none
 | none => none
structure ClsI (K : PySem.W.Frag) (C : Addr) : Prop where
 cl : Cls K C
 ha : PySem.W.findIn K (.ref C) "__class__" = some (some (.builtin "object.__class__"))
 hn : PySem.W.specialIn K (.builtin "object.__class__") "__get__" = some (some (.builtin "getset_descriptor.__get__"))
 htk : PySem.W.takesIn K (.builtin "object.__class__") = some true
 hm : PySem.W.mroIn K C (.type "object") = some true
structure IsiOk (K : PySem.W.Frag) (cA : Kn) (cv : Value) (tab : List (String × Bool)) : Prop where
 plain : ∀ k ∈ plainKinds, ∀ b, tab.lookup k = some b -> PySem.W.kitOne K (.type k) cv = some b
 own : ∀ (c : String) b, plainKinds.contains c = false -> tab.lookup c = some b -> PySem.W.kitOne K (.ref (cA.c c)) cv = some b /\ ClsI K (cA.c c)
theorem QM {β : Type} {c : String} {b : β} : ∀ {tab : List (String × β)}, tab.lookup c = some b -> (c, b) ∈ tab
 | [], h => by simp at h
 | (c', b') :: r, h => by
  rw [List.lookup_cons] at h
  cases hc : c == c' with
  | true =>
   rw [hc] at h
   cases h
   rw [eq_of_beq hc]
   exact List.mem_cons_self
  | false =>
   rw [hc] at h
   exact List.mem_cons_of_mem _ (QM h)
theorem Zdt {K : PySem.W.Frag} {cA : Kn} {cv : Value} {tab : List (String × Bool)} (h : ∀ p ∈ tab, if plainKinds.contains p.1 = true then PySem.W.kitOne K (.type p.1) cv = some p.2 else PySem.W.kitOne K (.ref (cA.c p.1)) cv = some p.2 /\ ClsI K (cA.c p.1)) : IsiOk K cA cv tab where
 plain := fun k hk b hl => by
  have := h _ (QM hl)
  rwa [if_pos (by simpa using hk)] at this
 own := fun c b hc hl => by
  have := h _ (QM hl)
  rwa [if_neg (by simpa using hc)] at this
theorem ZeH {ta : TE} {q : Ql} {a : Env -> Option D} {c : V} {cv : Value} {tab : List (String × Bool)} (hc : ∀ v, RelV c v -> v = cv) (I : IsiOk G.1.K G.1 cv tab) (ha : VE G ow ta q a) :
 VE G ow (tCB (QL G.1.K) (Xy ta (Xy (tC c) tNil))) .cl (XC tab a) := fun H0 av A σ H δ E d e Q k => by
 unfold XC at e
 cases he : a δ with
 | none => rw [he] at e; cases e
 | some x =>
  rw [he] at e
  dsimp only at e
  cases ht : Vt tab x with
  | none => rw [ht] at e; cases e
  | some b =>
   rw [ht] at e
   cases e
   refine ha H0 av A σ H δ E x he _ fun v H1 s r => ?_
   have r' := r.any
   have fin : ∀ t, TyOf G.1.K H1 v t -> PySem.W.kitOne G.1.K t cv = some b -> QL G.1.K [v, c] H1 Q := fun t ty e => .inl ⟨v, c, cv, t, b, rfl, hc, ty, e, k _ H1 s rfl⟩
   cases x with
   | non => cases (show v = _ from r'); exact fin _ .non (I.plain _ (by decide) b (by exact ht))
   | bl y => cases (show v = _ from r'); exact fin _ (.bl y) (I.plain _ (by decide) b (by exact ht))
   | int y => cases (show v = _ from r'); exact fin _ (.int y) (I.plain _ (by decide) b (by exact ht))
   | str y => cases (show v = _ from r'); exact fin _ (.str _) (I.plain _ (by decide) b (by exact ht))
   | lst y =>
    unfold Rep at r'
    obtain ⟨p, vs, rfl, _, rd, _⟩ := r'
    rcases rd with (rd | ⟨o, rd⟩) | rd
    · exact fin _ (.lst rd) (I.plain _ (by decide) b (by exact ht))
    · exact fin _ (.frz rd) (I.plain _ (by decide) b (by exact ht))
    · exact .inr ⟨p, vs, c, cv, b, rfl, hc, rd, I.plain _ (by decide) b (by exact ht), k _ H1 s rfl⟩
   | tup y =>
    unfold Rep at r'
    obtain ⟨p, vs, rfl, _, rd, _⟩ := r'
    exact fin _ (.tup rd) (I.plain _ (by decide) b (by exact ht))
   | dct ks y => cases ht
   | dtt ks y => cases ht
   | obj c' ks y =>
    unfold Rep at r'
    obtain ⟨p, dx, vs, rfl, _, rd, _⟩ := r'
    dsimp only [Vt] at ht
    cases hp : plainKinds.contains c' with
    | true => rw [hp, if_pos rfl] at ht; cases ht
    | false =>
    rw [hp, if_neg Bool.false_ne_true] at ht
    obtain ⟨h1, h2⟩ := I.own c' b hp ht
    exact fin _ (.ins rd h2.cl h2.ha h2.hn h2.htk h2.hm) h1
end
end DL
namespace L2
open PySem PySem.Spec
section
variable {X : Cx}
theorem ZaK : MtR X "str.index" (fun x xs H Q => ∃ a c i, x = S a /\ xs = [S [c]] /\ Z8 c a = (i : Nat) /\ Q (.int (i : Nat)) H) := by
 intro pins s σ H x xs v us Q I rx rs h
 obtain ⟨a, c, i, rfl, rfl, e, q⟩ := h
 obtain ⟨t, rfl⟩ := rx
 obtain ⟨u, rfl, t', rfl⟩ := Xf rs
 have e' := Zdk a c
 rw [e] at e'
 unfold Txt.find at e'
 cases ho : Builtin.Str.occurrences (tx a) (tx [c]) 0 (tx a).length 1 with
 | nil => rw [ho] at e'; exact absurd e' (by show ¬ (-1 : Int) = (i : Int); omega)
 | cons j r =>
  rw [ho] at e'
  have e2 : j = i := by
   have : (j : Int) = (i : Int) := e'
   omega
  subst e2
  exact SC.index ho ⟨.int _, H, I.tok _, ⟨_, rfl⟩, q⟩
end
end L2
namespace DL
open PySem PySem.Spec L2
section
variable {cA : Kn} {G : Cn} {ow : List Nat}
def ZfX (cA : Kn) (r : V -> List V -> Hp -> VK -> Prop) (f : List Nat -> List D -> Option D) : Prop :=
 ∀ (i : Addr -> Prop) (H : Hp) (a : List Nat) (ds : List D) (vs : List V) (d : D), (∀ a, i a -> H a ≠ none) -> Vp cA i H ds vs -> f a ds = some d -> ∀ Q : VK, (∀ v H', Same H H' -> Rep cA i H' d v -> Q v H') -> r (S a) vs H Q
def eBM (f : List Nat -> List D -> Option D) (a : Env -> Option D) (α : Env -> Option (List D)) (δ : Env) : Option D := match a δ with
 | some (.str cs) => match α δ with
  | some ds => f cs ds
  | none => none
 | _ => none
theorem Zd8 {K : PySem.W.Frag} {r : V -> List V -> Hp -> VK -> Prop} {f : List Nat -> List D -> Option D} {to : TE} {t : TA} {q0 q : Ql} {a : Env -> Option D} {α : Env -> Option (List D)} (hr : ZfX G.1 r f) (ha : VE G ow to q0 a) (h : VA G ow t q α) :
 VE G ow (tBM K "str" r to t) q.it (eBM f a α) := fun H0 av A σ H δ E d e Q k => by
 unfold eBM at e
 cases hx : a δ with
 | none => rw [hx] at e; cases e
 | some x =>
  rw [hx] at e
  cases x <;> first | (cases e; done) | skip
  rename_i cs
  dsimp only at e
  cases he : α δ with
  | none => rw [he] at e; cases e
  | some ds =>
   rw [he] at e
   refine ha H0 av A σ H δ E _ hx _ fun v H1 s1 r1 => ?_
   have e1 : v = S cs := r1.any
   subst e1
   refine ⟨rfl, h H0 av A σ H1 δ (E.mono s1) ds he _ fun vs H2 s2 r2 => ?_⟩
   have E2 := (E.mono s1).mono s2
   have s12 := s1.trans s2
   cases q with
   | cl => exact hr _ H2 cs ds vs d E2.avl r2.il e _ fun v H' s r => k v H' (s12.trans s) r.t
   | tp => exact hr _ H2 cs ds vs d E2.avl r2.il e _ fun v H' s r => k v H' (s12.trans s) r.t
   | dt => exact hr _ H2 cs ds vs d E2.avH r2.il e _ fun v H' s r => k v H' (s12.trans s) r.t
def indexD (a : List Nat) : List D -> Option D
 | [.str [c]] => if 0 <= Z8 c a then some (.int (Z8 c a)) else none
 | _ => none
theorem ZeI {i : Addr -> Prop} {H : Hp} {b : List Nat} {vs : List V} (h : Vp cA i H [.str b] vs) : vs = [S b] := by
 obtain ⟨v, t, rfl, hx⟩ := il1 h
 rw [show v = S b from hx]
theorem ZaL : ZfX cA (fun x xs H Q => ∃ a c i, x = S a /\ xs = [S [c]] /\ Z8 c a = (i : Nat) /\ Q (.int (i : Nat)) H) indexD := fun i H a ds vs d _ h e Q k => by
 unfold indexD at e
 split at e
 · rename_i c
   by_cases hz : 0 <= Z8 c a
   · rw [if_pos hz] at e
     cases e
     exact ⟨a, c, (Z8 c a).toNat, rfl, ZeI h, by omega, k _ H (Same.refl H) (by rw [Int.toNat_of_nonneg hz]; rfl)⟩
   · rw [if_neg hz] at e; cases e
 · cases e
end
end DL
namespace L2
open PySem PySem.Spec
structure FunX (K : PySem.W.Frag) (x qual : Str) (st : Stmt) (f : Addr) (fd : FuncData) : Prop where
 ex : ∃ (oc : Value) (od : Option Addr) (dV kV doc pm : Value) (an : Option Addr) (cdv ct : Value) (osl : Array (Option Value)),
  fd = PySem.W.fnOf x qual (ZV st) (ZI st) (Zo st) dV kV doc pm an cdv ct /\ K.lookup f = some ⟨oc, od, .func fd, osl⟩ /\ PySem.W.codeIn K cdv qual = true
theorem Fun.x {K : PySem.W.Frag} {x qual : Str} {st : Stmt} {f : Addr} {fd : FuncData} (F : Fun K x qual st f fd) : FunX K x qual st f fd := by
 obtain ⟨oc, od, kV, doc, pm, an, cdv, ct, osl, h⟩ := F.ex
 exact ⟨oc, od, .none, kV, doc, pm, an, cdv, ct, osl, h⟩
section
variable {P : Program} {w : World} {K : PySem.W.Frag} {mg : Str -> Option Value} {base : Heap}
theorem FunX.ok {x qual : Str} {st : Stmt} {f : Addr} {fd : FuncData} {N ps : List Str} {k : Nat} {sp : Sp} (F : FunX K x qual st f fd) (S : FnScope N ps (Zo st)) (len : ∀ vs H Q E, sp vs H Q E -> vs.length = ps.length)
 (hbody : ∀ (cdv : Value) (A : Around) (outer : List Env) (s : Shared) (H : Hp) (vs : List V) (Q : VK) (E : XK), Room k (A.deeper (PyProof.Rows.envOfC qual (Zo st) s.heap.objs.size f cdv)) -> sp vs H Q E ->
   ∃ t, PSs (Yu CX0 P w K mg base N qual (Zo st) f cdv A outer s H E).nox (ZI st) t /\ t { nx := fun _ H' => Q .non H', rt := Q } (start N vs) H) : FnOk P w K mg base CX0 (k + 1) f fd ps sp := by
 obtain ⟨oc, od, dV, kV, doc, pm, an, cdv, ct, osl, rfl, lk, hcd⟩ := F.ex
 refine JV lk hcd S len fun A outer s H vs Q E hr hsp => ?_
 obtain ⟨t, h, q⟩ := hbody cdv A outer s H vs Q E hr hsp
 exact ⟨t, h.nox, q⟩
end
section
variable {X : Cx}
end
structure CMeth (K : PySem.W.Frag) (C : Addr) (m : Str) (f : Addr) : Prop where
 ga : PySem.W.specialIn K (.ref C) "__getattribute__" = some (some (.builtin "type.__getattribute__"))
 rd : PySem.W.readsIn K C (.type "type") = true
 fc : PySem.W.findCls K (.ref C) (.type "type") m = some (.val (.ref f))
 kp : PySem.W.keepIn K (.ref f) = true
section
variable {X : Cx} {CX : CXT} {k : Nat} {f C : Addr} {fd : FuncData} {ps : List Str} {sp : Sp} {dvs : List V} {ds : List Value} {E : XK} {x m : Str} {p pos apos : Pos} {e o : Expr} {es : List Expr} {ta : TE} {t : TA}
end
end L2
namespace DL
open PySem PySem.Spec L2
theorem Zaa {a b : String} (h : Str.ofString a = Str.ofString b) : a = b := by
 rw [Str.ofString_eq_toList, Str.ofString_eq_toList] at h
 have h1 : (a.toList.map Char.toNat) = (b.toList.map Char.toNat) := by
  have := congrArg (fun s : Str => s.cps.toList) h
  simpa using this
 have inj : ∀ {x y : List Char}, x.map Char.toNat = y.map Char.toNat -> x = y := by
  intro x
  induction x with
  | nil =>
   intro y h
   cases y with
   | nil => rfl
   | cons _ _ => cases h
  | cons c x ih =>
   intro y h
   cases y with
   | nil => cases h
   | cons d y =>
    rw [List.map_cons, List.map_cons, List.cons.injEq] at h
    have : c = d := Char.toNat_inj.mp h.1
    rw [this, ih h.2]
 exact String.toList_inj.mp (inj h1)
theorem Zab (a b : String) : (Str.ofString a == Str.ofString b) = (a == b) := by
 rw [Bool.eq_iff_iff, beq_iff_eq, beq_iff_eq]
 exact ⟨Zaa, fun h => by rw [h]⟩
section
variable {cA : Kn} {G : Cn} {ow owN owB owC : List Nat}
theorem ZaM {av : Addr -> Prop} {H : Hp} {f : String} : ∀ {ks : List String} {xs : List D} {vs : List V} {d : D}, RepL cA av H xs vs -> (ks.zip xs).lookup f = some d -> ∃ v, ((ks.map Str.ofString).zip vs).lookup (Str.ofString f) = some v /\ Rep cA av H d v
 | [], _, _, _, _, h => by simp at h
 | k :: ks, [], _, _, _, h => by simp at h
 | k :: ks, x :: xs, vs, d, l, h => by
  obtain ⟨v, r, rfl, h1, h2⟩ := l.uncons
  rw [List.zip_cons_cons, List.lookup_cons] at h
  rw [List.map_cons, List.zip_cons_cons, List.lookup_cons, Zab]
  cases hk : f == k with
  | true => rw [hk] at h; cases h; exact ⟨v, rfl, h1⟩
  | false => rw [hk] at h; exact ZaM h2 h
theorem ZaN {f : String} : ∀ {ks : List String} {vs : List V}, ks.contains f = false -> ((ks.map Str.ofString).zip vs).lookup (Str.ofString f) = none
 | [], _, _ => by simp
 | k :: ks, [], _ => by simp
 | k :: ks, v :: vs, h => by
  rw [List.contains_cons, Bool.or_eq_false_iff] at h
  rw [List.map_cons, List.zip_cons_cons, List.lookup_cons, Zab, h.1]
  exact ZaN h.2
theorem Zbr {f : String} {y : V} : ∀ {ks : List String} {vs : List V}, ks.length = vs.length -> ks.contains f = false -> ZU (Str.ofString f) y ((ks.map Str.ofString).zip vs) = (((ks ++ [f]).map Str.ofString).zip (vs ++ [y]))
 | [], [], _, _ => rfl
 | [], _ :: _, h, _ => by simp at h
 | _ :: _, [], h, _ => by simp at h
 | k :: ks, v :: vs, h, hf => by
  rw [List.contains_cons, Bool.or_eq_false_iff] at hf
  have hne : ¬ Str.ofString k = Str.ofString f := fun z => by
   have := Zaa z
   have h1 := hf.1
   rw [this] at h1
   simp at h1
  rw [List.map_cons, List.zip_cons_cons, List.cons_append, List.cons_append, List.map_cons, List.zip_cons_cons]
  rw [show ZU (Str.ofString f) y ((Str.ofString k, v) :: (ks.map Str.ofString).zip vs) = (if Str.ofString k = Str.ofString f then (Str.ofString k, y) :: (ks.map Str.ofString).zip vs else (Str.ofString k, v) :: ZU (Str.ofString f) y ((ks.map Str.ofString).zip vs)) from rfl, if_neg hne]
  rw [Zbr (by simpa using h) hf.2]
def UK (K : PySem.W.Frag) (cA : Kn) (cls : List String) (f : String) : Prop := ∀ c ∈ cls, Cls K (cA.c c) /\ NoAttr K (cA.c c) (Str.ofString f)
def ZY (cls : List String) (f : String) (a : Env -> Option D) (δ : Env) : Option D := match a δ with
 | some (.obj c ks xs) => if cls.contains c then (ks.zip xs).lookup f else none
 | _ => none
theorem V3 {K : PySem.W.Frag} {ta : TE} {q : Ql} {a : Env -> Option D} {cls : List String} {f : String} (F : UK K G.1 cls f) (ha : VE G ow ta q a) : VE G ow (Qi K ta (Str.ofString f)) q.it (ZY cls f a) := fun H0 av A σ H δ E d e Q k => by
 unfold ZY at e
 cases he : a δ with
 | none => rw [he] at e; cases e
 | some x =>
  rw [he] at e
  cases x <;> first | (cases e; done) | skip
  rename_i c ks xs
  dsimp only at e
  by_cases hc : cls.contains c = true
  · rw [if_pos hc] at e
    obtain ⟨h1, h2⟩ := F c (by simpa using hc)
    refine ha H0 av A σ H δ E _ he _ fun v H1 s r => ?_
    obtain ⟨p, dx, vs, rfl, _, rd, _, l⟩ := r.tp
    obtain ⟨w, hw, rw'⟩ := ZaM l e
    refine ⟨p, _, dx, _, w, rfl, rd, h1, h2, hw, k w H1 s ?_⟩
    cases q <;> exact rw'.t
  · rw [if_neg hc] at e; cases e
def Xo (i : Nat) (cls : List String) (f : String) (ε : Env -> Option D) (δ : Env) : Option Out := match ε δ with
 | some d => match Za i δ with
  | some (.obj c ks xs) => if cls.contains c && !ks.contains f && decide (ks.length < 1000) then some (.nx (δ.set i (some (.obj c (ks ++ [f]) (xs ++ [d]))))) else none
  | _ => none
 | none => none
theorem ZcW {K : PySem.W.Frag} {te : TE} {ε : Env -> Option D} {cls : List String} {f : String} (i : Nat) (hi : ow.contains i = true) (F : UK K G.1 cls f) (h : VE G ow te .cl ε) : VS G ow ow owB owC (JL K (Yq i) te (Str.ofString f)) (Xo i cls f ε) := fun H0 av A σ H δ E o e De k => by
 unfold Xo at e
 cases he : ε δ with
 | none => rw [he] at e; cases e
 | some d =>
  rw [he] at e
  dsimp only at e
  cases hv : Za i δ with
  | none => rw [hv] at e; cases e
  | some x =>
   rw [hv] at e
   cases x <;> first | (cases e; done) | skip
   rename_i c ks xs
   dsimp only at e
   by_cases hz : (cls.contains c && !ks.contains f && decide (ks.length < 1000)) = true
   · rw [if_pos hz] at e
     cases e
     simp only [Bool.and_eq_true, decide_eq_true_eq, Bool.not_eq_true'] at hz
     obtain ⟨⟨z1, z2⟩, z3⟩ := hz
     obtain ⟨h1, h2⟩ := F c (by simpa using z1)
     have hi' : i ∈ ow := by simpa using hi
     cases hA : A i with
     | none => exact absurd hA (E.dom' i hi')
     | some a =>
      refine h H0 av A σ H δ E d he _ fun y H1 s r => ?_
      have E1 := E.mono s
      obtain ⟨v, g1, _, g3⟩ := E1.var i _ (Ya hv)
      obtain ⟨rfl, dx, vs, q1, q0, q2⟩ := g3 a hA
      have hl : ks.length = vs.length := q0.trans q2.length
      refine ⟨_, g1, a, _, dx, _, rfl, q1, h1, h2, ?_, k A σ _ (E1.put hA (Ya hv) (fun b o hb e => by rw [Zn hb]; exact e) (by rw [ZE]; exact fun z => by cases z) ?_)⟩
      · rw [List.length_zip, List.length_map]; omega
      · refine ⟨dx, vs ++ [y], ?_, by rw [List.length_append, List.length_append, q0]; rfl, ?_⟩
        · rw [ZE, Zbr hl z2]
        · have ex : ∀ b o, ¬ AV av A b -> H1 b = some o -> upd H1 a (.ins (G.1.c c) dx (ZU (Str.ofString f) y ((ks.map Str.ofString).zip vs))) b = some o := fun b o n e => by
           rw [Zn fun z => n (.inr ⟨i, by rw [z]; exact hA⟩)]
           exact e
          exact (q2.append (.cons (RepT.r r) .nil)).ext ex
   · rw [if_neg hz] at e; cases e
def spI (cA : Kn) (n : Nat) (m : List D -> Option D) : Sp := fun vs H Q _ => ∃ (x : Addr) (r : List V) (av : Addr -> Prop) (ds : List D) (d d' : D), vs = .ref x :: r /\ (∀ a, av a -> H a ≠ none) /\ ¬ av x /\ Own cA (fun a => av a \/ a = x) H d x /\ RepL cA (fun a => av a \/ a = x) H ds r /\ (d :: ds).length = n /\ m (d :: ds) = some d' /\
 ∀ H', (∀ b o, b ≠ x -> H b = some o -> H' b = some o) -> Own cA (fun a => av a \/ a = x) H' d' x -> Q .non H'
theorem Own.live {av : Addr -> Prop} {H : Hp} {d : D} {a : Addr} (h : Own cA av H d a) : H a ≠ none := by
 cases d with
 | lst xs => obtain ⟨vs, q, _⟩ := h; rw [q]; exact fun z => by cases z
 | obj c ks xs => obtain ⟨dx, vs, q, _⟩ := h; rw [q]; exact fun z => by cases z
 | dct ks xs => obtain ⟨vs, q, _⟩ := h; rw [q]; exact fun z => by cases z
 | dtt ks xs => obtain ⟨vs, q, _⟩ := h; rw [q]; exact fun z => by cases z
 | _ => exact h.elim
theorem Own.av {av av' : Addr -> Prop} {H : Hp} {d : D} {a : Addr} (k : ∀ b, av' b -> av b \/ H b = none) (h : Own cA av H d a) : Own cA av' H d a := by
 cases d with
 | lst xs => obtain ⟨vs, q, l⟩ := h; exact ⟨vs, q, l.av k⟩
 | obj c ks xs => obtain ⟨dx, vs, q, z, l⟩ := h; exact ⟨dx, vs, q, z, l.av k⟩
 | dct ks xs => obtain ⟨vs, q, z, l⟩ := h; exact ⟨vs, q, z, l.av k⟩
 | dtt ks xs => obtain ⟨vs, q, z, l⟩ := h; exact ⟨vs, q, z, l.av k⟩
 | _ => exact h.elim
theorem Own.rep {av : Addr -> Prop} {H : Hp} {d : D} {a : Addr} (n : ¬ av a) (h : Own cA av H d a) : Rep cA av H d (.ref a) := by
 cases d with
 | lst xs => obtain ⟨vs, q, l⟩ := h; unfold Rep; exact ⟨a, vs, rfl, fun z => (n z).elim, SqL.of q, l⟩
 | obj c ks xs => obtain ⟨dx, vs, q, z, l⟩ := h; unfold Rep; exact ⟨a, dx, vs, rfl, n, q, z, l⟩
 | dct ks xs => obtain ⟨vs, q, z, l⟩ := h; unfold Rep; exact ⟨a, vs, rfl, n, q, z, l⟩
 | dtt ks xs => obtain ⟨vs, q, z, l⟩ := h; unfold Rep; exact ⟨a, vs, rfl, n, q, z, l⟩
 | _ => exact h.elim
def XD (c : String) (n : Nat) (m : List D -> Option D) (dds : List D) (α : Env -> Option (List D)) (δ : Env) : Option D := match α δ with
 | some ds => if (D.obj c [] [] :: (ds ++ dds)).length = n then m (.obj c [] [] :: (ds ++ dds)) else none
 | none => none
theorem Zdu {n : Nat} {m : List D -> Option D} {t : TA} {α : Env -> Option (List D)} {E0 : XK} {c : String} (dds : List D) (hd : dds.all Zi = true) (h : VA G ow t .cl α) : VE G ow (JO (G.1.c c) (spI G.1 n m) (dds.map val) E0 t) .cl (XD c n m dds α) := fun H0 av A σ H δ E d e Q k => by
 unfold XD at e
 cases he : α δ with
 | none => rw [he] at e; cases e
 | some ds =>
  rw [he] at e
  dsimp only at e
  by_cases hz : (D.obj c [] [] :: (ds ++ dds)).length = n
  · rw [if_pos hz] at e
    refine h H0 av A σ H δ E ds he _ fun vs H1 s1 r1 x dx hx hdx hne => ?_
    have E1 := E.mono s1
    have s2 : Same H1 (upd (upd H1 dx (.own x)) x (.ins (G.1.c c) dx [])) := (Z0 hdx).trans (Z0 (by rw [Zn (Ne.symm hne)]; exact hx))
    have nx : ¬ AV av A x := fun z => E1.avl x z hx
    refine ⟨x, vs ++ dds.map val, AV av A, ds ++ dds, .obj c [] [], d, rfl, fun a z => ?_, nx, ⟨dx, [], ZE, rfl, .nil⟩, ?_, hz, e, fun H' hk ho => ⟨rfl, k _ H' ?_ ?_⟩⟩
    · have := E1.avl a z
      cases q : H1 a with
      | none => exact absurd q this
      | some o => rw [s2 a o q]; exact fun z => by cases z
    · refine RepL.same s2 ((r1.cl.append (.of_vals hd)).av fun b z => ?_)
      rcases z with z | z
      · exact .inl z
      · exact .inr (by rw [z]; exact hx)
    · refine s1.trans fun b o e => hk b o (fun z => by rw [z, hx] at e; cases e) (s2 b o e)
    · exact ((ho.av fun b z => .inl (.inl z)).rep nx).t
  · rw [if_neg hz] at e; cases e
def Zd9 (i n : Nat) (m : List D -> Option D) (dds : List D) (α : Env -> Option (List D)) (δ : Env) : Option Out := match Za i δ with
 | some d => match α δ with
  | some ds => if (d :: (ds ++ dds)).length = n then (match m (d :: (ds ++ dds)) with
   | some d' => some (.nx (δ.set i (some d')))
   | none => none) else none
  | none => none
 | none => none
def runI (N : Nat) (φ : Env -> Option Out) (ds : List D) : Option D := match φ (ds.map some ++ List.replicate (N - ds.length) none) with
 | some (.nx δ) => Za 0 δ
 | _ => none
section
variable {P : Program} {w : World} {K : PySem.W.Frag} {mg : Str -> Option Value} {base : Heap}
theorem Zga {x qual : Str} {st : Stmt} {f : Addr} {fd : FuncData} {N ps : List Str} {k : Nat} {φ : Env -> Option Out} (F : FunX K x qual st f fd) (S : FnScope N ps (Zo st))
 (hbody : ∀ (cdv : Value) (A : Around) (outer : List PySem.Env) (s : Shared) (H : Hp) (E : XK) (a : Addr), Room k (A.deeper (PyProof.Rows.envOfC qual (Zo st) s.heap.objs.size f cdv)) ->
   ∃ t, PSs (Yu CX0 P w K mg base N qual (Zo st) f cdv A outer s H E).nox (ZI st) t /\ VS ⟨cA, fun j => if j = 0 then some (.inl a) else none⟩ [0] [0] [] [] t φ) : FnOk P w K mg base CX0 (k + 1) f fd ps (spI cA ps.length (runI N.length φ)) := by
 refine F.ok S (fun vs H Q E h => ?_) fun cdv A outer s H vs Q E hr h => ?_
 · obtain ⟨x, r, av, ds, d, d', rfl, _, _, _, l, hl, _⟩ := h
   rw [<- hl, List.length_cons, List.length_cons, l.length]
 · obtain ⟨x, r, av, ds, d, d', rfl, ha, nx, ho, l, hl, hm, q⟩ := h
   obtain ⟨t, ht, hv⟩ := hbody cdv A outer s H E x hr
   refine ⟨t, ht, ?_⟩
   unfold runI at hm
   cases hφ : φ ((d :: ds).map some ++ List.replicate (N.length - (d :: ds).length) none) with
   | none => rw [hφ] at hm; cases hm
   | some o =>
    rw [hφ] at hm
    cases o <;> first | (cases hm; done) | skip
    rename_i δ'
    have hm : Za 0 δ' = some d' := hm
    have hAV : ∀ b, AV av (fun j => if j = 0 then some x else none) b ↔ av b \/ b = x := fun b => by
     constructor
     · rintro (z | ⟨j, z⟩)
       · exact .inl z
       · by_cases e : j = 0
         · simp [e] at z; exact .inr z.symm
         · simp [e] at z
     · rintro (z | z)
       · exact .inl z
       · exact .inr ⟨0, by simp [z]⟩
    have E0 : ER ⟨cA, fun j => if j = 0 then some (.inl x) else none⟩ [0] (fun b => if b = x then none else H b) av (fun j => if j = 0 then some x else none) (L2.start N (.ref x :: r)) H ((d :: ds).map some ++ List.replicate (N.length - (d :: ds).length) none) := by
     refine ⟨fun b o e => ?_, fun a z => ?_, fun i a e => ?_, fun i j a e1 e2 => ?_, fun i a e => ?_, fun i e => ?_, fun i hi => ?_, ?_, (fun i a e => by
      by_cases q : i = 0
      · simp [q] at e; simp [q, e]
      · simp [q] at e), (fun i v e => by
      by_cases q : i = 0
      · simp [q] at e
      · simp [q] at e), fun i d'' e => ?_⟩
     · by_cases q : b = x
       · simp [q] at e
       · simpa [q] using e
     · have : a ≠ x := fun q => nx (q ▸ z)
       simp [this]
       exact ha a z
     · by_cases q : i = 0
       · simp [q] at e; simp [e]
       · simp [q] at e
     · by_cases q : i = 0
       · by_cases q2 : j = 0
         · rw [q, q2]
         · simp [q2] at e2
       · simp [q] at e1
     · by_cases q : i = 0
       · simp [q] at e; subst e; exact ho.live
       · simp [q] at e
     · by_cases q : i = 0
       · simp [q]
       · simp [q] at e
     · have : i = 0 := by simpa using hi
       simp [this]
     · unfold L2.start
       rw [List.length_append, List.length_append, List.length_map, List.length_map, List.length_replicate, List.length_replicate, List.length_cons, List.length_cons, l.length]
     · by_cases q : i = 0
       · subst q
         have e' : d = d'' := by simpa using e
         subst e'
         exact ⟨.ref x, by simp [L2.start], fun z => by simp at z, fun a z => by
          simp at z
          subst z
          exact ⟨rfl, ho.av fun b z => .inl ((hAV b).mp z)⟩⟩
       · obtain ⟨i, rfl⟩ : ∃ i', i = i' + 1 := ⟨i - 1, by omega⟩
         have e2 : (ds.map some ++ List.replicate (N.length - (ds.length + 1)) none)[i]? = some (some d'') := by simpa using e
         by_cases hi : i < ds.length
         · rw [List.getElem?_append_left (by simpa using hi), List.getElem?_map] at e2
           cases hd : ds[i]? with
           | none => rw [hd] at e2; cases e2
           | some z =>
            rw [hd] at e2
            cases e2
            obtain ⟨v, hv', rv⟩ := l.get hd
            refine ⟨v, ?_, fun _ => rv.av fun b z => .inl ((hAV b).mp z), fun a z => by simp at z⟩
            unfold L2.start
            have : i + 1 < (V.ref x :: r).length := by rw [List.length_cons, <- l.length]; omega
            rw [List.getElem?_append_left (by simpa using this), List.getElem?_map]
            simp [hv']
         · rw [List.getElem?_append_right (by simpa using hi), List.getElem?_replicate] at e2
           split at e2 <;> cases e2
    refine hv _ av _ _ H _ E0 _ hφ _ fun A' σ' H' E' => ?_
    have hA' : A' 0 = some x := E'.pin 0 x (by simp)
    obtain ⟨v, _, _, g3⟩ := E'.var 0 d' (Ya hm)
    obtain ⟨_, ho'⟩ := g3 x hA'
    refine q H' (fun b o hb e => E'.same b o (by simpa [hb] using e)) (ho'.av fun b z => ?_)
    rcases z with z | z
    · exact .inl (.inl z)
    · exact .inl (.inr ⟨0, by rw [hA', z]⟩)
theorem Zff {x qual : Str} {st : Stmt} {f : Addr} {fd : FuncData} {N ps : List Str} {k : Nat} {φ : Env -> Option Out} (F : FunX K x qual st f fd) (S : FnScope N ps (Zo st))
 (hbody : ∀ (cdv : Value) (A : Around) (outer : List PySem.Env) (s : Shared) (H : Hp) (E : XK), Room k (A.deeper (PyProof.Rows.envOfC qual (Zo st) s.heap.objs.size f cdv)) ->
   ∃ t, PSs (Yu CX0 P w K mg base N qual (Zo st) f cdv A outer s H E).nox (ZI st) t /\ ∃ owN, VS ⟨cA, fun _ => none⟩ [] owN [] [] t φ) : FnOk P w K mg base CX0 (k + 1) f fd ps (spD cA ps.length (run N.length φ)) := by
 refine F.ok S (fun vs H Q E h => ?_) fun cdv A outer s H vs Q E hr h => ?_
 · obtain ⟨av, ds, d, _, r, hl, _⟩ := h
   rw [<- r.length, hl]
 · obtain ⟨av, ds, d, ha, r, hl, hm, q⟩ := h
   obtain ⟨t, ht, owN, hv⟩ := hbody cdv A outer s H E hr
   refine ⟨t, ht, ?_⟩
   unfold run at hm
   cases hφ : φ (ds.map some ++ List.replicate (N.length - ds.length) none) with
   | none => rw [hφ] at hm; cases hm
   | some o =>
    rw [hφ] at hm
    refine hv H av _ _ H _ (ZaJ ha r) o hφ _ ?_
    cases o with
    | nx δ' => cases hm; exact fun A' σ' H' E' => q .non H' E'.same rfl
    | rt d' => cases hm; exact fun v H' s' r' => q v H' s' r'
    | bk δ' => cases hm
    | ct δ' => cases hm
end
abbrev MTab := List (String × (Nat × (List D -> Option D)))
structure MethOk (X : Cx) (cA : Kn) (k : Nat) (m : String) (c : String) (n : Nat) (mm : List D -> Option D) : Prop where
 ex : ∃ f fd ps, Cls X.K (cA.c c) /\ Meth X.K (cA.c c) (Str.ofString m) f /\ FnOk X.prog X.w X.K X.mg X.base CX0 k f fd ps (spD cA n mm) /\ Binds X.K fd ps []
def MTOk (X : Cx) (cA : Kn) (k : Nat) (m : String) : MTab -> Prop
 | [] => True
 | (c, n, mm) :: r => MethOk X cA k m c n mm /\ MTOk X cA k m r
theorem MTOk.get {X : Cx} {k : Nat} {m : String} : ∀ {tab : MTab} {c : String} {n : Nat} {mm : List D -> Option D}, MTOk X cA k m tab -> tab.lookup c = some (n, mm) -> MethOk X cA k m c n mm
 | [], _, _, _, _, h => by simp at h
 | (c', n', mm') :: r, c, n, mm, T, h => by
  rw [List.lookup_cons] at h
  cases hc : c == c' with
  | true =>
   rw [hc] at h
   cases h
   have : c = c' := eq_of_beq hc
   subst this
   exact T.1
  | false =>
   rw [hc] at h
   exact MTOk.get T.2 h
def ZcX (cA : Kn) (m : String) (tab : MTab) (ta : TE) (t : TA) : TE := fun σ H Q => ta σ H fun x H1 => ∃ a dx fs c n mm, x = .ref a /\ H1 a = some (.ins (cA.c c) dx fs) /\ fs.lookup (Str.ofString m) = none /\ tab.lookup c = some (n, mm) /\ t σ H1 fun vs H2 => spD cA n mm (x :: vs) H2 Q E0
theorem ZaO {X : Cx} {k : Nat} {m : String} {tab : MTab} {o e : Expr} {es : List Expr} {ta : TE} {t : TA} {pos apos : Pos} {pl : Sem Bool} (T : MTOk X cA k m tab) (hr : Room k X.A) (he : PE X o ta) (ha : PA X (e :: es) t)
 (hst : starEach (e :: es) X.env = (false, eval e X.env) :: starEach es X.env := by rfl) (hpl : (backTo pos (starEach es X.env)).any (·.1) = false := by rfl)
 (ht : eval (.Call (.Attribute o (Str.ofString m) apos) (e :: es) [] pos) X.env = (do
   let ov <- eval o X.env
   standAt apos.atName
   let (f, first) <- holding [ov] (getMethod ov (Str.ofString m) pl)
   callWith pos f first (backTo pos (starEach (e :: es) X.env)) (backToKw pos (keywordEach [] X.env))) := by rfl) :
 PE X (.Call (.Attribute o (Str.ofString m) apos) (e :: es) [] pos) (ZcX cA m tab ta t) := by
 intro pins s σ H Q I h
 refine PySem.W.methodCall_KW (pl := pl) (thn (he pins s σ H _ I h) fun u s1 ⟨x, H1, I1, rx, a, dx, fs, c, n, mm, ex, ea, l, tl, q⟩ => ?_) ht
 subst ex
 obtain rfl : u = Value.ref a := rx
 obtain ⟨f, fd, ps, hc, hm, F, hb⟩ := (T.get tl).ex
 refine Za5 I1 ea hc hm l ?_
 refine PySem.W.callWith_K (first := [.ref a]) (h₀ := X.base) I.ok.mod.kin hm.kp (thn (ha pos pins s1 σ H1 _ I1 q) fun us s2 ⟨vs, H2, I2, r, q2⟩ => ⟨I2.kIn, ?_⟩) hst hpl
 exact JP (us := .ref a :: us) (vs := .ref a :: vs) (dvs := []) (ds := []) F hr hb .nil Yd I2 (.cons rfl r) (by rw [List.append_nil]; exact q2)
def Yy (m : String) (tab : MTab) (a : Env -> Option D) (α : Env -> Option (List D)) (δ : Env) : Option D := match a δ with
 | some (.obj c ks xs) => if ks.contains m then none else (match tab.lookup c with
  | some (n, mm) => match α δ with
   | some ds => if (D.obj c ks xs :: ds).length = n then mm (.obj c ks xs :: ds) else none
   | none => none
  | none => none)
 | _ => none
theorem Zbs {m : String} {tab : MTab} {ta : TE} {t : TA} {a : Env -> Option D} {α : Env -> Option (List D)} (ha : VE G ow ta .cl a) (h : VA G ow t .cl α) : VE G ow (ZcX G.1 m tab ta t) .cl (Yy m tab a α) := fun H0 av A σ H δ E d e Q k => by
 unfold Yy at e
 cases hx : a δ with
 | none => rw [hx] at e; cases e
 | some x =>
  rw [hx] at e
  cases x <;> first | (cases e; done) | skip
  rename_i c ks xs
  dsimp only at e
  cases hf : ks.contains m with
  | true => rw [hf, if_pos rfl] at e; cases e
  | false =>
   rw [hf, if_neg Bool.false_ne_true] at e
   cases htb : tab.lookup c with
   | none => rw [htb] at e; cases e
   | some p =>
    obtain ⟨n, mm⟩ := p
    rw [htb] at e
    dsimp only at e
    cases he : α δ with
    | none => rw [he] at e; cases e
    | some ds =>
     rw [he] at e
     dsimp only at e
     by_cases hz : (D.obj c ks xs :: ds).length = n
     · rw [if_pos hz] at e
       refine ha H0 av A σ H δ E _ hx _ fun v H1 s1 r1 => ?_
       obtain ⟨p, dx, vs, rfl, np, rd, zl, l⟩ := r1
       refine ⟨p, dx, _, c, n, mm, rfl, rd, ZaN hf, htb, h H0 av A σ H1 δ (E.mono s1) ds he _ fun ws H2 s2 r2 => ?_⟩
       have E2 := (E.mono s1).mono s2
       refine ⟨AV av A, .obj c ks xs :: ds, d, E2.avl, .cons ?_ r2.cl, hz, e, fun v H' s r => k v H' ((s1.trans s2).trans s) r.t⟩
       unfold Rep
       exact ⟨p, dx, vs, rfl, np, s2 _ _ rd, zl, l.same s2⟩
     · rw [if_neg hz] at e; cases e
def isD : D -> D -> Option D
 | .bl a, .bl b => some (.bl (a == b))
 | _, _ => none
end
end DL
namespace DL
open PySem PySem.Spec L2
section
variable {cA : Kn} {G : Cn} {ow : List Nat}
end
end DL
namespace DL
open PySem PySem.Spec L2
section
variable {cA : Kn} {P : Program} {w : World} {K : PySem.W.Frag} {mg : Str -> Option Value} {base : Heap}
theorem Xp {x qual : Str} {st : Stmt} {f : Addr} {fd : FuncData} {N ps : List Str} {k : Nat} {φ : Env -> Option Out} {body : List Stmt} {scope : Scope} {n : Nat} {m : List D -> Option D} (F : FunX K x qual st f fd) (S : FnScope N ps (Zo st)) (hS : Zo st = scope) (hB : ZI st = body)
 (hbody : ∀ (cdv : Value) (A : Around) (outer : List PySem.Env) (s : Shared) (H : Hp) (E : XK), Room k (A.deeper (PyProof.Rows.envOfC qual scope s.heap.objs.size f cdv)) ->
   ∃ t, PSs (Yu CX0 P w K mg base N qual scope f cdv A outer s H E).nox body t /\ ∃ owN, VS ⟨cA, fun _ => none⟩ [] owN [] [] t φ)  (hm : m = run N.length φ) (hn : ps.length = n) : FnOk P w K mg base CX0 (k + 1) f fd ps (spD cA n m) := by
 subst hS hB hm hn
 exact Zff F S hbody
theorem Zfg {x qual : Str} {st : Stmt} {f : Addr} {fd : FuncData} {N ps : List Str} {k : Nat} {φ : Env -> Option Out} {body : List Stmt} {scope : Scope} {n : Nat} {m : List D -> Option D} (F : FunX K x qual st f fd) (S : FnScope N ps (Zo st)) (hS : Zo st = scope) (hB : ZI st = body)
 (hbody : ∀ (cdv : Value) (A : Around) (outer : List PySem.Env) (s : Shared) (H : Hp) (E : XK) (a : Addr), Room k (A.deeper (PyProof.Rows.envOfC qual scope s.heap.objs.size f cdv)) ->
   ∃ t, PSs (Yu CX0 P w K mg base N qual scope f cdv A outer s H E).nox body t /\ VS ⟨cA, fun j => if j = 0 then some (.inl a) else none⟩ [0] [0] [] [] t φ)  (hm : m = runI N.length φ) (hn : ps.length = n) : FnOk P w K mg base CX0 (k + 1) f fd ps (spI cA n m) := by
 subst hS hB hm hn
 exact Zga F S hbody
end
end DL
namespace DL
open PySem PySem.Spec L2 PyProof.Rows
section
variable {X : Cx} {K : PySem.W.Frag} {cA : Kn}
end
end DL
namespace L2
open PySem PySem.Spec PyProof.Rows
section
variable {X : Cx} {scope : Scope} {tn cn : List Str} {js : List Nat} {tg iter elt : Expr} {ifs : List Expr} {pos spos pos' : Pos} {wi : TI} {g : TG} {tt : TT} {te : TE}
end
end L2
namespace PySem
open Builtin SmallTypes
open AutoSeq1 (wpAny_loadPart')
end PySem
namespace PySem
open Sem (wp)
end PySem
namespace PySem
open Sem (wp)
section
variable {P : Program} {w : World} {A : Around} {E : Value -> Shared -> Prop} {s : Shared}
end
end PySem
namespace L2
open PySem PySem.Spec PyProof.Rows
end L2
namespace L2
open PySem PySem.Spec PyProof.Rows
section
variable {X : Cx} {elts : List Expr} {x1 : Nat} {tpos : Pos}
end
end L2
namespace DL
open PySem PySem.Spec L2
section
variable {cA : Kn} {G : Cn} {ow : List Nat}
end
end DL
namespace PySem
open Builtin SmallTypes
open AutoSeq1 (wpAny_loadPart')
end PySem
namespace PySem
section
variable {P : Program} {w : World} {A : Around} {E : Value -> Shared -> Prop} {s : Shared}
end
end PySem
namespace L2
open PySem PySem.Spec PyProof.Rows
section
variable {X : Cx} {elts : List Expr} {x1 : Nat} {tpos : Pos}
end
end L2
namespace DL
open PySem PySem.Spec L2
section
variable {cA : Kn} {G : Cn} {ow : List Nat}
end
end DL
namespace DL
open PySem PySem.Spec L2 PyProof.Rows
def Wd (i : Int) : Prop := i.natAbs < 2 ^ 8000
instance (i : Int) : Decidable (Wd i) := by unfold Wd; infer_instance
def CMulW (i j : Int) : Prop := (Wd i /\ Wd j) \/ CMul i j
instance (i j : Int) : Decidable (CMulW i j) := by unfold CMulW; infer_instance
def Zea (_ j : Int) : Prop := j ≠ 0 /\ Wd j
instance (i j : Int) : Decidable (Zea i j) := by unfold Zea; infer_instance
instance (i j : Int) : Decidable (JC i j) := by unfold JC; infer_instance
theorem ZeJ {i : Int} (h : Wd i) (h0 : i ≠ 0) : i.natAbs.log2 < 8000 := (Nat.log2_lt (by omega)).mpr h
theorem CMulW.ok {i j : Int} (h : CMulW i j) : IntMulOk i j := by
 rcases h with ⟨h1, h2⟩ | h
 · have bits : ∀ {a : Int}, Wd a -> Builtin.Int.intBits a <= 2 ^ 20 := fun {a} ha => by
    unfold Builtin.Int.intBits
    by_cases h0 : a = 0
    · subst h0; decide
    · have := ZeJ ha h0
      have e : (2 : Nat) ^ 20 = 1048576 := by decide
      rw [e]
      split <;> omega
   exact .of_bits (bits h1) (bits h2)
 · exact h.ok
section
variable {X : Cx} {cA : Kn}
theorem op_mulW : OpR X (binaryOp .Mult) (rI CMulW fun i j => .int (i * j)) := opI fun _ _ _ _ _ _ _ hc q => mul_int q hc.ok
end
end DL
namespace L2
open PySem PySem.Spec PySem.W PyProof.Rows
def bmV : List Value := [.type "ValueError", .type "Exception", .type "BaseException", .type "object"]
section
variable {X : Cx} {E : XK} {C : Addr} {x : Str} {p cpos pos : Pos} {e : Expr} {es : List Expr} {t : TA}
end
def CX1 (P : Program) (w : World) : CXT := fun outer H s E ev s' => ∃ (ea : Addr) (cls a0 : Value) (B : Heap) (H' : Hp), ev = .ref ea /\ s'.os = s.os /\ AllBare s'.gens /\ Heap.FlyingW B outer ea cls a0 s'.heap /\
 (∀ b o, s.heap.get? b = some o -> H b = none -> b ∉ frs outer -> B.get? b = some o) /\ HOk P w H' B /\ Same H H' /\ (∀ b o, s.heap.get? b = some o -> H b = none -> H' b = none) /\ (∀ b o, s.heap.get? b = some o -> b ∈ frs outer -> ∃ sl, s'.heap.get? b = some { o with slots := sl }) /\ E cls none H'
section
variable {P : Program} {w : World} {K : PySem.W.Frag} {mg : Str -> Option Value} {base : Heap} {N : List Str} {qual : Str} {scope : Scope} {f : Addr} {cd : Value} {A : Around} {outer : List Env} {s : Shared} {H : Hp} {E : XK}
end
end L2
namespace L2
open PySem PySem.Spec PySem.W PyProof.Rows PySem.Calls PySem.Builtin PySem.Builtin.ObjectAttr PySem.Builtin.Getset_descriptor
def Zfh (e : Addr) (C : Value) (hp : Heap) : Prop := ∃ o : Obj, hp.get? e = some o /\ o.cls = C
structure ExCls (K : PySem.W.Frag) (C : Addr) : Prop where
 ex : excIn K C bmV "ValueError.__new__" = true
 ga : findIn K (.ref C) "__getattribute__" = some (some (.builtin "BaseException.__getattribute__"))
 mb : mroIn K C (.type "BaseException") = some true
 gt : findIn K (.ref C) "__getattr__" = some none
 ca : findIn K (.ref C) "__class__" = some (some (.builtin "object.__class__"))
 cg : specialIn K (.builtin "object.__class__") "__get__" = some (some (.builtin "getset_descriptor.__get__"))
 ct : takesIn K (.builtin "object.__class__") = some true
 mo : mroIn K C (.type "object") = some true
 cl : (clsIn K C).isSome = true
section
variable {P : Program} {w : World} {A : Around} {E : Value -> Shared -> Prop} {s : Shared} {K : PySem.W.Frag} {e C : Addr}
end
end L2
namespace L2
open PySem PySem.Spec PySem.W PyProof.Rows
theorem ObjOk.there {P : Program} {w : World} {H : Hp} {hp : Heap} {a : Addr} {o : HO} (x : ObjOk P w H hp a o) : ∃ u, hp.get? a = some u := by
 cases o with
 | lst xs => obtain ⟨_, _, _, _, e⟩ := x; exact ⟨_, e⟩
 | tup xs => obtain ⟨_, _, _, ob, e, _⟩ := x; exact ⟨_, e⟩
 | dK kvs => obtain ⟨_, _, _, _, o, _, _, e, _⟩ := x; exact ⟨_, e⟩
 | dT kvs => obtain ⟨_, _, _, _, o, _, _, e, _⟩ := x; exact ⟨_, e⟩
 | set S n => obtain ⟨o, _, _, _, e, _⟩ := x; exact ⟨_, e⟩
 | ins C dx fs => obtain ⟨_, _, _, e, _⟩ := x; exact ⟨_, e⟩
 | own y => exact x
 | xd fs => obtain ⟨_, ⟨_, _, _, e, _⟩, _⟩ := x; exact ⟨_, e⟩
 | rng lo hi => obtain ⟨_, _, _, e⟩ := x; exact ⟨_, e⟩
 | frz ob u => obtain ⟨e, _⟩ := x; exact ⟨_, e⟩
 | tbl ps => exact ⟨_, x⟩
 | met f y => exact ⟨_, x⟩
 | ext φ => exact x.2.1
section
variable {X : Cx} {pins : List (Addr × Obj)} {σ : St} {H H' : Hp} {s s' : Shared} {B hp : Heap} {ea : Addr} {C : Value}
end
section
variable {X : Cx} {E : XK}
end
end L2
namespace L2
open PySem PySem.Spec PySem.W PyProof.Rows
section
variable {X : Cx} {G : Addr} {g n : Str} {i : Nat} {body suite : List Stmt} {b₀ : Stmt} {gp hpos pos : Pos} {tb : XK -> TS} {ts : Addr -> Addr -> TS}
end
end L2
namespace DL
open PySem PySem.Spec L2
def spX (cA : Kn) (n : Nat) (m : List D -> Option D) (x : List D -> Option String) : Sp := fun vs H Q E => spD cA n m vs H Q E \/
 ∃ (av : Addr -> Prop) (ds : List D) (c : String), (∀ a, av a -> H a ≠ none) /\ RepL cA av H ds vs /\ ds.length = n /\ x ds = some c /\ ∀ H', Same H H' -> E (.ref (cA.c c)) none H'
def VX (G : Cn) (ow : List Nat) (E : XK) (ts : TS) (χ : Env -> Option String) : Prop :=
 ∀ H0 av A σ H δ, ER G ow H0 av A σ H δ -> ∀ c, χ δ = some c -> (∀ H', Same H0 H' -> E (.ref (G.1.c c)) none H') -> ∀ De : Ends, ts De σ H
section
variable {cA : Kn} {G : Cn} {ow ow1 owB owC owN : List Nat} {E : XK}
end
section
variable {P : Program} {w : World} {K : PySem.W.Frag} {mg : Str -> Option Value} {base : Heap} {cA : Kn}
end
end DL
namespace DL
open PySem PySem.Spec L2
def Zgb (K : PySem.W.Frag) (cA : Kn) (v : V) (tab : List (String × Bool)) : Prop := ∀ c b, tab.lookup c = some b -> ∃ cv, (∀ u, RelV v u -> u = cv) /\ PySem.W.kitOne K (.ref (cA.c c)) cv = some b
inductive IsiEs (K : PySem.W.Frag) (cA : Kn) : List V -> List (List (String × Bool)) -> Prop where
 | nil : IsiEs K cA [] []
 | cons {v : V} {t : List (String × Bool)} {vs : List V} {ts : List (List (String × Bool))} : Zgb K cA v t -> IsiEs K cA vs ts -> IsiEs K cA (v :: vs) (t :: ts)
section
variable {cA : Kn} {G : Cn} {ow owB owC : List Nat}
theorem ER.none {H0 H : Hp} {av : Addr -> Prop} {A : Nat -> Option Addr} {σ : L2.St} {δ : Env} {i : Nat} {x : Option V} (R : ER G ow H0 av A σ H δ) (hi : ow.contains i = false) (hn : G.2 i = Option.none) : ER G ow H0 av A (σ.set i x) H (δ.set i Option.none) :=
 ⟨R.same, R.avd, R.fr, R.inj, R.live, R.dom, R.dom', by rw [List.length_set, List.length_set]; exact R.len, R.pin, (fun j v' e => by
   have q : j ≠ i := fun z => by rw [z, hn] at e; cases e
   rw [List.getElem?_set_ne (Ne.symm q)]; exact R.kept j v' e), fun j d e => by
   have hj : j ≠ i := by
    intro z
    subst z
    by_cases hl : j < δ.length
    · rw [List.getElem?_set_self hl] at e; cases e
    · rw [List.getElem?_eq_none (by rw [List.length_set]; omega)] at e; cases e
   rw [List.getElem?_set_ne (Ne.symm hj)] at e
   obtain ⟨v, h1, h2⟩ := R.var j d e
   exact ⟨v, by rw [List.getElem?_set_ne (Ne.symm hj)]; exact h1, h2⟩⟩
end
end DL
namespace L2
open PySem PySem.Spec PyProof.Rows
section
variable {X : Cx}
def Zeb (K : PySem.W.Frag) : R2 := fun x y H Q => ∃ l b xs zs, x = .ref l /\ y = .ref b /\ SqL K H l xs /\ SqL K H b zs /\ xs.length + zs.length <= sizeLine /\ ∀ p, H p = none -> Q (.ref p) (upd H p (.lst (xs ++ zs)))
theorem Zdv : OpR X (binaryOp .Add) (Zeb X.K) := by
 intro pins s σ H x y v u Q I rx ry h
 obtain ⟨l, b, xs, zs, rfl, rfl, hH, hB, hz, q⟩ := h
 cases rx
 cases ry
 obtain ⟨its, r, pl, _⟩ := I.list hH
 obtain ⟨its2, r2, pl2, _⟩ := I.list hB
 obtain ⟨⟨c1, d1, da1, sl1⟩, n1, g1, e1, e2, e3⟩ := pl
 obtain ⟨⟨c2, d2, da2, sl2⟩, n2, g2, f1, f2, f3⟩ := pl2
 dsimp only at e1 e2 e3 f1 f2 f3
 subst e1 e2 e3 f1 f2 f3
 have hl := r.length
 have hl2 := r2.length
 refine concat_meets ⟨_, g1, rfl⟩ ⟨_, g2, rfl⟩ noFill_list_add seq_list_add PySem.F.slot_list_add PySem.F.entry_list_add (PySem.F.args_list_add_2 _ _) (list_addW l b its.toArray its2.toArray n1 n2 none none sl1 sl2 (by rw [List.size_toArray, List.size_toArray]; omega)) ⟨g1, g2, ?_⟩
 have ea : its.toArray ++ its2.toArray = (its ++ its2).toArray := by simp
 rw [ea]
 exact ⟨.ref _, _, I.lnew (t' := s.toks) (r.append r2) (by rw [List.length_append]; omega), rfl, q _ I.fresh⟩
def Zec (K : PySem.W.Frag) : R2 := fun x y H Q => ∃ l k xs, x = .ref l /\ y = .int k /\ SqL K H l xs /\ -(2 ^ 63) <= k /\ k < 2 ^ 63 /\ xs.length * k.toNat <= sizeLine /\ ∀ p, H p = none -> Q (.ref p) (upd H p (.lst (List.replicate k.toNat xs).flatten))
theorem Zdw : OpR X (binaryOp .Mult) (Zec X.K) := by
 intro pins s σ H x y v u Q I rx ry h
 obtain ⟨l, k, xs, rfl, rfl, hH, h1, h2, hz, q⟩ := h
 cases rx
 obtain ⟨t, rfl⟩ := ry
 obtain ⟨its, r, pl, _⟩ := I.list hH
 obtain ⟨⟨c1, d1, da1, sl1⟩, n1, g1, e1, e2, e3⟩ := pl
 dsimp only at e1 e2 e3
 subst e1 e2 e3
 have hl := r.length
 have hlen : its.toArray.size * k.toNat <= sizeLine := by rw [List.size_toArray, <- hl]; exact hz
 have hcap : ¬ its.toArray.size * k.toNat > (2 ^ 63 - 1) / 8 := by
  have : (sizeLine : Nat) <= (2 ^ 63 - 1) / 8 := by decide
  omega
 have hfit : ¬ (!Builtin.List.listFitsIndex k) = true := by
  rw [fitsIndex_both h1 h2]
  exact Bool.false_ne_true
 have hlong : ¬ Builtin.List.listTooLong (its.toArray.size * k.toNat) = true := by
  rw [Zcm hlen]
  exact Bool.false_ne_true
 have hnew : List.foldl (fun x1 x2 => x1 ++ x2) #[] (List.replicate (if its.toArray.isEmpty = true then 0 else k.toNat) its.toArray) = (List.replicate k.toNat its).flatten.toArray := by
  have f0 : ∀ m : Nat, List.foldl (fun x1 x2 => x1 ++ x2) #[] (List.replicate m its.toArray) = (List.replicate m its).flatten.toArray := fun m => by
   have := J0 its m []
   rw [List.nil_append] at this
   exact this
  rw [f0]
  cases its with
  | nil => simp
  | cons a r' => rw [if_neg (by simp)]
 refine wpAny_binaryOp_repeat_ref (T := "list") (U := "int") (by decide) ⟨_, g1, rfl⟩ (fun s' => typeIs_int s' k t) noFill_list_mul F.fills_int_mul F.slot_int_rmul repeat_list F.slot_int_index.lookup
  (call_meets F.slot_int_rmul (typeIs_int s k t) F.entry_int_rmul (F.args_int_rmul_2 _ _) (lm_int_rmul_list_any k t l its.toArray n1 none sl1)
    ⟨g1, rfl, ⟨_, g1, rfl⟩, call_meets F.slot_list_mul ⟨_, g1, rfl⟩ F.entry_list_mul (F.args_list_mul_2 _ _) (lm_list_mul_any l its.toArray n1 none sl1 k t hfit hcap hlong) ⟨g1, ?_⟩⟩)
 rw [hnew]
 exact ⟨.ref _, _, I.lnew (t' := s.toks) (r.rep k.toNat) (by rw [Zdj, Nat.mul_comm]; exact hz), rfl, q _ I.fresh⟩
def UL (K : PySem.W.Frag) : R2 := fun x y H Q => rI0 (fun i j => .int (i + j)) x y H Q \/ rAddS x y H Q \/ Zeb K x y H Q
theorem Zdx : OpR X (binaryOp .Add) (UL X.K) := op_add.or (op_addS.or Zdv)
theorem Yz {K : PySem.W.Frag} (hK : X.K = K := by rfl) : OpR X (binaryOp .Add) (UL K) := hK ▸ Zdx
def QN (K : PySem.W.Frag) : R2 := fun x y H Q => rI DL.CMulW (fun i j => .int (i * j)) x y H Q \/ DL.rMulS x y H Q \/ Zec K x y H Q
theorem Zdy : OpR X (binaryOp .Mult) (QN X.K) := DL.op_mulW.or (DL.op_mulS.or Zdw)
theorem V4 {K : PySem.W.Frag} (hK : X.K = K := by rfl) : OpR X (binaryOp .Mult) (QN K) := hK ▸ Zdy
end
end L2
namespace DL
open PySem PySem.Spec L2
section
variable {cA : Kn} {G : Cn} {ow owB owC : List Nat}
theorem Zbt {i : Addr -> Prop} {H : Hp} {p : Addr} {xs : List D} {vs : List V} (hi : ∀ a, i a -> H a ≠ none) (hp : H p = none) (l : RepL cA i H xs vs) : Rep cA i (upd H p (.lst vs)) (.lst xs) (.ref p) := by
 unfold Rep
 exact ⟨p, vs, rfl, fun z => (hi p z hp).elim, SqL.of ZE, l.same (Z0 hp)⟩
def addX : D -> D -> Option D
 | .lst a, .lst b => if a.length + b.length <= sizeLine then some (.lst (a ++ b)) else none
 | x, y => addD x y
theorem YA : YK cA (UL cA.K) addX := fun t t' i H x y vx vy d hi hx hy e Q k => by
 have old : addD x y = some d -> UL cA.K vx vy H Q := fun e => by
  rcases (ZeC (cA := cA) t t' i H x y vx vy d hi hx hy e Q k) with h | h | h
  · exact .inl h
  · exact .inr (.inl h)
  · obtain ⟨l, b, xs, zs, e1, e2, h1, h2, h3, h4⟩ := h
    exact .inr (.inr ⟨l, b, xs, zs, e1, e2, SqL.of h1, SqL.of h2, h3, h4⟩)
 cases x with
 | lst a =>
  cases y with
  | lst b =>
   dsimp only [addX] at e
   by_cases hz : a.length + b.length <= sizeLine
   · rw [if_pos hz] at e
     cases e
     obtain ⟨a1, vs1, rfl, _, r1, l1⟩ := hx
     obtain ⟨a2, vs2, rfl, _, r2, l2⟩ := hy
     exact .inr (.inr ⟨a1, a2, vs1, vs2, rfl, rfl, r1, r2, by rw [<- l1.length, <- l2.length]; exact hz, fun p hp => k _ _ (Z0 hp) (Zbt hi hp (l1.append l2))⟩)
   · rw [if_neg hz] at e; cases e
  | _ => exact old e
 | _ => exact old e
theorem RepL.rep {av : Addr -> Prop} {H : Hp} {xs : List D} {vs : List V} (l : RepL cA av H xs vs) : ∀ n : Nat, RepL cA av H (List.replicate n xs).flatten (List.replicate n vs).flatten
 | 0 => .nil
 | n + 1 => by
  rw [List.replicate_succ, List.replicate_succ, List.flatten_cons, List.flatten_cons]
  exact l.append (RepL.rep l n)
def mulX : D -> D -> Option D
 | .int i, .int j => if CMulW i j then some (.int (i * j)) else none
 | .str a, .int n => if n < 2 ^ 63 /\ -(2 ^ 63) <= n /\ a.length * n.toNat <= sizeLine then some (.str (Vn a n)) else none
 | .lst a, .int n => if n < 2 ^ 63 /\ -(2 ^ 63) <= n /\ a.length * n.toNat <= sizeLine then some (.lst (List.replicate n.toNat a).flatten) else none
 | _, _ => none
theorem V5 : YK cA (QN cA.K) mulX := fun t t' i H x y vx vy d hi hx hy e Q k => by
 cases x <;> cases y <;> first | (cases e; done) | skip
 · cases (show vx = _ from hx); cases (show vy = _ from hy)
   rename_i a b
   dsimp only [mulX] at e
   by_cases hz : CMulW a b
   · rw [if_pos hz] at e
     cases e
     exact .inl ⟨_, _, rfl, rfl, hz, k _ H (Same.refl H) rfl⟩
   · rw [if_neg hz] at e; cases e
 · cases (show vx = _ from hx); cases (show vy = _ from hy)
   rename_i a n
   dsimp only [mulX] at e
   by_cases hz : n < 2 ^ 63 /\ -(2 ^ 63) <= n /\ a.length * n.toNat <= sizeLine
   · rw [if_pos hz] at e
     cases e
     exact .inr (.inl ⟨_, _, rfl, rfl, hz, k _ H (Same.refl H) rfl⟩)
   · rw [if_neg hz] at e; cases e
 · rename_i a n
   cases (show vy = _ from hy)
   dsimp only [mulX] at e
   by_cases hz : n < 2 ^ 63 /\ -(2 ^ 63) <= n /\ a.length * n.toNat <= sizeLine
   · rw [if_pos hz] at e
     cases e
     obtain ⟨a1, vs1, rfl, _, r1, l1⟩ := hx
     exact .inr (.inr ⟨a1, n, vs1, rfl, rfl, r1, hz.2.1, hz.1, by rw [<- l1.length]; exact hz.2.2, fun p hp => k _ _ (Z0 hp) (Zbt hi hp (l1.rep n.toNat))⟩)
   · rw [if_neg hz] at e; cases e
end
end DL
namespace L2
open PySem PySem.W
end L2
namespace DL
open L2
theorem VX.frz {G : Cn} {ow ow1 : List Nat} {E : XK} {t : TS} {χ : Env -> Option String} (i : Nat) (h : VX G ow1 E t χ) (hn : G.2 i = none) (h1 : sub ow1 ow = true) (h2 : ow1.contains i = false) (h3 : sub ow (i :: ow1) = true) : VX G ow E t χ := fun H0 av A σ H δ R c e k De =>
 h H0 av _ σ H δ (R.freeze i (UG h1 h2 h3) hn) c e k De
end DL
namespace L2
open PySem
end L2
namespace L2
open PySem
end L2
namespace L2
open PySem PySem.Spec PySem.W PyProof.Rows
section
variable {X : Cx} {e : Expr} {te : TE} {pos : Pos}
inductive PJ (X : Cx) : List Expr -> List TE -> Prop where
 | nil : PJ X [] []
 | cons {e : Expr} {es : List Expr} {t : TE} {ts : List TE} : PE X e t -> PJ X es ts -> PJ X (e :: es) (t :: ts)
end
end L2
namespace DL
open PySem PySem.Spec L2
section
variable {G : Cn} {ow : List Nat}
inductive VJ (G : Cn) (ow : List Nat) : List TE -> List (Env -> Option D) -> Prop where
 | nil : VJ G ow [] []
 | cons {t : TE} {a : Env -> Option D} {ts : List TE} {as : List (Env -> Option D)} : VE G ow t .cl a -> VJ G ow ts as -> VJ G ow (t :: ts) (a :: as)
end
end DL
namespace L2
open PySem PySem.Spec PySem.W PyProof.Rows
section
variable {X : Cx} {E : XK}
end
end L2
namespace DL
open PySem PySem.Spec L2
abbrev XTab := List (String × (Nat × (List D -> Option D) × (List D -> Option String)))
structure MethOkX (X : Cx) (cA : Kn) (k : Nat) (m : String) (c : String) (n : Nat) (mm : List D -> Option D) (xm : List D -> Option String) : Prop where
 ex : ∃ f fd ps, Cls X.K (cA.c c) /\ Meth X.K (cA.c c) (Str.ofString m) f /\ FnOk X.prog X.w X.K X.mg X.base (CX1 X.prog X.w) k f fd ps (spX cA n mm xm) /\ Binds X.K fd ps []
def MTOkX (X : Cx) (cA : Kn) (k : Nat) (m : String) : XTab -> Prop
 | [] => True
 | (c, n, mm, xm) :: r => MethOkX X cA k m c n mm xm /\ MTOkX X cA k m r
theorem MTOkX.get {X : Cx} {cA : Kn} {k : Nat} {m : String} : ∀ {tab : XTab} {c : String} {n : Nat} {mm : List D -> Option D} {xm : List D -> Option String}, MTOkX X cA k m tab -> tab.lookup c = some (n, mm, xm) -> MethOkX X cA k m c n mm xm
 | [], _, _, _, _, _, h => by simp at h
 | (c', n', mm', xm') :: r, c, n, mm, xm, T, h => by
  rw [List.lookup_cons] at h
  cases hc : c == c' with
  | true =>
   rw [hc] at h
   cases h
   have : c = c' := eq_of_beq hc
   subst this
   exact T.1
  | false =>
   rw [hc] at h
   exact MTOkX.get T.2 h
section
variable {X : Cx} {cA : Kn} {k : Nat} {m : String} {tab : XTab} {o e : Expr} {es : List Expr} {ta : TE} {t : TA} {pos apos : Pos} {pl : Sem Bool} {E : XK}
end
section
variable {cA : Kn} {G : Cn} {ow ow1 owB owC owN : List Nat} {E : XK}
end
end DL
namespace L2
open PySem PySem.Spec PySem.W PyProof.Rows
end L2
namespace DL
open PySem PySem.Spec L2
section
variable {G : Cn} {ow : List Nat}
end
end DL
namespace L2
open PySem PySem.Spec PySem.W PyProof.Rows
structure RoomE (k : Nat) (A : Around) : Prop where
 dp : A.depth + 3 * k + 5 < recursionLimit
 un : A.units + 16 * k + 200 < cLine
structure FnOkE (P : Program) (w : World) (K : PySem.W.Frag) (mg : Str -> Option Value) (base : Heap) (k : Nat) (f : Addr) (fd : FuncData) (ps : List Str) (sp : List V -> Hp -> VK -> Prop) : Prop where
 len : ∀ vs H Q, sp vs H Q -> vs.length = ps.length
 run : ∀ (A : Around) (outer : List PySem.Env) (s : Shared) (H : Hp) (args : Args) (us : List Value) (vs : List V) (Q : VK), RoomE k A -> Env0 P w K mg base A outer s H -> BindsTo s fd args (ps.zip us) -> Vals vs us -> sp vs H Q ->
  codeAny (model P w) A (.call (.ref f) args) (CR CX0 outer P w H s Q E0) s
end L2
namespace DL
open PySem PySem.Spec L2
def ZeK (K : PySem.W.Frag) (cA : Kn) (i : Nat) (mk : Addr -> Addr -> TE) (tab : List (String × Bool)) : Prop := ∀ (c : String) (b : Bool) (ea : Addr) (σ : L2.St) (H : Hp) (Q : VK), ExCls K (cA.c c) -> tab.lookup c = some b -> σ[i]? = some (some (.ref ea)) -> H ea = some (.ext (Zfh ea (.ref (cA.c c)))) -> (∀ H', Same H H' -> Q (.bl b) H') -> mk (cA.c c) ea σ H Q
inductive Items (K : PySem.W.Frag) (cA : Kn) (i : Nat) : List (Addr -> Addr -> TE) -> List (List (String × Bool)) -> Prop where
 | nil : Items K cA i [] []
 | cons {m : Addr -> Addr -> TE} {t : List (String × Bool)} {ms : List (Addr -> Addr -> TE)} {ts : List (List (String × Bool))} : ZeK K cA i m t -> Items K cA i ms ts -> Items K cA i (m :: ms) (t :: ts)
section
variable {cA : Kn} {G : Cn} {ow owB owC : List Nat}
end
end DL
namespace L2
open PySem PySem.Spec PyProof.Rows
section
variable {X : Cx} {elts : List Expr} {x1 : Nat} {tpos : Pos}
end
end L2
namespace DL
open PySem PySem.Spec L2
section
variable {cA : Kn} {G : Cn} {ow : List Nat}
end
end DL
namespace DL
open PySem PySem.Spec L2
def mat (rows : List (List D)) : D := .lst (rows.map D.lst)
structure Mx (H : Hp) (a : Addr) (bs : List Addr) (rows : List (List D)) : Prop where
 top : H a = some (.lst (bs.map V.ref))
 len : bs.length = rows.length
 nd : bs.Nodup
 na : a ∉ bs
 row : ∀ (k : Nat) (b : Addr) (r : List D), bs[k]? = some b -> rows[k]? = some r -> H b = some (.lst (r.map val))
 sc : ∀ r ∈ rows, r.all Zi = true
section
variable {H H' : Hp} {a : Addr} {bs : List Addr} {rows : List (List D)}
theorem Mx.mem (M : Mx H a bs rows) {b : Addr} (h : b ∈ bs) : ∃ r ∈ rows, H b = some (.lst (r.map val)) := by
 obtain ⟨k, hk, e⟩ := List.mem_iff_getElem.mp h
 have hk2 : k < rows.length := by rw [<- M.len]; exact hk
 exact ⟨rows[k], List.getElem_mem hk2, M.row k b _ (by rw [List.getElem?_eq_getElem hk, e]) (List.getElem?_eq_getElem hk2)⟩
theorem Mx.there (M : Mx H a bs rows) {x : Addr} (h : x ∈ a :: bs) : ∃ vs, H x = some (.lst vs) := by
 rcases List.mem_cons.mp h with rfl | h
 · exact ⟨_, M.top⟩
 · obtain ⟨r, _, e⟩ := M.mem h
   exact ⟨_, e⟩
theorem Mx.mono (M : Mx H a bs rows) (k : Same H H') : Mx H' a bs rows := ⟨k _ _ M.top, M.len, M.nd, M.na, fun n b r h1 h2 => k _ _ (M.row n b r h1 h2), M.sc⟩
theorem Mx.rep {cA : Kn} {av : Addr -> Prop} (M : Mx H a bs rows) (hn : ∀ x ∈ a :: bs, ¬ av x) : Rep cA av H (mat rows) (.ref a) := by
 have go : ∀ (bs : List Addr) (rows : List (List D)), bs.length = rows.length -> (∀ x ∈ bs, ¬ av x) -> (∀ (k : Nat) (b : Addr) (r : List D), bs[k]? = some b -> rows[k]? = some r -> H b = some (.lst (r.map val))) -> (∀ r ∈ rows, r.all Zi = true) -> RepL cA av H (rows.map D.lst) (bs.map V.ref) := by
  intro bs
  induction bs with
  | nil =>
   intro rows hl _ _ _
   cases rows with
   | nil => exact .nil
   | cons _ _ => simp at hl
  | cons b bs ih =>
   intro rows hl hn hr hs
   cases rows with
   | nil => simp at hl
   | cons r rows =>
    refine .cons ?_ (ih rows (by simpa using hl) (fun x hx => hn x (List.mem_cons_of_mem _ hx)) (fun k b r h1 h2 => hr (k + 1) b r (by simpa using h1) (by simpa using h2)) fun r hr => hs r (List.mem_cons_of_mem _ hr))
    unfold Rep
    exact ⟨b, r.map val, rfl, fun z => (hn b List.mem_cons_self z).elim, SqL.of (hr 0 b r rfl rfl), .of_vals (hs r List.mem_cons_self)⟩
 unfold mat Rep
 exact ⟨a, bs.map V.ref, rfl, fun z => (hn a List.mem_cons_self z).elim, SqL.of M.top, go bs rows M.len (fun x hx => hn x (List.mem_cons_of_mem _ hx)) M.row M.sc⟩
end
open Classical in
noncomputable def ovl (H0 H : Hp) (F : List Addr) : Hp := fun x => if x ∈ F then H x else H0 x
theorem Yk {H0 H : Hp} {F : List Addr} {x : Addr} (h : x ∈ F) : ovl H0 H F x = H x := if_pos h
theorem ZX {H0 H : Hp} {F : List Addr} {x : Addr} (h : x ∉ F) : ovl H0 H F x = H0 x := if_neg h
abbrev Cn.keep (G : Cn) (i : Nat) (v : V) : Cn := ⟨G.1, fun j => if j = i then some (.inr v) else G.2 j⟩
abbrev avF (av : Addr -> Prop) (F : List Addr) : Addr -> Prop := fun x => av x \/ x ∈ F
def PinOk (G : Cn) (i : Nat) (σ : L2.St) : Prop := ∀ z, G.2 i = some z -> ∃ v, z = .inr v /\ σ[i]? = some (some v)
theorem PinOk.none {G : Cn} {i : Nat} {σ : L2.St} (h : G.2 i = Option.none) : PinOk G i σ := fun z e => by rw [h] at e; cases e
theorem PinOk.set {G : Cn} {i k : Nat} {σ : L2.St} {x : Option V} (h : PinOk G i σ) (hk : k ≠ i) : PinOk G i (σ.set k x) := fun z e => by
 obtain ⟨v, h1, h2⟩ := h z e
 exact ⟨v, h1, by rw [List.getElem?_set_ne hk]; exact h2⟩
structure MR (G : Cn) (ow : List Nat) (i : Nat) (H0 : Hp) (av : Addr -> Prop) (A : Nat -> Option Addr) (σ : L2.St) (H : Hp) (δ : Env) : Prop where
 ni : i ∉ ow
 nn : PinOk G i σ
 avd : ∀ x, av x -> H0 x ≠ none
 ex : ∃ a bs rows, δ[i]? = some (some (mat rows)) /\ Mx H a bs rows /\ (∀ x ∈ a :: bs, H0 x = none) /\ ER (G.keep i (.ref a)) ow (ovl H0 H (a :: bs)) (avF av (a :: bs)) A σ H (δ.set i none)
section
variable {cA : Kn} {G : Cn} {ow owN owB owC ow1 : List Nat} {i : Nat} {H0 H H' : Hp} {av : Addr -> Prop} {A : Nat -> Option Addr} {σ : L2.St} {δ : Env}
theorem X2 {j : Nat} {v : V} (h : j ≠ i) : (G.keep i v).2 j = G.2 j := if_neg h
theorem XE {v : V} : (G.keep i v).2 i = some (.inr v) := if_pos rfl
theorem MR.view (R : MR G ow i H0 av A σ H δ) : ER G ow H0 av A σ H δ := by
 obtain ⟨a, bs, rows, hd, M, h0, E⟩ := R.ex
 have nF : ∀ j x, A j = some x -> x ∉ a :: bs := fun j x e z => by
  have := E.fr j x e
  rw [Yk z] at this
  obtain ⟨vs, q⟩ := M.there z
  rw [q] at this; cases this
 have hAi : A i = none := by
  cases q : A i with
  | none => rfl
  | some x => exact (R.ni (E.dom i (by rw [q]; exact fun z => by cases z))).elim
 have less : ∀ b, AV av A b -> AV (avF av (a :: bs)) A b := fun b z => z.elim (fun z => .inl (.inl z)) .inr
 have hil : i < δ.length := (List.getElem?_eq_some_iff.mp hd).1
 refine ⟨fun b o e => ?_, R.avd, fun j x e => ?_, E.inj, E.live, E.dom, E.dom', by rw [E.len, List.length_set], fun j x e => ?_, fun j v e => ?_, fun j d e => ?_⟩
 · have nb : b ∉ a :: bs := fun z => by rw [h0 b z] at e; cases e
   exact E.same b o (by rw [ZX nb]; exact e)
 · have := E.fr j x e
   rw [ZX (nF j x e)] at this
   exact this
 · have q : j ≠ i := fun z => by
    obtain ⟨v, h1, _⟩ := R.nn _ (z ▸ e)
    cases h1
   exact E.pin j x (by rw [X2 q]; exact e)
 · by_cases q : j = i
   · obtain ⟨v', h1, h2⟩ := R.nn _ (q ▸ e)
     cases h1
     rw [q]
     exact h2
   · exact E.kept j v (by rw [X2 q]; exact e)
 · by_cases q : j = i
   · subst q
     rw [hd] at e
     cases e
     refine ⟨.ref a, E.kept j _ XE, fun _ => M.rep fun x hx z => ?_, fun b z => by rw [hAi] at z; cases z⟩
     rcases z with z | ⟨k, z⟩
     · exact R.avd x z (h0 x hx)
     · exact nF k x z hx
   · obtain ⟨v, h1, h2, h3⟩ := E.var j d (by rw [List.getElem?_set_ne (Ne.symm q)]; exact e)
     refine ⟨v, h1, fun z => (h2 z).av fun b z => .inl (less b z), fun b z => ?_⟩
     obtain ⟨r1, r2⟩ := h3 b z
     refine ⟨r1, ?_⟩
     cases d with
     | lst xs => obtain ⟨vs, q1, q2⟩ := r2; exact ⟨vs, q1, q2.av fun b z => .inl (less b z)⟩
     | obj c ks xs => obtain ⟨dx, vs, q1, q0, q2⟩ := r2; exact ⟨dx, vs, q1, q0, q2.av fun b z => .inl (less b z)⟩
     | dct ks xs => obtain ⟨vs, q1, q0, q2⟩ := r2; exact ⟨vs, q1, q0, q2.av fun b z => .inl (less b z)⟩
     | dtt ks xs => obtain ⟨vs, q1, q0, q2⟩ := r2; exact ⟨vs, q1, q0, q2.av fun b z => .inl (less b z)⟩
     | _ => exact r2
theorem QO {a : Addr} {bs : List Addr} {rows : List (List D)} (M : Mx H a bs rows) (k : Same H H') : ovl H0 H' (a :: bs) = ovl H0 H (a :: bs) := by
 funext x
 by_cases h : x ∈ a :: bs
 · rw [Yk h, Yk h]
   obtain ⟨vs, q⟩ := M.there h
   rw [q, k _ _ q]
 · rw [ZX h, ZX h]
theorem MR.mono (R : MR G ow i H0 av A σ H δ) (k : Same H H') : MR G ow i H0 av A σ H' δ := by
 obtain ⟨a, bs, rows, hd, M, h0, E⟩ := R.ex
 exact ⟨R.ni, R.nn, R.avd, a, bs, rows, hd, M.mono k, h0, by rw [QO M k]; exact E.mono k⟩
theorem MR.set {k : Nat} {d : D} (R : MR G ow i H0 av A σ H δ) (hs : Zi d = true) (hk : k ≠ i) (hw : ∀ j, j ∈ owN ↔ j ∈ ow /\ j ≠ k) (hn : G.2 k = none) : MR G owN i H0 av (fun j => if j = k then none else A j) (σ.set k (some (val d))) H (δ.set k (some d)) := by
 obtain ⟨a, bs, rows, hd, M, h0, E⟩ := R.ex
 refine ⟨fun z => R.ni ((hw i).mp z).1, R.nn.set hk, R.avd, a, bs, rows, by rw [List.getElem?_set_ne hk]; exact hd, M, h0, ?_⟩
 rw [List.set_comm _ _ hk]
 exact E.set (.of_val hs) hw (by rw [X2 hk]; exact hn)
theorem MR.turn {a : Addr} {bs : List Addr} {rows rows' : List (List D)} (ni : i ∉ ow) (nn : PinOk G i σ) (havd : ∀ x, av x -> H0 x ≠ none) (hd : δ[i]? = some (some (mat rows))) (M : Mx H a bs rows) (h0 : ∀ x ∈ a :: bs, H0 x = none) (E : ER (G.keep i (.ref a)) ow (ovl H0 H (a :: bs)) (avF av (a :: bs)) A σ H (δ.set i none))
 (M' : Mx H' a bs rows') (hk : ∀ x, x ∉ a :: bs -> H' x = H x) : MR G ow i H0 av A σ H' (δ.set i (some (mat rows'))) := by
 have hil : i < δ.length := (List.getElem?_eq_some_iff.mp hd).1
 have nF : ∀ j x, A j = some x -> x ∉ a :: bs := fun j x e z => by
  have := E.fr j x e
  rw [Yk z] at this
  obtain ⟨vs, q⟩ := M.there z
  rw [q] at this; cases this
 refine ⟨ni, nn, havd, a, bs, rows', List.getElem?_set_self hil, M', h0, ?_⟩
 have e1 : (δ.set i (some (mat rows'))).set i none = δ.set i none := List.set_set ..
 rw [e1]
 refine ⟨fun b o e => ?_, fun x z => ?_, fun j x e => ?_, E.inj, fun j x e => ?_, E.dom, E.dom', E.len, E.pin, E.kept, fun j d e => ?_⟩
 · by_cases h : b ∈ a :: bs
   · rw [Yk h] at e; exact e
   · rw [ZX h] at e
     rw [hk b h]
     exact E.same b o (by rw [ZX h]; exact e)
 · by_cases h : x ∈ a :: bs
   · rw [Yk h]
     obtain ⟨vs, q⟩ := M'.there h
     rw [q]; exact fun z => by cases z
   · rw [ZX h]
     exact havd x (z.resolve_right h)
 · have := E.fr j x e
   rw [ZX (nF j x e)] at this ⊢
   exact this
 · rw [hk x (nF j x e)]
   exact E.live j x e
 · have ex : ∀ b o, ¬ AV (avF av (a :: bs)) A b -> H b = some o -> H' b = some o := fun b o n e => by
    rw [hk b fun z => n (.inl (.inr z))]; exact e
   obtain ⟨v, h1, h2, h3⟩ := E.var j d e
   refine ⟨v, h1, fun z => (h2 z).ext ex, fun b z => ?_⟩
   obtain ⟨r1, r2⟩ := h3 b z
   refine ⟨r1, ?_⟩
   cases d with
   | lst xs => obtain ⟨vs, q1, q2⟩ := r2; exact ⟨vs, by rw [hk b (nF j b z)]; exact q1, q2.ext ex⟩
   | obj c ks xs => obtain ⟨dx, vs, q1, q0, q2⟩ := r2; exact ⟨dx, vs, by rw [hk b (nF j b z)]; exact q1, q0, q2.ext ex⟩
   | dct ks xs => obtain ⟨vs, q1, q0, q2⟩ := r2; exact ⟨vs, by rw [hk b (nF j b z)]; exact q1, q0, q2.ext ex⟩
   | dtt ks xs => obtain ⟨vs, q1, q0, q2⟩ := r2; exact ⟨vs, by rw [hk b (nF j b z)]; exact q1, q0, q2.ext ex⟩
   | _ => exact r2
end
end DL
namespace DL
open PySem PySem.Spec L2
def WantsM (G : Cn) (owN owB owC : List Nat) (i : Nat) (H0 : Hp) (av : Addr -> Prop) (De : Ends) : Out -> Prop
 | .nx δ' => ∀ A' σ' H', MR G owN i H0 av A' σ' H' δ' -> De.nx σ' H'
 | .rt d => ∀ v H', Same H0 H' -> Rep G.1 av H' d v -> De.rt v H'
 | .bk δ' => ∀ A' σ' H', MR G owB i H0 av A' σ' H' δ' -> De.bk σ' H'
 | .ct δ' => ∀ A' σ' H', MR G owC i H0 av A' σ' H' δ' -> De.ct σ' H'
def VM (G : Cn) (ow owN owB owC : List Nat) (i : Nat) (ts : TS) (φ : Env -> Option Out) : Prop :=
 ∀ H0 av A σ H δ, MR G ow i H0 av A σ H δ -> ∀ o, φ δ = some o -> ∀ De : Ends, WantsM G owN owB owC i H0 av De o -> ts De σ H
section
variable {cA : Kn} {G : Cn} {ow owN owB owC ow1 : List Nat} {i : Nat}
theorem Zdz : VM G ow ow owB owC i tNext sNext := fun H0 av A σ H δ R o e De k => by
 cases e
 exact k A σ H R
theorem Xq {t u : TS} {φ ψ : Env -> Option Out} (h1 : VM G ow ow1 owB owC i t φ) (h2 : VM G ow1 owN owB owC i u ψ) : VM G ow owN owB owC i (Vd t u) (Zd φ ψ) := fun H0 av A σ H δ R o e De k => by
 unfold Zd at e
 cases he : φ δ with
 | none => rw [he] at e; cases e
 | some o1 =>
  rw [he] at e
  refine h1 H0 av A σ H δ R o1 he _ ?_
  cases o1 with
  | nx δ' => exact fun A' σ' H' R' => h2 H0 av A' σ' H' δ' R' o e De k
  | rt d => cases e; exact k
  | bk δ' => cases e; exact k
  | ct δ' => cases e; exact k
theorem Zfi {c : TT} {t u : TS} {τ : Env -> Option Bool} {φ ψ : Env -> Option Out} (hc : VT G ow c τ) (h1 : VM G ow owN owB owC i t φ) (h2 : VM G ow owN owB owC i u ψ) : VM G ow owN owB owC i (U8 c t u) (sIf τ φ ψ) := fun H0 av A σ H δ R o e De k => by
 unfold sIf at e
 cases he : τ δ with
 | none => rw [he] at e; cases e
 | some b =>
  rw [he] at e
  refine hc H0 av A σ H δ R.view b he _ fun H' s => ?_
  cases b with
  | true => exact XY (h1 H0 av A σ H' δ (R.mono s) o e De k)
  | false => exact XX (h2 H0 av A σ H' δ (R.mono s) o e De k)
theorem ZeL {te : TE} {q : Ql} {ε : Env -> Option D} (h : VE G ow te q ε) : VM G ow owN owB owC i (Ug te) (Zu ε) := fun H0 av A σ H δ R o e De k => by
 unfold Zu at e
 cases he : ε δ with
 | none => rw [he] at e; cases e
 | some d =>
  rw [he] at e
  cases e
  exact h H0 av A σ H δ R.view d he _ fun v H' s r => k v H' (R.view.same.trans s) r.any
def VIr (G : Cn) (ow : List Nat) (wi : TI) (ι : Env -> Option (List D)) : Prop :=
 ∀ H0 av A σ H δ, ER G ow H0 av A σ H δ -> ∀ xs, ι δ = some xs -> ∀ R : It -> Hp -> Prop, (∀ J H1, Same H H1 -> Vr G.1 (fun _ => True) J xs (fun _ => none) -> (∀ x ∈ xs, Zi x = true) -> R J H1) -> wi σ H R
theorem Zbu {lo c : Int} {n : Nat} : ∀ x ∈ ZD lo c n, Zi x = true := fun x hx => by
 obtain ⟨k, _, rfl⟩ := List.mem_map.mp hx
 rfl
theorem ZaP {ta : TA} {q : Ql} {a : Env -> Option (List D)} (h : VA G ow ta q a) (hl : ∀ δ ds, a δ = some ds -> ds.length = 1) : VIr G ow (Qd ta) (ZL a) := fun H0 av A σ H δ E xs e R k => by
 unfold ZL at e
 cases he : a δ with
 | none => rw [he] at e; cases e
 | some ds =>
  rw [he] at e
  refine h H0 av A σ H δ E ds he _ fun vs H1 s r => ?_
  have hln := hl δ ds he
  split at e
  · rename_i j he2
    cases he2
    by_cases hz : -(2 ^ 62) <= j /\ j < 2 ^ 62
    · rw [if_pos hz] at e
      cases e
      exact ⟨j, ql1 r, hz.1, hz.2, k _ H1 s QK Zbu⟩
    · rw [if_neg hz] at e; cases e
  · rename_i he2; cases he2; simp at hln
  · rename_i he2; cases he2; simp at hln
  · cases e
theorem Zcx {ta : TA} {q : Ql} {a : Env -> Option (List D)} (h : VA G ow ta q a) (hl : ∀ δ ds, a δ = some ds -> ds.length = 2) : VIr G ow (Jz ta) (ZL a) := fun H0 av A σ H δ E xs e R k => by
 unfold ZL at e
 cases he : a δ with
 | none => rw [he] at e; cases e
 | some ds =>
  rw [he] at e
  refine h H0 av A σ H δ E ds he _ fun vs H1 s r => ?_
  have hln := hl δ ds he
  split at e
  · rename_i he2; cases he2; simp at hln
  · rename_i i j he2
    cases he2
    by_cases hz : -(2 ^ 62) <= i /\ i < 2 ^ 62 /\ -(2 ^ 62) <= j /\ j < 2 ^ 62
    · rw [if_pos hz] at e
      cases e
      exact ⟨i, j, ql2 r, hz, k _ H1 s QK Zbu⟩
    · rw [if_neg hz] at e; cases e
  · rename_i he2; cases he2; simp at hln
  · cases e
theorem QP {wi : TI} {tb : TS} {ι : Env -> Option (List D)} {φ : Env -> Option Out} (k' : Nat) (hk : k' ≠ i) (hko : ow.contains k' = false) (hn : G.2 k' = none) (hi : VIr G ow wi ι) (hb : VM G ow ow ow ow i tb φ) : VM G ow ow owB owC i (Qe wi (YJ k') tb) (ZP ι (Zt k') φ) := fun H0 av A σ H δ R o e De k => by
 unfold ZP at e
 cases he : ι δ with
 | none => rw [he] at e; cases e
 | some xs =>
  rw [he] at e
  have e : ZA (Zt k') φ xs δ = some o := e
  refine hi H0 av A σ H δ R.view xs he _ fun J H1 s1 W hsc => ?_
  refine ⟨fun j m σ' H' => m = xs.length - j /\ j <= xs.length /\ ∃ A' δ', MR G ow i H0 av A' σ' H' δ' /\ ZA (Zt k') φ (xs.drop j) δ' = some o, ⟨xs.length, by simp, Nat.zero_le _, A, δ, R.mono s1, e⟩, ?_⟩
  rintro j m σ' H' ⟨rfl, hle, A', δ', R', e'⟩
  obtain ⟨w1, w2, w3⟩ := W H' (fun b o z => by cases z)
  by_cases hlt : j < xs.length
  · refine .inr ⟨w1 j hlt, fun σ2 H2 => ∃ A2 δ2, MR G ow i H0 av A2 σ2 H2 δ2 /\ ZA (Zt k') φ (xs.drop (j + 1)) δ2 = some o, fun σ2 H2 ⟨A2, δ2, E2, e2⟩ => ⟨xs.length - (j + 1), by omega, rfl, hlt, A2, δ2, E2, e2⟩, fun v H2 y => ?_⟩
    have hx : xs[j]? = some xs[j] := List.getElem?_eq_getElem hlt
    obtain ⟨s2, rep⟩ := w2 j _ v H2 hx y
    have hs := hsc xs[j] (List.getElem_mem hlt)
    have ev : v = val xs[j] := (rep (fun _ => False) (fun _ z => z.elim) (fun _ z => z.elim)).val hs
    subst ev
    rw [List.drop_eq_getElem_cons hlt] at e'
    unfold ZA at e'
    have e' : (match φ (δ'.set k' (some xs[j])) with
     | none => none
     | some (.nx δ2) => ZA (Zt k') φ (xs.drop (j + 1)) δ2
     | some (.ct δ2) => ZA (Zt k') φ (xs.drop (j + 1)) δ2
     | some (.bk δ2) => some (.nx δ2)
     | some (.rt d) => some (.rt d)) = some o := e'
    have R2 := (R'.mono s2).set (owN := ow) hs hk (fun j => by
     have : k' ∉ ow := by simpa using hko
     exact ⟨fun h => ⟨h, fun z => this (z ▸ h)⟩, fun h => h.1⟩) hn
    cases hφ : φ (δ'.set k' (some xs[j])) with
    | none => rw [hφ] at e'; cases e'
    | some o1 =>
     rw [hφ] at e'
     refine hb _ av _ _ H2 _ R2 o1 hφ _ ?_
     cases o1 with
     | nx δ2 => exact fun A4 σ4 H4 E4 => ⟨A4, δ2, E4, e'⟩
     | ct δ2 => exact fun A4 σ4 H4 E4 => ⟨A4, δ2, E4, e'⟩
     | bk δ2 => cases e'; exact fun A4 σ4 H4 E4 => k A4 σ4 H4 E4
     | rt d => cases e'; exact k
  · have ei : j = xs.length := by omega
    subst ei
    rw [List.drop_length] at e'
    cases e'
    exact .inl ⟨w3 _ (Nat.le_refl _), k A' σ' H' R'⟩
def Zy (i : Nat) (φ : Env -> Option Out) (δ : Env) : Option Out := match φ (δ.set i none) with
 | some (.nx δ') => match δ'[i]? with
  | some none => some (.nx (δ'.set i ((δ[i]?).getD none)))
  | _ => none
 | some (.rt d) => some (.rt d)
 | _ => none
theorem X3 {t : TS} {φ : Env -> Option Out} (h : ∀ v, VS (G.keep i v) ow owN [] [] t φ) (ho : owN.contains i = false) : VM G ow owN owB owC i t (Zy i φ) := fun H0 av A σ H δ R o e De k => by
 obtain ⟨a, bs, rows, hd, M, h0, E⟩ := R.ex
 unfold Zy at e
 cases hp : φ (δ.set i none) with
 | none => rw [hp] at e; cases e
 | some o1 =>
  rw [hp] at e
  refine h (.ref a) _ _ A σ H _ E o1 hp De ?_
  cases o1 with
  | nx δ1 =>
   dsimp only at e
   intro A' σ' H' E'
   have hs : Same (ovl H0 H (a :: bs)) H' := E'.same
   have hF : ∀ x ∈ a :: bs, H' x = H x := fun x hx => by
    obtain ⟨vs, q⟩ := M.there hx
    rw [q]
    exact hs x _ (by rw [Yk hx]; exact q)
   cases hi : δ1[i]? with
   | none => rw [hi] at e; cases e
   | some z =>
    rw [hi] at e
    cases z with
    | some y => cases e
    | none =>
     dsimp only at e
     rw [hd] at e
     have e : some (Out.nx (δ1.set i (some (mat rows)))) = some o := e
     cases e
     have hil : i < δ1.length := (List.getElem?_eq_some_iff.mp hi).1
     have M' : Mx H' a bs rows := ⟨(hF a List.mem_cons_self).trans M.top, M.len, M.nd, M.na, fun k b r h1 h2 => (hF b (List.mem_cons_of_mem _ (List.mem_of_getElem? h1))).trans (M.row k b r h1 h2), M.sc⟩
     have eo : ovl H0 H' (a :: bs) = ovl H0 H (a :: bs) := by
      funext x
      by_cases hx : x ∈ a :: bs
      · rw [Yk hx, Yk hx, hF x hx]
      · rw [ZX hx, ZX hx]
     have es : (δ1.set i (some (mat rows))).set i none = δ1 := by
      rw [List.set_set]
      apply List.ext_getElem?
      intro j
      by_cases hj : j = i
      · subst hj
        rw [List.getElem?_set_self hil, hi]
      · rw [List.getElem?_set_ne (Ne.symm hj)]
     exact k A' σ' H' ⟨by simpa using ho, (fun z e => by
      obtain ⟨v, h1, h2⟩ := R.nn z e
      have h3 := E.kept i _ XE
      rw [h2] at h3
      cases h3
      exact ⟨_, h1, E'.kept i _ XE⟩), R.avd, a, bs, rows, List.getElem?_set_self hil, M', h0, by rw [eo, es]; exact E'⟩
  | rt d =>
   cases e
   intro v H' s r
   refine k v H' (fun b o q => s b o ?_) (r.av fun b z => .inl (.inl z))
   have nb : b ∉ a :: bs := fun z => by rw [h0 b z] at q; cases q
   rw [ZX nb]
   exact q
  | bk δ1 => cases e
  | ct δ1 => cases e
end
end DL
namespace DL
open PySem PySem.Spec L2
theorem ZdA {α : Type} {xs : List α} {n : Int} {j : Nat} {x : α} (h : ixN xs.length n = some j) (hx : xs[j]? = some x) : atI xs n = some x := by
 unfold atI
 rw [h]
 exact hx
section
variable {H : Hp} {a b : Addr} {bs : List Addr} {rows : List (List D)} {j : Nat} {r r' : List D}
theorem Mx.put (M : Mx H a bs rows) (hb : bs[j]? = some b) (hr : rows[j]? = some r) (hs : r'.all Zi = true) : Mx (upd H b (.lst (r'.map val))) a bs (rows.set j r') := by
 have hbm : b ∈ bs := List.mem_of_getElem? hb
 have hab : a ≠ b := fun z => M.na (z ▸ hbm)
 have hjl : j < rows.length := (List.getElem?_eq_some_iff.mp hr).1
 refine ⟨by rw [Zn hab]; exact M.top, by rw [List.length_set]; exact M.len, M.nd, M.na, fun k b' r1 h1 h2 => ?_, fun r1 h1 => ?_⟩
 · by_cases hk : k = j
   · subst hk
     rw [hb] at h1
     cases h1
     rw [List.getElem?_set_self hjl] at h2
     cases h2
     exact ZE
   · rw [List.getElem?_set_ne (Ne.symm hk)] at h2
     have : b' ≠ b := fun z => hk (by
      subst z
      obtain ⟨p1, k1⟩ := (List.getElem?_eq_some_iff.mp h1)
      obtain ⟨p2, k2⟩ := (List.getElem?_eq_some_iff.mp hb)
      rcases Nat.lt_trichotomy k j with h | h | h
      · exact absurd (k1.trans k2.symm) (List.pairwise_iff_getElem.mp M.nd k j p1 p2 h)
      · exact h
      · exact absurd (k2.trans k1.symm) (List.pairwise_iff_getElem.mp M.nd j k p2 p1 h))
     rw [Zn this]
     exact M.row k b' r1 h1 h2
 · rcases List.mem_or_eq_of_mem_set h1 with h1 | rfl
   · exact M.sc r1 h1
   · exact hs
theorem ZaF : (rows.map D.lst).set j (.lst r') = (rows.set j r').map D.lst := by rw [List.map_set]
theorem ZdB {d : D} (h : (rows.map D.lst)[j]? = some d) : ∃ r, rows[j]? = some r /\ d = .lst r := by
 rw [List.getElem?_map] at h
 cases hr : rows[j]? with
 | none => rw [hr] at h; cases h
 | some r => rw [hr] at h; cases h; exact ⟨r, rfl, rfl⟩
theorem Mx.at (M : Mx H a bs rows) (hr : rows[j]? = some r) : ∃ b, bs[j]? = some b /\ H b = some (.lst (r.map val)) := by
 have hjl : j < bs.length := by rw [M.len]; exact (List.getElem?_eq_some_iff.mp hr).1
 exact ⟨bs[j], List.getElem?_eq_getElem hjl, M.row j _ r (List.getElem?_eq_getElem hjl) hr⟩
end
section
variable {cA : Kn} {G : Cn} {ow owN owB owC ow1 : List Nat} {i : Nat}
theorem Zbv {ε : Env -> Option D} {δ : Env} {d : D} (h : YX ε δ = some d) : Zi d = true := by
 unfold YX at h
 cases hx : ε δ with
 | none => rw [hx] at h; cases h
 | some d' =>
  rw [hx] at h
  by_cases hs : Zi d' = true
  · have e' : d' = d := by simpa [hs] using h
    rw [<- e']; exact hs
  · simp [hs] at h
theorem ZdC {r : List D} {l : Nat} {d : D} (h : r.all Zi = true) (hd : Zi d = true) : (r.set l d).all Zi = true := by
 rw [List.all_eq_true] at h ⊢
 intro x hx
 rcases List.mem_or_eq_of_mem_set hx with hx | rfl
 · exact h x hx
 · exact hd
def Xr (i : Nat) (κ1 κ2 ε : Env -> Option D) (δ : Env) : Option Out := match YX ε δ, Za i δ, κ1 δ, κ2 δ with
 | some d, some (.lst xs), some (.int n), some (.int m) => match ixN xs.length n with
  | some j => match xs[j]? with
   | some (.lst r) => match ixN r.length m with
    | some l => some (.nx (δ.set i (some (.lst (xs.set j (.lst (r.set l d)))))))
    | none => none
   | _ => none
  | none => none
 | _, _, _, _ => none
theorem Zbe {κ1 κ2 ε : Env -> Option D} {δ : Env} {o : Out} (h : Xr i κ1 κ2 ε δ = some o) : ∃ d xs n m j r l, YX ε δ = some d /\ Za i δ = some (.lst xs) /\ κ1 δ = some (.int n) /\ κ2 δ = some (.int m) /\ ixN xs.length n = some j /\ xs[j]? = some (.lst r) /\ ixN r.length m = some l /\ o = .nx (δ.set i (some (.lst (xs.set j (.lst (r.set l d)))))) := by
 unfold Xr at h
 split at h
 · rename_i d xs n m h1 h2 h3 h4
   split at h
   · rename_i j hj
     split at h
     · rename_i r hr
       split at h
       · rename_i l hl
         exact ⟨d, xs, n, m, j, r, l, h1, h2, h3, h4, hj, hr, hl, (Option.some.inj h).symm⟩
       · cases h
     · cases h
   · cases h
 · cases h
theorem Zbw {te t1 t2 : TE} {q q1 q2 : Ql} {ε κ1 κ2 : Env -> Option D} (h : VE G ow te q ε) (h1 : VE G ow t1 q1 κ1) (h2 : VE G ow t2 q2 κ2) : VM G ow ow owB owC i (YT te (Ju (tOp (Ut G.1.K) (Yq i) t1) t2 rSetL)) (Xr i κ1 κ2 ε) := fun H0 av A σ H δ R o e De k => by
 obtain ⟨d, xs, n, m, j, r, l, e1, e2, e3, e4, e5, e6, e7, rfl⟩ := Zbe e
 refine h.scal H0 av A σ H δ R.view d e1 _ fun v H1 s1 r1 => ?_
 have hs := Zbv e1
 have ev : v = val d := (RepT.r r1).val hs
 subst ev
 have R1 := R.mono s1
 obtain ⟨a, bs, rows, hd, M, h0, E⟩ := R1.ex
 have ex : xs = rows.map D.lst := by
  have := Ya e2
  rw [hd] at this
  cases this
  rfl
 subst ex
 obtain ⟨r0, hr, er⟩ := ZdB e6
 cases er
 obtain ⟨b, hb, hH⟩ := M.at hr
 refine ⟨.ref a, E.kept i _ XE, h1 H0 av A σ H1 δ R1.view _ e3 _ fun y H2 s2 r2 => ?_⟩
 have ey : y = .int n := r2.any
 subst ey
 refine .inl ⟨a, bs.map V.ref, n, .ref b, rfl, rfl, SqL.of (s2 _ _ M.top), ZdA (j := j) (by rw [List.length_map] at e5 ⊢; rw [M.len]; exact e5) (by rw [List.getElem?_map, hb]; rfl), ?_⟩
 have R2 := R1.mono s2
 refine h2 H0 av A σ H2 δ R2.view _ e4 _ fun z H3 s3 r3 => ?_
 have ez : z = .int m := r3.any
 subst ez
 have s23 := s2.trans s3
 have M3 := M.mono s23
 refine ⟨b, r.map val, m, l, rfl, rfl, s23 _ _ hH, by rw [List.length_map]; exact e7, k A σ _ ?_⟩
 rw [ZaF]
 rw [<- List.map_set]
 have hrs : (r.set l d).all Zi = true := ZdC (M.sc r (List.mem_of_getElem? hr)) hs
 refine MR.turn R.ni R.nn R.avd hd M3 h0 (by rw [QO M s23]; exact E.mono s23) (M3.put hb hr hrs) fun x hx => Zn fun z => hx (z ▸ List.mem_cons_of_mem _ (List.mem_of_getElem? hb))
def X4 (i k : Nat) (δ : Env) : Option Out := match Za i δ, Za k δ with
 | some (.lst xs), some (.lst r) => if xs.length < sizeLine /\ r.all Zi = true then some (.nx ((δ.set k none).set i (some (.lst (xs ++ [.lst r]))))) else none
 | _, _ => none
theorem ZdD (k' : Nat) (hk : k' ≠ i) (hi : ow.contains k' = true) (hn : G.2 k' = none) (h1 : sub owN ow = true) (h2 : owN.contains k' = false) (h3 : sub ow (k' :: owN) = true) : VM G ow owN owB owC i (U7 (tBM G.1.K "list" rAppend (Yq i) (Xy (Yq k') tNil))) (X4 i k') := fun H0 av A σ H δ R o e De k => by
 obtain ⟨a, bs, rows, hd, M, h0, E⟩ := R.ex
 unfold X4 at e
 split at e
 · rename_i xs r e1 e2
   by_cases hz : xs.length < sizeLine /\ r.all Zi = true
   · rw [if_pos hz] at e
     cases e
     have ex : xs = rows.map D.lst := by
      have := Ya e1
      rw [hd] at this
      cases this
      rfl
     subst ex
     have hw := UG h1 h2 h3
     have hi' : k' ∈ ow := by simpa using hi
     have hil : i < δ.length := (List.getElem?_eq_some_iff.mp hd).1
     have nF : ∀ j x, A j = some x -> x ∉ a :: bs := fun j x e z => by
      have := E.fr j x e
      rw [Yk z] at this
      obtain ⟨vs, q⟩ := M.there z
      rw [q] at this; cases this
     cases hA : A k' with
     | none => exact absurd hA (E.dom' k' hi')
     | some b =>
      have e2' : (δ.set i none)[k']? = some (some (.lst r)) := by rw [List.getElem?_set_ne (Ne.symm hk)]; exact Ya e2
      obtain ⟨v, g1, _, g3⟩ := E.var k' _ e2'
      obtain ⟨rfl, vs, q1, q2⟩ := g3 b hA
      have ev : vs = r.map val := q2.vals hz.2
      subst ev
      have hbF : b ∉ a :: bs := nF k' b hA
      have hba : b ≠ a := fun z => hbF (z ▸ List.mem_cons_self)
      have hbb : b ∉ bs := fun z => hbF (List.mem_cons_of_mem _ z)
      refine ⟨.ref a, E.kept i _ XE, .inl ⟨rfl, _, SqL.of M.top⟩, .ref b, g1, a, bs.map V.ref, .ref b, rfl, rfl, M.top, ?_, k (fun j => if j = k' then none else A j) σ _ ?_⟩
      · have := hz.1
        rw [List.length_map] at this ⊢
        rw [M.len]
        exact this
      · have hM' : Mx (upd H a (.lst (bs.map V.ref ++ [V.ref b]))) a (bs ++ [b]) (rows ++ [r]) := by
         refine ⟨by rw [ZE, List.map_append]; rfl, by rw [List.length_append, List.length_append, M.len]; rfl, ?_, ?_, fun n b' r' g1 g2 => ?_, fun r' hr' => ?_⟩
         · rw [List.nodup_append]
           refine ⟨M.nd, by simp, fun x hx y hy => ?_⟩
           rw [List.mem_singleton.mp hy]
           exact fun z => hbb (z ▸ hx)
         · intro z
           rcases List.mem_append.mp z with z | z
           · exact M.na z
           · exact hba (List.mem_singleton.mp z).symm
         · by_cases hn' : n < bs.length
           · rw [List.getElem?_append_left hn'] at g1
             rw [List.getElem?_append_left (by rw [<- M.len]; exact hn')] at g2
             have : b' ≠ a := fun z => M.na (z ▸ List.mem_of_getElem? g1)
             rw [Zn this]
             exact M.row n b' r' g1 g2
           · rw [List.getElem?_append_right (by omega)] at g1
             rw [List.getElem?_append_right (by rw [<- M.len]; omega), <- M.len] at g2
             have hnn : n - bs.length = 0 := by
              by_cases z : n - bs.length = 0
              · exact z
              · rw [List.getElem?_eq_none (by simp; omega)] at g1; cases g1
             rw [hnn] at g1 g2
             cases g1
             cases g2
             rw [Zn hba]
             exact q1
         · rcases List.mem_append.mp hr' with z | z
           · exact M.sc r' z
           · rw [List.mem_singleton.mp z]; exact hz.2
        have h0b : H0 b = none := by
         have := E.fr k' b hA
         rw [ZX hbF] at this
         exact this
        have hF' : ∀ x, x ∈ a :: (bs ++ [b]) ↔ x ∈ a :: bs \/ x = b := fun x => by simp [or_assoc]
        have em : D.lst (rows.map D.lst ++ [.lst r]) = mat (rows ++ [r]) := by unfold mat; rw [List.map_append]; rfl
        rw [em]
        have hdl : i < (δ.set k' none).length := by rw [List.length_set]; exact hil
        refine ⟨fun z => R.ni ((hw i).mp z).1, R.nn, R.avd, a, bs ++ [b], rows ++ [r], List.getElem?_set_self hdl, hM', fun x hx => ?_, ?_⟩
        · rcases (hF' x).mp hx with z | rfl
          · exact h0 x z
          · exact h0b
        · rw [List.set_set, List.set_comm _ _ hk]
          have less : ∀ x, AV (avF av (a :: (bs ++ [b]))) (fun j => if j = k' then none else A j) x -> AV (avF av (a :: bs)) A x := fun x z => by
           rcases z with (z | z) | ⟨j, z⟩
           · exact .inl (.inl z)
           · rcases (hF' x).mp z with z | rfl
             · exact .inl (.inr z)
             · exact .inr ⟨k', hA⟩
           · by_cases q : j = k'
             · simp [q] at z
             · simp [q] at z; exact .inr ⟨j, z⟩
          have hkp : ∀ x o, ¬ AV (avF av (a :: bs)) A x -> H x = some o -> upd H a (.lst (bs.map V.ref ++ [V.ref b])) x = some o := fun x o n e => by
           rw [Zn fun (z : x = a) => n (.inl (.inr (by rw [z]; exact List.mem_cons_self)))]; exact e
          have oj : ∀ j x, j ≠ k' -> A j = some x -> x ≠ b := fun j x hj e z => hj (E.inj j k' b (z ▸ e) hA)
          refine ⟨fun x o e => ?_, fun x z => ?_, fun j x e => ?_, fun j l x e1 e2 => ?_, fun j x e => ?_, fun j e => ?_, fun j hj => ?_, by rw [List.length_set]; exact E.len, fun j x e => ?_, E.kept, fun j d e => ?_⟩
          · by_cases hx : x ∈ a :: (bs ++ [b])
            · rw [Yk hx] at e; exact e
            · rw [ZX hx] at e
              have hx2 : x ∉ a :: bs := fun z => hx ((hF' x).mpr (.inl z))
              rw [Zn fun (z : x = a) => hx2 (by rw [z]; exact List.mem_cons_self)]
              exact E.same x o (by rw [ZX hx2]; exact e)
          · by_cases hx : x ∈ a :: (bs ++ [b])
            · rw [Yk hx]
              obtain ⟨vs, q⟩ := hM'.there hx
              rw [q]; exact fun z => by cases z
            · rw [ZX hx]
              exact R.avd x (z.resolve_right hx)
          · by_cases q : j = k'
            · simp [q] at e
            · simp [q] at e
              have nx : x ∉ a :: (bs ++ [b]) := fun z => ((hF' x).mp z).elim (nF j x e) (oj j x q e)
              rw [ZX nx]
              have := E.fr j x e
              rw [ZX (nF j x e)] at this
              exact this
          · by_cases q : j = k'
            · simp [q] at e1
            · by_cases q2 : l = k'
              · simp [q2] at e2
              · simp [q] at e1; simp [q2] at e2; exact E.inj j l x e1 e2
          · by_cases q : j = k'
            · simp [q] at e
            · simp [q] at e
              rw [Zn fun (z : x = a) => nF j x e (by rw [z]; exact List.mem_cons_self)]
              exact E.live j x e
          · by_cases q : j = k'
            · simp [q] at e
            · simp [q] at e; exact (hw j).mpr ⟨E.dom j e, q⟩
          · obtain ⟨g1, g2⟩ := (hw j).mp hj
            simp [g2]
            exact E.dom' j g1
          · have q : j ≠ k' := fun z => by
             rw [z] at e
             rw [X2 hk, hn] at e
             cases e
            simp only [q, if_false]
            exact E.pin j x e
          · have q : j ≠ k' := fun z => by
             rw [z] at e
             by_cases hl : k' < (δ.set i none).length
             · rw [List.getElem?_set_self hl] at e; cases e
             · rw [List.getElem?_eq_none (by rw [List.length_set]; omega)] at e; cases e
            obtain ⟨v, p1, p2, p3⟩ := E.var j d (by rw [List.getElem?_set_ne (Ne.symm q)] at e; exact e)
            refine ⟨v, p1, fun z => ?_, fun x z => ?_⟩
            · simp [q] at z
              exact ((p2 z).ext hkp).av fun y z => .inl (less y z)
            · simp [q] at z
              obtain ⟨r1, r2⟩ := p3 x z
              have xa : x ≠ a := fun w => nF j x z (w ▸ List.mem_cons_self)
              refine ⟨r1, ?_⟩
              cases d with
              | lst xs => obtain ⟨vs, q1, q2⟩ := r2; exact ⟨vs, by rw [Zn xa]; exact q1, (q2.ext hkp).av fun y z => .inl (less y z)⟩
              | obj c ks xs => obtain ⟨dx, vs, q1, q0, q2⟩ := r2; exact ⟨dx, vs, by rw [Zn xa]; exact q1, q0, (q2.ext hkp).av fun y z => .inl (less y z)⟩
              | dct ks xs => obtain ⟨vs, q1, q0, q2⟩ := r2; exact ⟨vs, by rw [Zn xa]; exact q1, q0, (q2.ext hkp).av fun y z => .inl (less y z)⟩
              | dtt ks xs => obtain ⟨vs, q1, q0, q2⟩ := r2; exact ⟨vs, by rw [Zn xa]; exact q1, q0, (q2.ext hkp).av fun y z => .inl (less y z)⟩
              | _ => exact r2
   · rw [if_neg hz] at e; cases e
 · cases e
end
end DL
namespace DL
open PySem PySem.Spec L2
def VFM (G : Cn) (ow : List Nat) (te : TE) (ε : Env -> Option D) : Prop :=
 ∀ H0 av A σ H δ, ER G ow H0 av A σ H δ -> ∀ d, ε δ = some d -> ∀ Q : VK, (∀ a bs rows H', Same H H' -> (∀ x ∈ a :: bs, H x = none) -> Mx H' a bs rows -> d = mat rows -> Q (.ref a) H') -> te σ H Q
def YB (i : Nat) (ε : Env -> Option D) (δ : Env) : Option Out := match ε δ with
 | some d => if i < δ.length then some (.nx (δ.set i (some d))) else none
 | none => none
section
variable {cA : Kn} {G : Cn} {ow owN owB owC ow1 : List Nat} {i : Nat}
theorem ZaQ {H0 H H' : Hp} {av : Addr -> Prop} {A : Nat -> Option Addr} {σ : L2.St} {δ : Env} {a : Addr} {bs : List Addr} {rows : List (List D)} (E : ER G ow H0 av A σ H δ) (hi : i ∉ ow) (hn : G.2 i = none) (hil : i < δ.length) (s : Same H H') (hf : ∀ x ∈ a :: bs, H x = none) (M : Mx H' a bs rows) :
 MR G ow i H0 av A (σ.set i (some (.ref a))) H' (δ.set i (some (mat rows))) := by
 have h0 : ∀ x ∈ a :: bs, H0 x = none := fun x hx => E.same.free (hf x hx)
 have nF : ∀ j x, A j = some x -> x ∉ a :: bs := fun j x e z => E.live j x e (hf x z)
 have E' := E.mono s
 refine ⟨hi, .none hn, E.avd, a, bs, rows, List.getElem?_set_self hil, M, h0, ?_⟩
 rw [List.set_set]
 refine ⟨fun b o e => ?_, fun x z => ?_, fun j x e => ?_, E.inj, E'.live, E.dom, E.dom', by rw [List.length_set, List.length_set]; exact E.len, fun j x e => ?_, fun j v e => ?_, fun j d e => ?_⟩
 · by_cases hx : b ∈ a :: bs
   · rw [Yk hx] at e; exact e
   · rw [ZX hx] at e; exact E'.same b o e
 · by_cases hx : x ∈ a :: bs
   · rw [Yk hx]
     obtain ⟨vs, q⟩ := M.there hx
     rw [q]; exact fun z => by cases z
   · rw [ZX hx]
     exact E.avd x (z.resolve_right hx)
 · rw [ZX (nF j x e)]
   exact E.fr j x e
 · have q : j ≠ i := fun z => by rw [z, XE] at e; cases e
   exact E.pin j x (by rw [X2 q] at e; exact e)
 · by_cases q : j = i
   · subst q
     rw [XE] at e
     cases e
     exact List.getElem?_set_self (by rw [E.len]; exact hil)
   · rw [X2 q] at e
     rw [List.getElem?_set_ne (Ne.symm q)]
     exact E.kept j v e
 · have q : j ≠ i := fun z => by
    rw [z, List.getElem?_set_self hil] at e
    cases e
   rw [List.getElem?_set_ne (Ne.symm q)] at e
   obtain ⟨v, h1, h2, h3⟩ := E.var j d e
   have more : ∀ b, AV (avF av (a :: bs)) A b -> AV av A b \/ H b = none := fun b z => by
    rcases z with (z | z) | z
    · exact .inl (.inl z)
    · exact .inr (hf b z)
    · exact .inl (.inr z)
   refine ⟨v, by rw [List.getElem?_set_ne (Ne.symm q)]; exact h1, fun z => ((h2 z).av more).same s, fun b z => ?_⟩
   obtain ⟨r1, r2⟩ := h3 b z
   refine ⟨r1, ?_⟩
   cases d with
   | lst xs => obtain ⟨vs, q1, q2⟩ := r2; exact ⟨vs, s _ _ q1, (q2.av more).same s⟩
   | obj c ks xs => obtain ⟨dx, vs, q1, q0, q2⟩ := r2; exact ⟨dx, vs, s _ _ q1, q0, (q2.av more).same s⟩
   | dct ks xs => obtain ⟨vs, q1, q0, q2⟩ := r2; exact ⟨vs, s _ _ q1, q0, (q2.av more).same s⟩
   | dtt ks xs => obtain ⟨vs, q1, q0, q2⟩ := r2; exact ⟨vs, s _ _ q1, q0, (q2.av more).same s⟩
   | _ => exact r2
theorem WantsM.of {H0 : Hp} {av : Addr -> Prop} {De : Ends} {o : Out} (k : Zd6 G owN owB owC H0 av De o) : WantsM G owN owB owC i H0 av De o := by
 cases o with
 | nx δ' => exact fun A' σ' H' R => k A' σ' H' R.view
 | rt d => exact k
 | bk δ' => exact fun A' σ' H' R => k A' σ' H' R.view
 | ct δ' => exact fun A' σ' H' R => k A' σ' H' R.view
theorem ZeM {te : TE} {u : TS} {ε : Env -> Option D} {ψ : Env -> Option Out} (i : Nat) (hi : ow.contains i = false) (hn : G.2 i = none) (h1 : VFM G ow te ε) (h2 : VM G ow owN owB owC i u ψ) : VS G ow owN owB owC (Vd (YT te (YJ i)) u) (Zd (YB i ε) ψ) := fun H0 av A σ H δ E o e De k => by
 unfold Zd YB at e
 cases he : ε δ with
 | none => rw [he] at e; cases e
 | some d =>
  rw [he] at e
  dsimp only at e
  by_cases hil : i < δ.length
  · rw [if_pos hil] at e
    dsimp only at e
    refine h1 H0 av A σ H δ E d he _ fun a bs rows H' s hf M hd => ?_
    subst hd
    exact h2 H0 av A _ H' _ (ZaQ E (by simpa using hi) hn hil s hf M) o e De (WantsM.of k)
  · rw [if_neg hil] at e; cases e
def FW (H0 : Hp) (De : Ends) (d : D) : Prop := ∀ a bs rows H', Same H0 H' -> (∀ x ∈ a :: bs, H0 x = none) -> Mx H' a bs rows -> d = mat rows -> De.rt (.ref a) H'
def VSF (G : Cn) (ow : List Nat) (ts : TS) (φ : Env -> Option Out) : Prop := ∀ H0 av A σ H δ, ER G ow H0 av A σ H δ -> ∀ d, φ δ = some (.rt d) -> ∀ De : Ends, FW H0 De d -> ts De σ H
def VMF (G : Cn) (ow : List Nat) (i : Nat) (ts : TS) (φ : Env -> Option Out) : Prop := ∀ H0 av A σ H δ, MR G ow i H0 av A σ H δ -> ∀ d, φ δ = some (.rt d) -> ∀ De : Ends, FW H0 De d -> ts De σ H
def Y3 (φ ψ : Env -> Option Out) (δ : Env) : Option Out := match φ δ with
 | some (.nx δ') => ψ δ'
 | _ => none
theorem ZdE : VMF G ow i (Ug (Yq i)) (Zu (Za i)) := fun H0 av A σ H δ R d e De k => by
 obtain ⟨a, bs, rows, hd, M, h0, E⟩ := R.ex
 have e2 : Za i δ = some (mat rows) := by unfold Za; rw [hd]
 unfold Zu at e
 rw [e2] at e
 cases e
 exact ⟨.ref a, E.kept i _ XE, k a bs rows H R.view.same h0 M rfl⟩
theorem ZdF {t u : TS} {φ ψ : Env -> Option Out} (h1 : VM G ow ow1 [] [] i t φ) (h2 : VMF G ow1 i u ψ) : VMF G ow i (Vd t u) (Y3 φ ψ) := fun H0 av A σ H δ R d e De k => by
 unfold Y3 at e
 split at e
 · rename_i δ' hp
   exact h1 H0 av A σ H δ R _ hp _ fun A' σ' H' R' => h2 H0 av A' σ' H' δ' R' d e De k
 · cases e
theorem ZdG {te : TE} {u : TS} {ε : Env -> Option D} {ψ : Env -> Option Out} (i : Nat) (hi : ow.contains i = false) (hn : G.2 i = none) (h1 : VFM G ow te ε) (h2 : VMF G ow i u ψ) : VSF G ow (Vd (YT te (YJ i)) u) (Y3 (YB i ε) ψ) := fun H0 av A σ H δ E d e De k => by
 unfold Y3 YB at e
 cases he : ε δ with
 | none => rw [he] at e; cases e
 | some d' =>
  rw [he] at e
  dsimp only at e
  by_cases hil : i < δ.length
  · rw [if_pos hil] at e
    dsimp only at e
    refine h1 H0 av A σ H δ E d' he _ fun a bs rows H' s hf M hd => ?_
    subst hd
    exact h2 H0 av A _ H' _ (ZaQ E (by simpa using hi) hn hil s hf M) d e De k
  · rw [if_neg hil] at e; cases e
def runF (N : Nat) (φ : Env -> Option Out) (ds : List D) : Option D := match φ (ds.map some ++ List.replicate (N - ds.length) none) with
 | some (.rt d) => some d
 | _ => none
def spM (cA : Kn) (n : Nat) (m : List D -> Option D) : Sp := fun vs H Q _ => ∃ av ds d, (∀ a, av a -> H a ≠ none) /\ RepL cA av H ds vs /\ ds.length = n /\ m ds = some d /\ ∀ a bs rows H', Same H H' -> (∀ x ∈ a :: bs, H x = none) -> Mx H' a bs rows -> d = mat rows -> Q (.ref a) H'
theorem ZdH : VFM G ow (Qj tNil) (ZQ eNil) := fun H0 av A σ H δ E d e Q k => by
 refine ⟨Nat.zero_le _, fun p hp => ?_⟩
 have ed : d = mat [] := by
  have : (some (D.lst []) : Option D) = some d := e
  exact (Option.some.inj this).symm
 refine k p [] [] _ (Z0 hp) (fun x hx => ?_) ⟨ZE, rfl, List.nodup_nil, (fun z => by cases z), (fun k b r h1 h2 => by simp at h1), (fun r h => by cases h)⟩ ed
 rw [List.mem_singleton.mp hx]
 exact hp
theorem Zcy {n : Nat} {m : List D -> Option D} {t : TA} {q : Ql} {α : Env -> Option (List D)} {E0 : XK} (dds : List D) (hd : dds.all Zi = true) (h : VA G ow t q α) : VFM G ow (Qk (spM G.1 n m) (dds.map val) E0 t) (Zw n m dds α) := fun H0 av A σ H δ E d e Q k => by
 unfold Zw at e
 cases he : α δ with
 | none => rw [he] at e; cases e
 | some ds =>
  rw [he] at e
  dsimp only at e
  by_cases hz : (ds ++ dds).length = n
  · rw [if_pos hz] at e
    refine h H0 av A σ H δ E ds he _ fun vs H1 s1 r1 => ?_
    exact ⟨av, ds ++ dds, d, (E.mono s1).avH, r1.any.append (.of_vals hd), hz, e, fun a bs rows H' s hf M hd => k a bs rows H' (s1.trans s) (fun x hx => s1.free (hf x hx)) M hd⟩
  · rw [if_neg hz] at e; cases e
theorem VFM.cl {te : TE} {ε : Env -> Option D} (h : VFM G ow te ε) : VE G ow te .cl ε := fun H0 av A σ H δ E d e Q k =>
 h H0 av A σ H δ E d e Q fun a bs rows H' s hf M hd => by
  subst hd
  exact k _ H' s (M.rep fun x hx z => E.avl x z (hf x hx)).t
end
section
variable {P : Program} {w : World} {K : PySem.W.Frag} {mg : Str -> Option Value} {base : Heap} {cA : Kn}
theorem Zfj {x qual : Str} {st : Stmt} {f : Addr} {fd : FuncData} {N ps : List Str} {k : Nat} {φ : Env -> Option Out} {body : List Stmt} {scope : Scope} {n : Nat} {m : List D -> Option D} (F : FunX K x qual st f fd) (S : FnScope N ps (Zo st)) (hS : Zo st = scope) (hB : ZI st = body)
 (hbody : ∀ (cdv : Value) (A : Around) (outer : List PySem.Env) (s : Shared) (H : Hp) (E : XK), Room k (A.deeper (PyProof.Rows.envOfC qual scope s.heap.objs.size f cdv)) ->
   ∃ t, PSs (Yu CX0 P w K mg base N qual scope f cdv A outer s H E).nox body t /\ VSF ⟨cA, fun _ => none⟩ [] t φ) (hm : m = runF N.length φ) (hn : ps.length = n) : FnOk P w K mg base CX0 (k + 1) f fd ps (spM cA n m) := by
 subst hS hB hm hn
 refine F.ok S (fun vs H Q E h => ?_) fun cdv A outer s H vs Q E hr h => ?_
 · obtain ⟨av, ds, d, _, r, hl, _⟩ := h
   rw [<- r.length, hl]
 · obtain ⟨av, ds, d, ha, r, hl, hm, q⟩ := h
   obtain ⟨t, ht, hv⟩ := hbody cdv A outer s H E hr
   refine ⟨t, ht, ?_⟩
   unfold runF at hm
   split at hm
   · rename_i d' hφ
     cases hm
     exact hv H av _ _ H _ (ZaJ ha r) _ hφ _ fun a bs rows H' s' hf M hd => q a bs rows H' s' hf M hd
   · cases hm
end
end DL
namespace DL
open PySem PySem.Spec L2
section
variable {cA : Kn} {G : Cn} {ow : List Nat}
structure RowsAt (H0 H : Hp) (bs : List Addr) (rows : List (List D)) : Prop where
 len : bs.length = rows.length
 nd : bs.Nodup
 row : ∀ (k : Nat) (b : Addr) (r : List D), bs[k]? = some b -> rows[k]? = some r -> H b = some (.lst (r.map val))
 fr : ∀ b ∈ bs, H0 b = none
 sc : ∀ r ∈ rows, r.all Zi = true
theorem RowsAt.same {H0 H H' : Hp} {bs : List Addr} {rows : List (List D)} (R : RowsAt H0 H bs rows) (s : Same H H') : RowsAt H0 H' bs rows := ⟨R.len, R.nd, fun k b r h1 h2 => s _ _ (R.row k b r h1 h2), R.fr, R.sc⟩
end
end DL
namespace DL
open PySem PySem.Spec L2
section
variable {cA : Kn} {G : Cn} {ow owN owB owC ow1 : List Nat} {i : Nat}
open Classical in
end
section
variable {P : Program} {w : World} {K : PySem.W.Frag} {mg : Str -> Option Value} {base : Heap} {cA : Kn}
end
end DL
namespace L2
open PySem PySem.Spec PySem.W PyProof.Rows
end L2
namespace DL
open PySem PySem.Spec L2
section
variable {cA : Kn} {G : Cn} {ow owN owB owC ow1 : List Nat} {i : Nat}
theorem MR.own {H0 H : Hp} {av : Addr -> Prop} {A : Nat -> Option Addr} {σ : L2.St} {δ : Env} {k : Nat} {xs : List D} {p : Addr} (R : MR G ow i H0 av A σ H δ) (hs : xs.all Zi = true) (hp : H p = none) (hk : k ≠ i) (hw : ∀ j, j ∈ ow1 ↔ j ∈ ow \/ j = k) (hn : G.2 k = none) : MR G ow1 i H0 av (fun j => if j = k then some p else A j) (σ.set k (some (.ref p))) (upd H p (.lst (xs.map val))) (δ.set k (some (.lst xs))) := by
 obtain ⟨a, bs, rows, hd, M, h0, E⟩ := R.ex
 refine ⟨fun z => ((hw i).mp z).elim R.ni fun z => hk z.symm, R.nn.set hk, R.avd, a, bs, rows, by rw [List.getElem?_set_ne hk]; exact hd, M.mono (Z0 hp), h0, ?_⟩
 rw [List.set_comm _ _ hk, QO M (Z0 hp)]
 exact E.own hp (.of_vals hs) hw (by rw [X2 hk]; exact hn)
end
end DL
namespace DL
open PySem PySem.Spec L2
def Xs : D -> Option Key
 | .int i => some (.inl i)
 | .str cs => some (.inr (tx cs))
 | _ => none
theorem QQ {d : D} {k : Key} (h : Xs d = some k) : val d = kV k /\ Zi d = true := by
 cases d <;> first | (cases h; done) | (cases h; exact ⟨rfl, rfl⟩)
def Y4 {α : Type} (k : Key) (d : α) : List Key -> List α -> List α
 | k0 :: ks, x :: xs => (if k0 = k then d else x) :: Y4 k d ks xs
 | _, xs => xs
def YC (k : Key) : List Key -> Bool
 | [] => false
 | k0 :: ks => decide (k0 = k) || YC k ks
def Vu (ks : List Key) (xs : List D) (k : Key) (d : D) : D := if YC k ks = true then .dct ks (Y4 k d ks xs) else .dct (ks ++ [k]) (xs ++ [d])
theorem ZaR {α : Type} (k : Key) (d : α) : ∀ (ks : List Key) (xs : List α), (Y4 k d ks xs).length = xs.length
 | [], _ => rfl
 | _ :: _, [] => rfl
 | k0 :: ks, x :: xs => by rw [Y4, List.length_cons, List.length_cons, ZaR k d ks xs]
theorem QR (k : Key) : ∀ (ks : List Key) (vs : List V), ks.length = vs.length -> ((ks.zip vs).any fun kv => decide (kv.1 = k)) = YC k ks
 | [], _, _ => rfl
 | k0 :: ks, [], h => by simp at h
 | k0 :: ks, v :: vs, h => by
  rw [List.zip_cons_cons, List.any_cons, QR k ks vs (by simpa using h)]
  rfl
theorem Zcz (k : Key) {ks : List Key} {vs : List V} (h : ks.length = vs.length) : (Yf (ks.zip vs) k).isSome = YC k ks := by rw [<- Uy, QR k ks vs h]
theorem Zbx (k : Key) (v : V) : ∀ (ks : List Key) (vs : List V), ks.length = vs.length -> (ks.zip vs).map (fun kv => if kv.1 = k then (kv.1, v) else kv) = ks.zip (Y4 k v ks vs)
 | [], _, _ => by simp
 | k0 :: ks, [], h => by simp at h
 | k0 :: ks, x :: vs, h => by
  rw [List.zip_cons_cons, List.map_cons, Y4, List.zip_cons_cons, Zbx k v ks vs (by simpa using h)]
  by_cases e : k0 = k
  · simp [e]
  · simp [e]
section
variable {cA : Kn} {av : Addr -> Prop} {H : Hp}
theorem ZaS (k : Key) {d : D} {v : V} (hd : Rep cA av H d v) : ∀ (ks : List Key) {xs : List D} {vs : List V}, RepL cA av H xs vs -> RepL cA av H (Y4 k d ks xs) (Y4 k v ks vs)
 | [], xs, vs, l => l
 | k0 :: ks, [], vs, l => by rw [l.nil_of]; exact .nil
 | k0 :: ks, y :: xs, vs, l => by
  obtain ⟨u, r, rfl, h1, h2⟩ := l.uncons
  rw [Y4, Y4]
  refine .cons ?_ (ZaS k hd ks h2)
  by_cases e : k0 = k
  · rw [if_pos e, if_pos e]; exact hd
  · rw [if_neg e, if_neg e]; exact h1
theorem ZdI (k : Key) {d : D} {v : V} {ks : List Key} {xs : List D} {vs : List V} {a : Addr} {H' : Hp} (hks : ks.length = xs.length) (l : RepL cA av H' xs vs) (hd : Rep cA av H' d v) (e : H' a = some (.dK (ZZ (ks.zip vs) k v))) : Own cA av H' (Vu ks xs k d) a := by
 have hl : ks.length = vs.length := by rw [hks, l.length]
 unfold ZZ at e
 rw [QR k ks vs hl] at e
 unfold Vu
 by_cases h : YC k ks = true
 · rw [if_pos h, Zbx k v ks vs hl] at e
   rw [if_pos h]
   exact ⟨_, e, by rw [ZaR]; exact hks, ZaS k hd ks l⟩
 · rw [if_neg h] at e
   rw [if_neg h]
   refine ⟨vs ++ [v], ?_, by rw [List.length_append, List.length_append, hks]; rfl, l.append (.cons hd .nil)⟩
   rw [e, List.zip_append hl]
   rfl
end
section
variable {G : Cn} {ow owN owB owC ow1 : List Nat} {H0 H : Hp} {av : Addr -> Prop} {A : Nat -> Option Addr} {σ : L2.St} {δ : Env}
theorem ZdJ {i : Nat} {ks : List Key} {xs : List D} {vs : List V} {p : Addr} (E : ER G ow H0 av A σ H δ) (hp : H p = none) (hks : ks.length = xs.length) (l : RepL G.1 (AV av A) H xs vs) (hw : ∀ j, j ∈ ow1 ↔ j ∈ ow \/ j = i) (hn : G.2 i = none) :
 ER G ow1 H0 av (fun j => if j = i then some p else A j) (σ.set i (some (.ref p))) (upd H p (.dK (ks.zip vs))) (δ.set i (some (.dct ks xs))) := by
 have hs : Same H (upd H p (.dK (ks.zip vs))) := Z0 hp
 have less : ∀ b, AV av (fun j => if j = i then some p else A j) b -> AV av A b \/ H b = none := fun b z => by
  rcases z with z | ⟨j, z⟩
  · exact .inl (.inl z)
  · by_cases e : j = i
    · simp [e] at z; subst z; exact .inr hp
    · simp [e] at z; exact .inl (.inr ⟨j, z⟩)
 have np : ∀ j a, A j = some a -> a ≠ p := fun j a e z => by subst z; exact E.live j a e hp
 have h0 : H0 p = none := by
  cases q : H0 p with
  | none => rfl
  | some o => rw [E.same p o q] at hp; cases hp
 refine ⟨E.same.trans hs, E.avd, fun j a e => ?_, fun j k a e1 e2 => ?_, fun j a e => ?_, fun j e => ?_, fun j hj => ?_, by simp [E.len], fun j a e => (by
  have q : j ≠ i := fun z => by rw [z, hn] at e; cases e
  simp only [q, if_false]; exact E.pin j a e), (fun j v' e => by
  have q : j ≠ i := fun z => by rw [z, hn] at e; cases e
  rw [List.getElem?_set_ne (Ne.symm q)]; exact E.kept j v' e), fun j d' e => ?_⟩
 · by_cases q : j = i
   · simp [q] at e; subst e; exact h0
   · simp [q] at e; exact E.fr j a e
 · by_cases q : j = i
   · by_cases q2 : k = i
     · rw [q, q2]
     · simp [q] at e1; simp [q2] at e2
       exact absurd e1.symm (np k a e2)
   · by_cases q2 : k = i
     · simp [q] at e1; simp [q2] at e2
       exact absurd e2.symm (np j a e1)
     · simp [q] at e1; simp [q2] at e2; exact E.inj j k a e1 e2
 · by_cases q : j = i
   · simp [q] at e; subst e; rw [ZE]; exact fun z => by cases z
   · simp [q] at e
     rw [Zn (np j a e)]
     exact E.live j a e
 · by_cases q : j = i
   · exact (hw j).mpr (.inr q)
   · simp [q] at e; exact (hw j).mpr (.inl (E.dom j e))
 · by_cases q : j = i
   · simp [q]
   · simp [q]
     exact E.dom' j (((hw j).mp hj).resolve_right q)
 · rcases V0 e with ⟨rfl, rfl, hl⟩ | ⟨q, e'⟩
   · refine ⟨.ref p, ?_, fun z => by simp at z, fun a z => ?_⟩
     · rw [List.getElem?_set_self (by rw [E.len]; exact hl)]
     · simp at z
       subst z
       exact ⟨rfl, vs, ZE, hks, (l.av less).same hs⟩
   · obtain ⟨v', h1, h2, h3⟩ := E.var j d' e'
     refine ⟨v', by rw [List.getElem?_set_ne (Ne.symm q)]; exact h1, fun z => ?_, fun a z => ?_⟩
     · simp [q] at z
       exact ((h2 z).av less).same hs
     · simp [q] at z
       obtain ⟨r1, r2⟩ := h3 a z
       refine ⟨r1, ?_⟩
       cases d' with
       | lst xs => obtain ⟨vs', q1, q2⟩ := r2; exact ⟨vs', hs _ _ q1, (q2.av less).same hs⟩
       | obj c ks xs => obtain ⟨dx, vs', q1, q0, q2⟩ := r2; exact ⟨dx, vs', hs _ _ q1, q0, (q2.av less).same hs⟩
       | dct ks xs => obtain ⟨vs', q1, q0, q2⟩ := r2; exact ⟨vs', hs _ _ q1, q0, (q2.av less).same hs⟩
       | dtt ks xs => obtain ⟨vs', q1, q0, q2⟩ := r2; exact ⟨vs', hs _ _ q1, q0, (q2.av less).same hs⟩
       | _ => exact r2
def VFD (G : Cn) (ow : List Nat) (te : TE) (ε : Env -> Option D) : Prop :=
 ∀ H0 av A σ H δ, ER G ow H0 av A σ H δ -> ∀ d, ε δ = some d -> ∀ Q : VK, (∀ p ks vs xs H1, Same H H1 -> H1 p = none -> ks.length = xs.length -> RepL G.1 (AV av A) H1 xs vs -> d = .dct ks xs -> Q (.ref p) (upd H1 p (.dK (ks.zip vs)))) -> te σ H Q
theorem ZdK : VFD G ow tDNewK (eC (.dct [] [])) := fun H0 av A σ H δ E d e Q k => fun p hp => by
 cases e
 exact k p [] [] [] H (Same.refl H) hp rfl .nil rfl
theorem ZdL {te : TE} {ε : Env -> Option D} (i : Nat) (h : VFD G ow te ε) (hn : G.2 i = none) (h1 : sub owN (i :: ow) = true) (h2 : owN.contains i = true) (h3 : sub ow owN = true) : VS G ow owN owB owC (YT te (YJ i)) (Zg i ε) := fun H0 av A σ H δ E o e De k => by
 unfold Zg at e
 cases he : ε δ with
 | none => rw [he] at e; cases e
 | some d =>
  rw [he] at e
  cases e
  refine h H0 av A σ H δ E d he _ fun p ks vs xs H1 s hp hk l hd => ?_
  subst hd
  exact k _ _ _ (ZdJ (E.mono s) hp hk l (QE h1 h2 h3) hn)
def inK (neg : Bool) : D -> D -> Option D
 | x, .dct ks _ => match Xs x with
  | some k => some (.bl (neg != YC k ks))
  | none => none
 | _, _ => none
theorem ZcA {neg : Bool} {x y d : D} (h : inK neg x y = some d) : ∃ ks xs k, y = .dct ks xs /\ Xs x = some k /\ d = .bl (neg != YC k ks) := by
 unfold inK at h
 split at h
 · rename_i ks xs
   cases hk : Xs x with
   | none => rw [hk] at h; cases h
   | some k => rw [hk] at h; exact ⟨ks, xs, k, rfl, rfl, (Option.some.inj h).symm⟩
 · cases h
theorem ZeN {ta tb : TE} {qa qb : Ql} {a b : Env -> Option D} (ha : VE G ow ta qa a) (hb : VE G ow tb qb b) : VE G ow (ZfP ta tb) .cl (eOp (inK false) a b) := fun H0 av A σ H δ E d e Q k => by
 obtain ⟨x, y, ex, ey, ed⟩ := Uz e
 obtain ⟨ks, xs, kk, rfl, hk, rfl⟩ := ZcA ed
 obtain ⟨hv, hs⟩ := QQ hk
 refine ha H0 av A σ H δ E _ ex _ fun v H1 s1 r1 => hb H0 av A σ H1 δ (E.mono s1) _ ey _ fun w H2 s2 r2 => ?_
 have e1 : v = kV kk := (r1.any.val hs).trans hv
 obtain ⟨p, vs, rfl, _, rd, hl, l⟩ := r2.tp
 refine ⟨p, _, rfl, e1 ▸ DGet.k rd, ?_⟩
 rw [Zcz kk (hl.trans l.length)]
 have := k (.bl (false != YC kk ks)) H2 (s1.trans s2) blq
 rw [Bool.false_bne] at this
 exact this
def Y5 (i : Nat) (κ ε : Env -> Option D) (δ : Env) : Option Out := match ε δ, Za i δ, κ δ with
 | some d, some (.dct ks xs), some x => match Xs x with
  | some k => if ks.length < sizeLine then some (.nx (δ.set i (some (Vu ks xs k d)))) else none
  | none => none
 | _, _, _ => none
theorem Zbf {i : Nat} {κ ε : Env -> Option D} {δ : Env} {o : Out} (h : Y5 i κ ε δ = some o) : ∃ d ks xs x k, ε δ = some d /\ Za i δ = some (.dct ks xs) /\ κ δ = some x /\ Xs x = some k /\ ks.length < sizeLine /\ o = .nx (δ.set i (some (Vu ks xs k d))) := by
 unfold Y5 at h
 split at h
 · rename_i d ks xs x h1 h2 h3
   cases hk : Xs x with
   | none => rw [hk] at h; cases h
   | some k =>
    rw [hk] at h
    dsimp only at h
    by_cases hz : ks.length < sizeLine
    · rw [if_pos hz] at h
      exact ⟨d, ks, xs, x, k, h1, h2, h3, hk, hz, (Option.some.inj h).symm⟩
    · rw [if_neg hz] at h; cases h
 · cases h
theorem ZdM {te ti : TE} {q : Ql} {ε κ : Env -> Option D} (i : Nat) (hi : ow.contains i = true) (h : VE G ow te .cl ε) (hk : VE G ow ti q κ) : VS G ow ow owB owC (Qz (Yq i) ti te) (Y5 i κ ε) := fun H0 av A σ H δ E o e De k => by
 obtain ⟨d, ks, xs, x, kk, e1, e2, e3, hkk, hz, rfl⟩ := Zbf e
 obtain ⟨hv, hs⟩ := QQ hkk
 have hi' : i ∈ ow := by simpa using hi
 cases hA : A i with
 | none => exact absurd hA (E.dom' i hi')
 | some a =>
  refine h H0 av A σ H δ E d e1 _ fun v H1 s1 r1 => ?_
  have E1 := E.mono s1
  obtain ⟨u, g1, _, g3⟩ := E1.var i _ (Ya e2)
  refine ⟨u, g1, hk H0 av A σ H1 δ E1 _ e3 _ fun y H2 s2 r2 => ?_⟩
  have E2 := E1.mono s2
  obtain ⟨u', g1', _, g3'⟩ := E2.var i _ (Ya e2)
  obtain ⟨rfl, vs, q1, q0, q2⟩ := g3' a hA
  have eu : u = .ref a := (g3 a hA).1
  subst eu
  have ey : y = kV kk := (r2.any.val hs).trans hv
  subst ey
  refine ⟨a, _, rfl, DPut.k q1 ?_, k A σ _ (E2.put hA (Ya e2) (fun b o hb e => by rw [Zn hb]; exact e) (by rw [ZE]; exact fun z => by cases z) ?_)⟩
  · have : (ks.zip vs).length = ks.length := by rw [List.length_zip, <- q2.length, q0]; omega
    rw [this]
    exact hz
  · have ex : ∀ b o, ¬ AV av A b -> H2 b = some o -> upd H2 a (.dK (ZZ (ks.zip vs) kk v)) b = some o := fun b o n e => by
     rw [Zn fun z => n (.inr ⟨i, by rw [z]; exact hA⟩)]
     exact e
    exact ZdI kk q0 (q2.ext ex) ((RepT.r (r1.same s2)).ext ex) ZE
end
end DL
namespace L2
open PySem
theorem Xt {X : Cx} (h : X.A.units + 64 < cLine) : X.A.units + 1 < cLine := by omega
end L2
namespace DL
open PySem PySem.Spec L2
section
variable {G : Cn} {ow owN owB owC ow1 : List Nat}
end
section
variable {cA : Kn} {G : Cn} {ow owN owB owC ow1 : List Nat} {i : Nat}
end
section
variable {P : Program} {w : World} {K : PySem.W.Frag} {mg : Str -> Option Value} {base : Heap} {cA : Kn}
open Classical in
end
end DL
namespace L2
open PySem PySem.Spec PyProof.Rows
section
variable {X : Cx}
theorem QS {x : V} : ∀ {xs : List V} {us : List Value}, Vals xs us -> xs.all Yc = true -> us.countP (eqU x) = xs.countP fun y => eqV y x
 | _, _, .nil, _ => rfl
 | y :: xs, u :: us, .cons r t, f => by
  rw [List.all_cons, Bool.and_eq_true] at f
  rw [List.countP_cons, List.countP_cons, Qn r f.1, QS t f.2]
def Zby (K : PySem.W.Frag) : V -> List V -> Hp -> VK -> Prop := fun x vs H Q => ∃ p xs y, x = .ref p /\ vs = [y] /\ SqL K H p xs /\ Yc y = true /\ xs.all Yc = true /\ Q (.int (xs.countP fun z => eqV z y : Nat)) H
theorem Zb8 {K : PySem.W.Frag} (hK : X.K = K := by rfl) : MtR X "list.count" (Zby K) := by
 subst hK
 intro pins s σ H x xs v us Q I rx rs h
 obtain ⟨p, zs, y, rfl, rfl, hq, fy, fs, q⟩ := h
 cases rx
 obtain ⟨u, rfl, ru⟩ := Xf rs
 obtain ⟨its, r, pl, hz⟩ := I.list hq
 obtain ⟨⟨cls, dd, data, sl⟩, ho, hc, n, hd⟩ := id pl.isList
 simp only at hc hd
 subst hc hd
 refine call_meets PySem.F.slot_list_count ⟨_, ho, rfl⟩ PySem.F.entry_list_count (PySem.F.args_list_count_2 _ _) (SeqAt.list_countAt p its.toArray n dd sl u (eqU y)) ⟨ho, fun w hw => VH ru fy r fs w (by simpa using hw), ?_⟩
 rw [show its.toArray.toList = its from rfl, QS r fs]
 exact ⟨.int _, H, I.tok _, ⟨_, rfl⟩, q⟩
end
end L2
namespace DL
open PySem PySem.Spec L2
section
variable {cA : Kn} {G : Cn} {ow owN owB owC ow1 : List Nat} {i : Nat}
def ZfY (K : PySem.W.Frag) (r : V -> List V -> Hp -> VK -> Prop) (f : List D -> D -> Option D) : Prop :=
 ∀ (H : Hp) (a : Addr) (xs : List D) (y d : D), xs.all Zi = true -> Zi y = true -> SqL K H a (xs.map val) -> f xs y = some d -> Zi d = true /\ ∀ Q : VK, Q (val d) H -> r (.ref a) [val y] H Q
def eLM (f : List D -> D -> Option D) (a b : Env -> Option D) (δ : Env) : Option D := match a δ with
 | some (.lst xs) => match b δ with
  | some y => if xs.all Zi && Zi y then f xs y else none
  | none => none
 | _ => none
theorem Zfk {K : PySem.W.Frag} {r : V -> List V -> Hp -> VK -> Prop} {f : List D -> D -> Option D} {to tb : TE} {q0 q : Ql} {a b : Env -> Option D} (hr : ZfY K r f) (ha : VE G ow to q0 a) (hb : VE G ow tb q b) (hK : G.1.K = K := by rfl) :
 VE G ow (tBM K "list" r to (Xy tb tNil)) .cl (eLM f a b) := fun H0 av A σ H δ E d e Q k => by
 subst hK
 unfold eLM at e
 cases hx : a δ with
 | none => rw [hx] at e; cases e
 | some x =>
  rw [hx] at e
  cases x <;> first | (cases e; done) | skip
  rename_i xs
  dsimp only at e
  cases hy : b δ with
  | none => rw [hy] at e; cases e
  | some y =>
   rw [hy] at e
   dsimp only at e
   by_cases hz : (xs.all Zi && Zi y) = true
   · rw [if_pos hz] at e
     rw [Bool.and_eq_true] at hz
     refine ha H0 av A σ H δ E _ hx _ fun v H1 s1 r1 => ?_
     obtain ⟨p, vs, rfl, _, hq, l⟩ := r1.any
     have ev := l.vals hz.1
     subst ev
     refine ⟨.inl ⟨rfl, _, hq⟩, ?_⟩
     refine hb H0 av A σ H1 δ (E.mono s1) y hy _ fun v2 H2 s2 r2 => ?_
     have e2 : v2 = val y := r2.any.val hz.2
     subst e2
     have hq2 : SqL G.1.K H2 p (xs.map val) := hq.elim (fun z => .inl (Rd.ext z (s2 p))) .inr
     obtain ⟨hsd, hh⟩ := hr H2 p xs y d hz.1 hz.2 hq2 e
     exact hh _ (k _ H2 (s1.trans s2) (Rep.of_val hsd).t)
   · rw [if_neg hz] at e; cases e
def lcountD (xs : List D) (y : D) : Option D := some (.int ((xs.map val).countP fun z => eqV z (val y) : Nat))
theorem ZcB {K : PySem.W.Frag} : ZfY K (Zby K) lcountD := fun H a xs y d hx hy hq e => by
 cases e
 exact ⟨rfl, fun Q q => ⟨a, _, _, rfl, rfl, hq, VW hy, VY hx, q⟩⟩
mutual
def frz : D -> Bool
 | .non => true
 | .bl _ => true
 | .int _ => true
 | .str _ => true
 | .lst _ => false
 | .tup xs => frzL xs
 | .obj _ _ xs => frzL xs
 | .dct _ _ => false
 | .dtt _ _ => false
def frzL : List D -> Bool
 | [] => true
 | x :: xs => frz x && frzL xs
end
mutual
theorem Rep.frz {av av' : Addr -> Prop} {H : Hp} : ∀ {d : D} {v : V}, frz d = true -> (∀ b, av' b -> av b \/ ∃ vs, H b = some (.lst vs)) -> Rep cA av H d v -> Rep cA av' H d v
 | .non, _, _, _, h => h
 | .bl _, _, _, _, h => h
 | .int _, _, _, _, h => h
 | .str _, _, _, _, h => h
 | .lst xs, v, hf, k, h => by cases hf
 | .tup xs, v, hf, k, h => by
  unfold DL.frz at hf
  unfold Rep at h ⊢
  obtain ⟨a, vs, e, n, r, l⟩ := h
  exact ⟨a, vs, e, fun z => (k a z).elim n (by rw [r]; exact fun ⟨_, z⟩ => by cases z), r, RepL.frz hf k l⟩
 | .obj c ks xs, v, hf, k, h => by
  unfold DL.frz at hf
  unfold Rep at h ⊢
  obtain ⟨a, dx, vs, e, n, r, z, l⟩ := h
  exact ⟨a, dx, vs, e, fun z => (k a z).elim n (by rw [r]; exact fun ⟨_, z⟩ => by cases z), r, z, RepL.frz hf k l⟩
 | .dct ks xs, v, hf, k, h => by cases hf
 | .dtt ks xs, v, hf, k, h => by cases hf
theorem RepL.frz {av av' : Addr -> Prop} {H : Hp} : ∀ {xs : List D} {vs : List V}, frzL xs = true -> (∀ b, av' b -> av b \/ ∃ vs, H b = some (.lst vs)) -> RepL cA av H xs vs -> RepL cA av' H xs vs
 | [], _, _, _, h => h
 | x :: xs, vs, hf, k, h => by
  unfold DL.frzL at hf
  rw [Bool.and_eq_true] at hf
  unfold RepL at h ⊢
  obtain ⟨v, r, e, h1, h2⟩ := h
  exact ⟨v, r, e, Rep.frz hf.1 k h1, RepL.frz hf.2 k h2⟩
end
end
end DL
namespace PySem
open Sem (wp)
section
variable {prog : Program} {w : World} {A : Around} {E : Value -> Shared -> Prop} {s : Shared}
end
def IsQI (k : Bool) (h : Heap) (a l : Addr) (i : Nat) : Prop := match k with
 | true => h.IsTupleIter a l i
 | false => h.IsListIter a l i
def IsQ (k : Bool) (h : Heap) (l : Addr) (xs : Array Value) : Prop := match k with
 | true => h.IsTuple l xs
 | false => h.IsList l xs
theorem IsQI.get {k : Bool} {h : Heap} {a l : Addr} {i : Nat} (x : IsQI k h a l i) : ∃ o, h.get? a = some o /\ o.data = .fields #[.ref l, .int i 0] := by
 cases k with
 | true => obtain ⟨o, e, _, d⟩ := x; exact ⟨o, e, d⟩
 | false => obtain ⟨o, e, _, d⟩ := x; exact ⟨o, e, d⟩
theorem IsQI.at {k : Bool} {h h' : Heap} {a l : Addr} {i : Nat} (x : IsQI k h a l i) (f : ∀ o, h.get? a = some o -> h'.get? a = some o) : IsQI k h' a l i := by
 cases k with
 | true => obtain ⟨o, e, r⟩ := x; exact ⟨o, f o e, r⟩
 | false => obtain ⟨o, e, r⟩ := x; exact ⟨o, f o e, r⟩
theorem IsQI.ext {k : Bool} {h h' : Heap} {a b l : Addr} {i : Nat} (x : IsQI k h a l i) (hs : Heap.ExtBut b h h') (n : a ≠ b) : IsQI k h' a l i := x.at fun o e => hs a o n e
theorem IsQ.at {k : Bool} {h h' : Heap} {l : Addr} {xs : Array Value} (x : IsQ k h l xs) (f : ∀ o, h.get? l = some o -> h'.get? l = some o) : IsQ k h' l xs := by
 cases k with
 | true => obtain ⟨o, e, r⟩ := x; exact ⟨o, f o e, r⟩
 | false => obtain ⟨o, e, r⟩ := x; exact ⟨o, f o e, r⟩
theorem IsQ.ext {k : Bool} {h h' : Heap} {b l : Addr} {xs : Array Value} (x : IsQ k h l xs) (hs : Heap.ExtBut b h h') (n : l ≠ b) : IsQ k h' l xs := x.at fun o e => hs l o n e
section
variable {prog : Program} {w : World} {A : Around} {E : Value -> Shared -> Prop} {s : Shared}
end
section
variable {prog : Program} {w : World} {A : Around} {E : Value -> Shared -> Prop} {s : Shared}
end
end PySem
namespace L2
open PySem PySem.Spec PyProof.Rows
section
variable {X : Cx} {elts : List Expr} {x1 : Nat} {tpos : Pos}
end
end L2
namespace DL
open PySem PySem.Spec L2
section
variable {cA : Kn} {G : Cn} {ow : List Nat}
end
end DL
namespace DL
open PySem PySem.Spec PyProof.Rows L2
section
variable {X : Cx} {K : PySem.W.Frag} {cA : Kn}
variable {G : Cn} {ow : List Nat}
open Classical in
end
end DL
namespace DL
open PySem PySem.Spec L2
def X5 {α : Type} (k : List Key) : List (List Key) -> List α -> Option α
 | k0 :: ks, x :: xs => if k0 = k then some x else X5 k ks xs
 | _, _ => none
def Y6 {α : Type} (k : List Key) (d : α) : List (List Key) -> List α -> List α
 | k0 :: ks, x :: xs => (if k0 = k then d else x) :: Y6 k d ks xs
 | _, xs => xs
def YD (k : List Key) : List (List Key) -> Bool
 | [] => false
 | k0 :: ks => decide (k0 = k) || YD k ks
def X6 (ks : List (List Key)) (xs : List D) (k : List Key) (d : D) : D := if YD k ks = true then .dtt ks (Y6 k d ks xs) else .dtt (ks ++ [k]) (xs ++ [d])
theorem Zam {α : Type} (k : List Key) (d : α) : ∀ (ks : List (List Key)) (xs : List α), (Y6 k d ks xs).length = xs.length
 | [], _ => rfl
 | _ :: _, [] => rfl
 | k0 :: ks, x :: xs => by rw [Y6, List.length_cons, List.length_cons, Zam k d ks xs]
theorem QT (k : List Key) : ∀ (ks : List (List Key)) (vs : List V), ks.length = vs.length -> ((ks.zip vs).any fun kv => decide (kv.1 = k)) = YD k ks
 | [], _, _ => rfl
 | k0 :: ks, [], h => by simp at h
 | k0 :: ks, v :: vs, h => by
  rw [List.zip_cons_cons, List.any_cons, QT k ks vs (by simpa using h)]
  rfl
theorem Zb9 (k : List Key) {ks : List (List Key)} {vs : List V} (h : ks.length = vs.length) : (Yf (ks.zip vs) k).isSome = YD k ks := by rw [<- Uy, QT k ks vs h]
theorem ZaT (k : List Key) (v : V) : ∀ (ks : List (List Key)) (vs : List V), ks.length = vs.length -> (ks.zip vs).map (fun kv => if kv.1 = k then (kv.1, v) else kv) = ks.zip (Y6 k v ks vs)
 | [], _, _ => by simp
 | k0 :: ks, [], h => by simp at h
 | k0 :: ks, x :: vs, h => by
  rw [List.zip_cons_cons, List.map_cons, Y6, List.zip_cons_cons, ZaT k v ks vs (by simpa using h)]
  by_cases e : k0 = k
  · simp [e]
  · simp [e]
section
variable {cA : Kn} {av : Addr -> Prop} {H : Hp}
theorem Zan (k : List Key) : ∀ {ks : List (List Key)} {xs : List D} {vs : List V} {x : D}, RepL cA av H xs vs -> X5 k ks xs = some x -> ∃ v, Yf (ks.zip vs) k = some v /\ Rep cA av H x v
 | [], xs, vs, x, _, h => by cases h
 | k0 :: ks, [], vs, x, _, h => by cases h
 | k0 :: ks, y :: xs, vs, x, l, h => by
  obtain ⟨v, r, rfl, h1, h2⟩ := l.uncons
  rw [List.zip_cons_cons]
  unfold X5 at h
  by_cases e : k0 = k
  · rw [if_pos e] at h
    cases h
    exact ⟨v, Uw e, h1⟩
  · rw [if_neg e] at h
    obtain ⟨u, h3, h4⟩ := Zan k h2 h
    exact ⟨u, (Ux e).trans h3, h4⟩
theorem Zao (k : List Key) {d : D} {v : V} (hd : Rep cA av H d v) : ∀ (ks : List (List Key)) {xs : List D} {vs : List V}, RepL cA av H xs vs -> RepL cA av H (Y6 k d ks xs) (Y6 k v ks vs)
 | [], xs, vs, l => l
 | k0 :: ks, [], vs, l => by rw [l.nil_of]; exact .nil
 | k0 :: ks, y :: xs, vs, l => by
  obtain ⟨u, r, rfl, h1, h2⟩ := l.uncons
  rw [Y6, Y6]
  refine .cons ?_ (Zao k hd ks h2)
  by_cases e : k0 = k
  · rw [if_pos e, if_pos e]; exact hd
  · rw [if_neg e, if_neg e]; exact h1
theorem ZcC (k : List Key) {d : D} {v : V} {ks : List (List Key)} {xs : List D} {vs : List V} {a : Addr} {H' : Hp} (hks : ks.length = xs.length) (l : RepL cA av H' xs vs) (hd : Rep cA av H' d v) (e : H' a = some (.dT (ZZ (ks.zip vs) k v))) : Own cA av H' (X6 ks xs k d) a := by
 have hl : ks.length = vs.length := by rw [hks, l.length]
 unfold ZZ at e
 rw [QT k ks vs hl] at e
 unfold X6
 by_cases h : YD k ks = true
 · rw [if_pos h, ZaT k v ks vs hl] at e
   rw [if_pos h]
   exact ⟨_, e, by rw [Zam]; exact hks, Zao k hd ks l⟩
 · rw [if_neg h] at e
   rw [if_neg h]
   refine ⟨vs ++ [v], ?_, by rw [List.length_append, List.length_append, hks]; rfl, l.append (.cons hd .nil)⟩
   rw [e, List.zip_append hl]
   rfl
end
section
variable {G : Cn} {ow owN owB owC ow1 : List Nat} {H0 H : Hp} {av : Addr -> Prop} {A : Nat -> Option Addr} {σ : L2.St} {δ : Env}
theorem ZcD {i : Nat} {ks : List (List Key)} {xs : List D} {vs : List V} {p : Addr} (E : ER G ow H0 av A σ H δ) (hp : H p = none) (hks : ks.length = xs.length) (l : RepL G.1 (AV av A) H xs vs) (hw : ∀ j, j ∈ ow1 ↔ j ∈ ow \/ j = i) (hn : G.2 i = none) :
 ER G ow1 H0 av (fun j => if j = i then some p else A j) (σ.set i (some (.ref p))) (upd H p (.dT (ks.zip vs))) (δ.set i (some (.dtt ks xs))) := by
 have hs : Same H (upd H p (.dT (ks.zip vs))) := Z0 hp
 have less : ∀ b, AV av (fun j => if j = i then some p else A j) b -> AV av A b \/ H b = none := fun b z => by
  rcases z with z | ⟨j, z⟩
  · exact .inl (.inl z)
  · by_cases e : j = i
    · simp [e] at z; subst z; exact .inr hp
    · simp [e] at z; exact .inl (.inr ⟨j, z⟩)
 have np : ∀ j a, A j = some a -> a ≠ p := fun j a e z => by subst z; exact E.live j a e hp
 have h0 : H0 p = none := by
  cases q : H0 p with
  | none => rfl
  | some o => rw [E.same p o q] at hp; cases hp
 refine ⟨E.same.trans hs, E.avd, fun j a e => ?_, fun j k a e1 e2 => ?_, fun j a e => ?_, fun j e => ?_, fun j hj => ?_, by simp [E.len], fun j a e => (by
  have q : j ≠ i := fun z => by rw [z, hn] at e; cases e
  simp only [q, if_false]; exact E.pin j a e), (fun j v' e => by
  have q : j ≠ i := fun z => by rw [z, hn] at e; cases e
  rw [List.getElem?_set_ne (Ne.symm q)]; exact E.kept j v' e), fun j d' e => ?_⟩
 · by_cases q : j = i
   · simp [q] at e; subst e; exact h0
   · simp [q] at e; exact E.fr j a e
 · by_cases q : j = i
   · by_cases q2 : k = i
     · rw [q, q2]
     · simp [q] at e1; simp [q2] at e2
       exact absurd e1.symm (np k a e2)
   · by_cases q2 : k = i
     · simp [q] at e1; simp [q2] at e2
       exact absurd e2.symm (np j a e1)
     · simp [q] at e1; simp [q2] at e2; exact E.inj j k a e1 e2
 · by_cases q : j = i
   · simp [q] at e; subst e; rw [ZE]; exact fun z => by cases z
   · simp [q] at e
     rw [Zn (np j a e)]
     exact E.live j a e
 · by_cases q : j = i
   · exact (hw j).mpr (.inr q)
   · simp [q] at e; exact (hw j).mpr (.inl (E.dom j e))
 · by_cases q : j = i
   · simp [q]
   · simp [q]
     exact E.dom' j (((hw j).mp hj).resolve_right q)
 · rcases V0 e with ⟨rfl, rfl, hl⟩ | ⟨q, e'⟩
   · refine ⟨.ref p, ?_, fun z => by simp at z, fun a z => ?_⟩
     · rw [List.getElem?_set_self (by rw [E.len]; exact hl)]
     · simp at z
       subst z
       exact ⟨rfl, vs, ZE, hks, (l.av less).same hs⟩
   · obtain ⟨v', h1, h2, h3⟩ := E.var j d' e'
     refine ⟨v', by rw [List.getElem?_set_ne (Ne.symm q)]; exact h1, fun z => ?_, fun a z => ?_⟩
     · simp [q] at z
       exact ((h2 z).av less).same hs
     · simp [q] at z
       obtain ⟨r1, r2⟩ := h3 a z
       refine ⟨r1, ?_⟩
       cases d' with
       | lst xs => obtain ⟨vs', q1, q2⟩ := r2; exact ⟨vs', hs _ _ q1, (q2.av less).same hs⟩
       | obj c ks xs => obtain ⟨dx, vs', q1, q0, q2⟩ := r2; exact ⟨dx, vs', hs _ _ q1, q0, (q2.av less).same hs⟩
       | dct ks xs => obtain ⟨vs', q1, q0, q2⟩ := r2; exact ⟨vs', hs _ _ q1, q0, (q2.av less).same hs⟩
       | dtt ks xs => obtain ⟨vs', q1, q0, q2⟩ := r2; exact ⟨vs', hs _ _ q1, q0, (q2.av less).same hs⟩
       | _ => exact r2
def ZfZ (G : Cn) (ow : List Nat) (te : TE) (ε : Env -> Option D) : Prop :=
 ∀ H0 av A σ H δ, ER G ow H0 av A σ H δ -> ∀ d, ε δ = some d -> ∀ Q : VK, (∀ p ks vs xs H1, Same H H1 -> H1 p = none -> ks.length = xs.length -> RepL G.1 (AV av A) H1 xs vs -> d = .dtt ks xs -> Q (.ref p) (upd H1 p (.dT (ks.zip vs)))) -> te σ H Q
theorem ZaU {te : TE} {ε : Env -> Option D} (i : Nat) (h : ZfZ G ow te ε) (hn : G.2 i = none) (h1 : sub owN (i :: ow) = true) (h2 : owN.contains i = true) (h3 : sub ow owN = true) : VS G ow owN owB owC (YT te (YJ i)) (Zg i ε) := fun H0 av A σ H δ E o e De k => by
 unfold Zg at e
 cases he : ε δ with
 | none => rw [he] at e; cases e
 | some d =>
  rw [he] at e
  cases e
  refine h H0 av A σ H δ E d he _ fun p ks vs xs H1 s hp hk l hd => ?_
  subst hd
  exact k _ _ _ (ZcD (E.mono s) hp hk l (QE h1 h2 h3) hn)
def V6 : List D -> Option (List Key)
 | [] => some []
 | x :: xs => match Xs x, V6 xs with
  | some k, some ks => some (k :: ks)
  | _, _ => none
def YE : D -> Option (List Key)
 | .tup xs => V6 xs
 | _ => none
theorem Zad {cA : Kn} {av : Addr -> Prop} {H : Hp} : ∀ {xs : List D} {ks : List Key} {vs : List V}, V6 xs = some ks -> RepL cA av H xs vs -> vs = ks.map kV
 | [], ks, vs, h, l => by cases h; exact l.nil_of
 | x :: xs, ks, vs, h, l => by
  obtain ⟨v, r, rfl, h1, h2⟩ := l.uncons
  unfold V6 at h
  cases hk : Xs x with
  | none => rw [hk] at h; cases h
  | some k =>
   cases hks : V6 xs with
   | none => rw [hk, hks] at h; cases h
   | some ks' =>
    rw [hk, hks] at h
    cases h
    obtain ⟨e1, e2⟩ := QQ hk
    rw [List.map_cons, Zad hks h2, h1.val e2, e1]
theorem UM {cA : Kn} {av : Addr -> Prop} {H : Hp} {x : D} {k : List Key} {v : V} (h : YE x = some k) (r : Rep cA av H x v) : ∃ b, v = .ref b /\ H b = some (.tup (k.map kV)) := by
 cases x <;> first | (cases h; done) | skip
 obtain ⟨a, vs, rfl, _, hH, l⟩ := r
 exact ⟨a, rfl, by rw [hH, Zad h l]⟩
def XF (neg : Bool) : D -> D -> Option D
 | x, .dtt ks _ => match YE x with
  | some k => some (.bl (neg != YD k ks))
  | none => none
 | _, _ => none
theorem Zca {neg : Bool} {x y d : D} (h : XF neg x y = some d) : ∃ ks xs k, y = .dtt ks xs /\ YE x = some k /\ d = .bl (neg != YD k ks) := by
 unfold XF at h
 split at h
 · rename_i ks xs
   cases hk : YE x with
   | none => rw [hk] at h; cases h
   | some k => rw [hk] at h; exact ⟨ks, xs, k, rfl, rfl, (Option.some.inj h).symm⟩
 · cases h
theorem Zaf {ta tb : TE} {qa qb : Ql} {a b : Env -> Option D} (ha : VE G ow ta qa a) (hb : VE G ow tb qb b) : VE G ow (Zbl ta tb) .cl (eOp (XF true) a b) := fun H0 av A σ H δ E d e Q k => by
 obtain ⟨x, y, ex, ey, ed⟩ := Uz e
 obtain ⟨ks, xs, kk, rfl, hk, rfl⟩ := Zca ed
 refine ha H0 av A σ H δ E _ ex _ fun v H1 s1 r1 => hb H0 av A σ H1 δ (E.mono s1) _ ey _ fun w H2 s2 r2 => ?_
 obtain ⟨b, rfl, hbb⟩ := UM hk r1.any
 obtain ⟨p, vs, rfl, _, rd, hl, l⟩ := r2.tp
 refine ⟨p, _, rfl, DGet.t rd (s2 _ _ hbb), ?_⟩
 rw [Zb9 kk (hl.trans l.length)]
 have := k (.bl (true != YD kk ks)) H2 (s1.trans s2) blq
 rw [Bool.true_bne] at this
 exact this
def Vv : D -> D -> Option D
 | .dtt ks xs, x => match YE x with
  | some k => X5 k ks xs
  | none => none
 | _, _ => none
theorem Zbg {x y d : D} (h : Vv y x = some d) : ∃ ks xs k, y = .dtt ks xs /\ YE x = some k /\ X5 k ks xs = some d := by
 unfold Vv at h
 split at h
 · rename_i ks xs
   cases hk : YE x with
   | none => rw [hk] at h; cases h
   | some k => rw [hk] at h; exact ⟨ks, xs, k, rfl, rfl, h⟩
 · cases h
theorem ZcE {ta tb : TE} {qa qb : Ql} {a b : Env -> Option D} (hq : qa = .cl \/ qa = .tp) (ha : VE G ow ta qa a) (hb : VE G ow tb qb b) : VE G ow (Zd4 ta tb) .cl (eOp Vv a b) := fun H0 av A σ H δ E d e Q k => by
 obtain ⟨y, x, ey, ex, ed⟩ := Uz e
 obtain ⟨ks, xs, kk, rfl, hk, hlk⟩ := Zbg ed
 refine ha H0 av A σ H δ E _ ey _ fun v H1 s1 r1 => hb H0 av A σ H1 δ (E.mono s1) _ ex _ fun w H2 s2 r2 => ?_
 obtain ⟨b, rfl, hbb⟩ := UM hk r2.any
 have r3 : RepT G.1 av (AV av A) H2 (.dtt ks xs) v := by
  have := (r1.same s2).tp
  rcases hq with rfl | rfl <;> exact this
 obtain ⟨p, vs, rfl, _, rd, hl, l⟩ := r3
 obtain ⟨u, h1, h2⟩ := Zan kk l hlk
 refine ⟨p, u, rfl, ?_, k u H2 (s1.trans s2) h2.t⟩
 rw [<- h1]
 exact DGet.t rd hbb
def YO (i : Nat) (κ ε : Env -> Option D) (δ : Env) : Option Out := match ε δ, Za i δ, κ δ with
 | some d, some (.dtt ks xs), some x => match YE x with
  | some k => if ks.length < sizeLine then some (.nx (δ.set i (some (X6 ks xs k d)))) else none
  | none => none
 | _, _, _ => none
theorem ZaG {i : Nat} {κ ε : Env -> Option D} {δ : Env} {o : Out} (h : YO i κ ε δ = some o) : ∃ d ks xs x k, ε δ = some d /\ Za i δ = some (.dtt ks xs) /\ κ δ = some x /\ YE x = some k /\ ks.length < sizeLine /\ o = .nx (δ.set i (some (X6 ks xs k d))) := by
 unfold YO at h
 split at h
 · rename_i d ks xs x h1 h2 h3
   cases hk : YE x with
   | none => rw [hk] at h; cases h
   | some k =>
    rw [hk] at h
    dsimp only at h
    by_cases hz : ks.length < sizeLine
    · rw [if_pos hz] at h
      exact ⟨d, ks, xs, x, k, h1, h2, h3, hk, hz, (Option.some.inj h).symm⟩
    · rw [if_neg hz] at h; cases h
 · cases h
theorem ZaV {te ti : TE} {q : Ql} {ε κ : Env -> Option D} (i : Nat) (hi : ow.contains i = true) (h : VE G ow te .cl ε) (hk : VE G ow ti q κ) : VS G ow ow owB owC (Qz (Yq i) ti te) (YO i κ ε) := fun H0 av A σ H δ E o e De k => by
 obtain ⟨d, ks, xs, x, kk, e1, e2, e3, hkk, hz, rfl⟩ := ZaG e
 have hi' : i ∈ ow := by simpa using hi
 cases hA : A i with
 | none => exact absurd hA (E.dom' i hi')
 | some a =>
  refine h H0 av A σ H δ E d e1 _ fun v H1 s1 r1 => ?_
  have E1 := E.mono s1
  obtain ⟨u, g1, _, g3⟩ := E1.var i _ (Ya e2)
  refine ⟨u, g1, hk H0 av A σ H1 δ E1 _ e3 _ fun y H2 s2 r2 => ?_⟩
  have E2 := E1.mono s2
  obtain ⟨u', g1', _, g3'⟩ := E2.var i _ (Ya e2)
  obtain ⟨rfl, vs, q1, q0, q2⟩ := g3' a hA
  have eu : u = .ref a := (g3 a hA).1
  subst eu
  obtain ⟨b, rfl, hbb⟩ := UM hkk r2.any
  refine ⟨a, _, rfl, DPut.t q1 hbb ?_, k A σ _ (E2.put hA (Ya e2) (fun b o hb e => by rw [Zn hb]; exact e) (by rw [ZE]; exact fun z => by cases z) ?_)⟩
  · have : (ks.zip vs).length = ks.length := by rw [List.length_zip, <- q2.length, q0]; omega
    rw [this]
    exact hz
  · have ex : ∀ b o, ¬ AV av A b -> H2 b = some o -> upd H2 a (.dT (ZZ (ks.zip vs) kk v)) b = some o := fun b o n e => by
     rw [Zn fun z => n (.inr ⟨i, by rw [z]; exact hA⟩)]
     exact e
    exact ZcC kk q0 (q2.ext ex) ((RepT.r (r1.same s2)).ext ex) ZE
end
end DL
namespace L2
open PySem PySem.Spec PyProof.Rows
def ZcY (trs : List (TE × TE)) : TE := fun σ H Q => ∀ p, H p = none -> QB trs σ (upd H p (.dT [])) fun ps H2 => H2 p = some (.dT []) /\ ∃ b k y, ps = [(V.ref b, y)] /\ H2 b = some (.tup ((k : List Key).map kV)) /\ Q (.ref p) (upd H2 p (.dT [(k, y)]))
theorem ZaW {X : Cx} {pos : Pos} {ke ve : Expr} {tk tv : TE} (hu : X.A.units + 1 < cLine) (hk : PE X ke tk) (hv : PE X ve tv) : PE X (.Dict [some ke] [ve] pos) (ZcY [(tk, tv)]) := by
 intro pins s σ H Q I q
 have hn := I.hok.fresh (Nat.le_refl s.heap.objs.size)
 have I1 := I.laid (a := s.heap.objs.size) (o := .dT []) (h' := s.heap.push { cls := .type "dict", data := .dict #[] }) (t' := s.toks) (fun _ _ q => Heap.get?_push_of_some _ q) (Nat.le_refl _) (Zct s.heap I.big)
 refine wpAny_Dict_any rfl rfl (List.cons_ne_nil _ _) (Nat.le_of_ble_eq_true rfl) (thn ((Zcv hk hv Zdp) pins _ σ _ _ I1 (q _ hn)) fun ws s2 ⟨ps, H2, I2, rel, e, b, k, y, ep, eb, q2⟩ => ?_)
 subst ep
 cases rel with
 | @cons p0 w1 _ _ h t =>
  cases t
  obtain ⟨u, r⟩ := w1
  obtain ⟨h1, h2⟩ := h
  cases (show u = Value.ref b from h1)
  obtain ⟨z, hd, xs, rx, dd⟩ := Zd3 I2.hok e
  have hxs : xs = [] := by cases rx; rfl
  subst hxs
  unfold storeAll
  simp only [List.forIn_cons, List.forIn_nil]
  refine wpAny_bind (wpAny_bind (wpAny_dictSet_heap (hsz := Nat.zero_le _) (knd := tupleKind (Yi X.prog X.w)) (show X.A.units < cLine by omega) (Vk I2.hok eb) dd fun h' dd' hs => wpAny_pure (wpAny_pure ?_)))
  refine ⟨.ref s.heap.objs.size, _, ?_, rfl, q2⟩
  obtain ⟨qo, es, ep, hq, g2, g3, g4, _, g5⟩ := dd'
  refine Qy I2 (by rw [e]; exact True.intro) hs ⟨qo, hq⟩ ⟨by show 1 <= sizeLine; decide, hd, _, (KT.put (kvs := []) (xs := []) .nil k eb h2).keeps fun c ys ec => ?_, qo, es, ep, hq, g2, g3, g4, g5⟩
  rw [Zn (ne_of ec e (fun z => nomatch z))]
  exact ec
section
variable {X : Cx}
end
end L2
namespace DL
open PySem PySem.Spec L2
section
variable {G : Cn} {ow owN owB owC ow1 : List Nat}
def Y7 (κ ε : Env -> Option D) (δ : Env) : Option D := match κ δ, YX ε δ with
 | some x, some d => match YE x with
  | some k => some (.dtt [k] [d])
  | none => none
 | _, _ => none
open Classical in
theorem Zap {tk tv : TE} {q1 q2 : Ql} {κ ε : Env -> Option D} (h1 : VE G ow tk q1 κ) (h2 : VE G ow tv q2 ε) : ZfZ G ow (ZcY [(tk, tv)]) (Y7 κ ε) := fun H0 av A σ H δ E d e Q k => fun p hp => by
 unfold Y7 at e
 cases hx : κ δ with
 | none => rw [hx] at e; cases e
 | some x =>
  cases hy : YX ε δ with
  | none => rw [hx, hy] at e; cases e
  | some y =>
   rw [hx, hy] at e
   dsimp only at e
   cases hk : YE x with
   | none => rw [hk] at e; cases e
   | some kk =>
    rw [hk] at e
    cases e
    have sp : Same H (upd H p (.dT [])) := Z0 hp
    refine h1 H0 av A σ _ δ (E.mono sp) x hx _ fun v H1 s1 r1 => ?_
    refine h2.scal H0 av A σ _ δ ((E.mono sp).mono s1) y hy _ fun u H2 s2 r2 => ?_
    obtain ⟨b, rfl, hbb⟩ := UM hk r1.any
    have sy : Zi y = true := Zbv hy
    have eu : u = val y := (RepT.r r2).val sy
    subst eu
    have hp2 : H2 p = some (.dT []) := s2 _ _ (s1 _ _ ZE)
    refine ⟨hp2, b, kk, val y, rfl, s2 _ _ hbb, ?_⟩
    have eu2 : upd H2 p (.dT [(kk, val y)]) = upd (fun b => if b = p then none else H2 b) p (.dT (([kk] : List (List Key)).zip [val y])) := by
     funext b
     by_cases hb : b = p
     · rw [hb, ZE, ZE]
       rfl
     · rw [Zn hb, Zn hb, if_neg hb]
    rw [eu2]
    refine k p [kk] [val y] [y] (fun b => if b = p then none else H2 b) (fun b o hb => ?_) (if_pos rfl) rfl (.cons (.of_val sy) .nil) rfl
    have hbp : b ≠ p := fun z => by rw [z, hp] at hb; cases hb
    show (if b = p then none else H2 b) = some o
    rw [if_neg hbp]
    exact s2 _ _ (s1 _ _ (sp _ _ hb))
end
end DL
namespace L2
open PySem PySem.Spec PyProof.Rows
section
variable {X : Cx}
def rTupC : V -> List V -> Hp -> VK -> Prop := fun x vs H Q => ∃ p xs y, x = .ref p /\ vs = [y] /\ H p = some (.tup xs) /\ Yc y = true /\ xs.all Yc = true /\ Q (.int (xs.countP fun z => eqV z y : Nat)) H
theorem Zaq : MtR X "tuple.count" rTupC := by
 intro pins s σ H x xs v us Q I rx rs h
 obtain ⟨p, zs, y, rfl, rfl, hq, fy, fs, q⟩ := h
 cases rx
 obtain ⟨u, rfl, ru⟩ := Xf rs
 obtain ⟨its, r, pl, hz⟩ := I.tuple (SqT.of hq)
 obtain ⟨⟨cls, dd, data, sl⟩, ho, hc, n, hd⟩ := id pl
 simp only at hc hd
 subst hc hd
 refine call_meets PySem.F.slot_tuple_count ⟨_, ho, rfl⟩ PySem.F.entry_tuple_count (PySem.F.args_tuple_count_2 _ _) (SeqAt.tuple_countAt p its.toArray n dd sl u (eqU y)) ⟨ho, fun w hw => VH ru fy r fs w (by simpa using hw), ?_⟩
 rw [show its.toArray.toList = its from rfl, QS r fs]
 exact ⟨.int _, H, I.tok _, ⟨_, rfl⟩, q⟩
end
end L2
namespace DL
open PySem PySem.Spec L2
section
variable {G : Cn} {ow owN owB owC ow1 : List Nat}
def eTM (a b : Env -> Option D) (δ : Env) : Option D := match a δ with
 | some (.tup xs) => match b δ with
  | some y => if xs.all Zi && Zi y then lcountD xs y else none
  | none => none
 | _ => none
theorem Zed {K : PySem.W.Frag} {to tb : TE} {q0 q : Ql} {a b : Env -> Option D} (ha : VE G ow to q0 a) (hb : VE G ow tb q b) :
 VE G ow (tBM K "tuple" rTupC to (Xy tb tNil)) .cl (eTM a b) := fun H0 av A σ H δ E d e Q k => by
 unfold eTM at e
 cases hx : a δ with
 | none => rw [hx] at e; cases e
 | some x =>
  rw [hx] at e
  cases x <;> first | (cases e; done) | skip
  rename_i xs
  dsimp only at e
  cases hy : b δ with
  | none => rw [hy] at e; cases e
  | some y =>
   rw [hy] at e
   dsimp only at e
   by_cases hz : (xs.all Zi && Zi y) = true
   · rw [if_pos hz] at e
     rw [Bool.and_eq_true] at hz
     refine ha H0 av A σ H δ E _ hx _ fun v H1 s1 r1 => ?_
     obtain ⟨p, vs, rfl, _, hq, l⟩ := r1.any
     have ev := l.vals hz.1
     subst ev
     refine ⟨.inr (.inr (.inr (.inr ⟨rfl, _, hq⟩))), ?_⟩
     refine hb H0 av A σ H1 δ (E.mono s1) y hy _ fun v2 H2 s2 r2 => ?_
     have e2 : v2 = val y := r2.any.val hz.2
     subst e2
     cases e
     have rr : Rep G.1 (AV av A) H2 (.int ((xs.map val).countP fun z => eqV z (val y) : Nat)) (val (.int ((xs.map val).countP fun z => eqV z (val y) : Nat))) := Rep.of_val rfl
     exact ⟨p, _, _, rfl, rfl, s2 _ _ hq, VW hz.2, VY hz.1, k _ H2 (s1.trans s2) rr.t⟩
   · rw [if_neg hz] at e; cases e
def Vw (γ : D -> Env -> Option Env) (ε : Env -> Option D) (δ : Env) : Option Out := match ε δ with
 | some d => match γ d δ with
  | some δ' => some (.nx δ')
  | none => none
 | none => none
theorem ZdN {te : TE} {g : TG} {γ : D -> Env -> Option Env} {ε : Env -> Option D} (h : VE G ow te .cl ε) (hg : VG G ow ow g γ) : VS G ow ow owB owC (YT te g) (Vw γ ε) := fun H0 av A σ H δ E o e De k => by
 unfold Vw at e
 cases he : ε δ with
 | none => rw [he] at e; cases e
 | some d =>
  rw [he] at e
  dsimp only at e
  cases hγ : γ d δ with
  | none => rw [hγ] at e; cases e
  | some δ' =>
   rw [hγ] at e
   cases e
   refine h H0 av A σ H δ E d he _ fun v H1 s1 r1 => ?_
   exact hg H0 av A σ H1 δ (E.mono s1) d v (RepT.r r1) δ' hγ _ fun A' σ' H' s' E' => k A' σ' H' E'
end
end DL
namespace DL
open PySem PySem.Spec L2
theorem V7 (i j : Int) : eqD (.int i) (.int j) = some (.bl (decide (i = j))) := by
 show (if (Zi (.int i) && Zi (.int j) && scal (V.int i) (V.int j)) = true then some (D.bl (decide (V.int i = V.int j))) else _) = _
 rw [if_pos (by rfl)]
 simp
theorem QU (a b : List Nat) : eqD (.str a) (.str b) = some (.bl (decide (a = b))) := by
 show (if (Zi (.str a) && Zi (.str b) && scal (S a) (S b)) = true then some (D.bl (decide (S a = S b))) else _) = _
 rw [if_pos (by rfl)]
 simp only [Ze7]
theorem UN (a b : Bool) : eqD (.bl a) (.bl b) = some (.bl (decide (a = b))) := by
 show (if (Zi (.bl a) && Zi (.bl b) && scal (V.bl a) (V.bl b)) = true then some (D.bl (decide (V.bl a = V.bl b))) else _) = _
 rw [if_pos (by rfl)]
 simp
theorem QV : eqD .non .non = some (.bl true) := rfl
theorem QW (i : Int) : eqD .non (.int i) = some (.bl false) := by
 show (if (Zi .non && Zi (.int i) && scal V.non (V.int i)) = true then some (D.bl (decide (V.non = V.int i))) else _) = _
 rw [if_pos (by rfl)]
 simp
theorem QX (i : Int) : eqD (.int i) .non = some (.bl false) := by
 show (if (Zi (.int i) && Zi .non && scal (V.int i) V.non) = true then some (D.bl (decide (V.int i = V.non))) else _) = _
 rw [if_pos (by rfl)]
 simp
theorem Zbz (i j : Int) : neD (.int i) (.int j) = some (.bl (!decide (i = j))) := by unfold neD; rw [V7]
theorem QY (i j : List Nat) : neD (.str i) (.str j) = some (.bl (!decide (i = j))) := by unfold neD; rw [QU]
theorem ZcZ : neD .non .non = some (.bl false) := by unfold neD; rw [QV]; rfl
theorem Zc0 (i : Int) : neD .non (.int i) = some (.bl true) := by unfold neD; rw [QW]; rfl
theorem Zc1 (i : Int) : neD (.int i) .non = some (.bl true) := by unfold neD; rw [QX]; rfl
theorem V8 {γ : D -> Env -> Option Env} {φ : Env -> Option Out} (I : Nat -> Env -> Prop) : ∀ (xs : List D) (k : Nat) (δ : Env), I k δ ->
 (∀ (j : Nat) x δ, xs[j]? = some x -> I (k + j) δ -> ∃ δ1, γ x δ = some δ1 /\ ∃ δ2, φ δ1 = some (.nx δ2) /\ I (k + j + 1) δ2) -> ∃ δ', ZA γ φ xs δ = some (.nx δ') /\ I (k + xs.length) δ'
 | [], k, δ, h, _ => ⟨δ, rfl, h⟩
 | x :: xs, k, δ, h, step => by
  obtain ⟨δ1, h1, δ2, h2, h3⟩ := step 0 x δ rfl h
  obtain ⟨δ', h4, h5⟩ := V8 I xs (k + 1) δ2 h3 fun j y δ hy hI => by
   have := step (j + 1) y δ (by simpa using hy) (by rwa [show k + (j + 1) = k + 1 + j by omega])
   rwa [show k + (j + 1) + 1 = k + 1 + j + 1 by omega] at this
  refine ⟨δ', ?_, by rwa [List.length_cons, show k + (xs.length + 1) = k + 1 + xs.length by omega]⟩
  unfold ZA
  rw [h1]
  dsimp only
  rw [h2]
  exact h4
theorem ZcF {lo c : Int} {n i : Nat} {x : D} (h : (ZD lo c n)[i]? = some x) : i < n /\ x = .int (lo + (i : Nat) * c) := by
 have hi : i < n := by have := (List.getElem?_eq_some_iff.mp h).1; simpa [ZD] using this
 unfold ZD at h
 rw [List.getElem?_map, List.getElem?_range hi] at h
 exact ⟨hi, (Option.some.inj h).symm⟩
end DL
namespace DL
open PySem PySem.Spec L2
end DL
namespace DL
open PySem PySem.Spec L2
theorem XG {i j : Int} (h : 0 < j) : modD (.int i) (.int j) = some (.int (i % j)) := if_pos h
theorem UO {i j : Int} (h : YV i j) : fdivD (.int i) (.int j) = some (.int (i / j)) := if_pos h
theorem ZdO {cs : List Nat} {i : Int} {c : Nat} (h : cs.length <= sizeLine) (hz : atI cs i = some c) : ixD (.str cs) (.int i) = some (.str [c]) := by
 show (if cs.length <= sizeLine then (atI cs i).map fun c => D.str [c] else none) = _
 rw [if_pos h, hz]
 rfl
theorem QZ {i j : Int} (h1 : 0 < j) (h2 : j < 1000000) : YV i j := ⟨h1, by omega⟩
end DL
namespace DL
open PySem PySem.Spec L2
theorem Zp {a b : Env -> Option Out} {δ δ' : Env} (h : a δ = some (.nx δ')) : Zd a b δ = b δ' := by
 unfold Zd; rw [h]
theorem XH {a b : Env -> Option Out} {δ : Env} {d : D} (h : a δ = some (.rt d)) : Zd a b δ = some (.rt d) := by
 unfold Zd; rw [h]
theorem ZM {i : Nat} {e : Env -> Option D} {δ : Env} {d : D} (h : e δ = some d) : Zg i e δ = some (.nx (δ.set i (some d))) := by
 unfold Zg; rw [h]
theorem YF {e : Env -> Option D} {δ : Env} {d : D} (h : e δ = some d) : Zu e δ = some (.rt d) := by
 unfold Zu; rw [h]
theorem Xu {t : Env -> Option Bool} {a b : Env -> Option Out} {δ : Env} (h : t δ = some true) : sIf t a b δ = a δ := by
 unfold sIf; rw [h]
theorem Z6 {t : Env -> Option Bool} {a b : Env -> Option Out} {δ : Env} (h : t δ = some false) : sIf t a b δ = b δ := by
 unfold sIf; rw [h]
theorem Z7 {e : Env -> Option D} {δ : Env} {b : Bool} (h : e δ = some (.bl b)) : xB e δ = some b := by
 unfold xB; rw [h]; rfl
theorem ZbA {t : Env -> Option Bool} {δ : Env} {b : Bool} (h : t δ = some b) : YZ t δ = some (!b) := by
 unfold YZ; rw [h]
theorem ZeO {a b : Env -> Option Bool} {δ : Env} {x : Bool} (h1 : a δ = some false) (h2 : b δ = some x) : xOr a b δ = some x := by
 unfold xOr; rw [h1]; exact h2
theorem UP {a b : Env -> Option Bool} {δ : Env} {x : Bool} (h1 : a δ = some true) (h2 : b δ = some x) : Yv a b δ = some x := by
 unfold Yv; rw [h1]; exact h2
theorem ZbB {a b : Env -> Option Bool} {δ : Env} (h1 : a δ = some false) : Yv a b δ = some false := by
 unfold Yv; rw [h1]
theorem YG {n : Nat} {m : List D -> Option D} {α : Env -> Option (List D)} {δ : Env} {ds : List D} (h : α δ = some ds) (hn : ds.length = n) : Zw n m [] α δ = m ds := by
 unfold Zw
 rw [h]
 dsimp only
 rw [List.append_nil, if_pos hn]
theorem Zh {a : Env -> Option D} {b : Env -> Option (List D)} {δ : Env} {x : D} {xs : List D} (h1 : a δ = some x) (h2 : b δ = some xs) : Zb a b δ = some (x :: xs) := by
 unfold Zb; rw [h1, h2]
theorem Zm {f : D -> D -> Option D} {a b : Env -> Option D} {δ : Env} {x y : D} (h1 : a δ = some x) (h2 : b δ = some y) : eOp f a b δ = f x y := by
 unfold eOp; rw [h1, h2]
theorem ZdP {a b : Env -> Option D} {δ : Env} {x : D} (h1 : a δ = some (.bl true)) (h2 : b δ = some x) : XZ a b δ = some x := by
 unfold XZ; rw [h1]; exact h2
theorem Vx {α : Env -> Option (List D)} {δ : Env} {ds : List D} (h : α δ = some ds) (hl : ds.length <= 1000) : ZJ α δ = (some (.tup ds) : Option D) := by
 unfold ZJ; rw [h]
 exact if_pos (Nat.le_trans hl (by decide))
theorem UQ {α : Env -> Option (List D)} {δ : Env} {ds : List D} (h : α δ = some ds) (hl : ds.length <= 1000) : ZQ α δ = (some (.lst ds) : Option D) := by
 unfold ZQ; rw [h]
 exact if_pos (Nat.le_trans hl (by decide))
theorem Q0 {γ : D -> Env -> Option Env} {φ : Env -> Option Out} (I : Env -> Prop) : ∀ (xs : List D) (δ : Env), I δ ->
 (∀ x ∈ xs, ∀ δ, I δ -> ∃ δ1, γ x δ = some δ1 /\ ∃ δ2, φ δ1 = some (.nx δ2) /\ I δ2) -> ∃ δ', ZA γ φ xs δ = some (.nx δ') /\ I δ'
 | [], δ, h, _ => ⟨δ, rfl, h⟩
 | x :: xs, δ, h, step => by
  obtain ⟨δ1, h1, δ2, h2, h3⟩ := step x List.mem_cons_self δ h
  obtain ⟨δ', h4, h5⟩ := Q0 I xs δ2 h3 fun y hy => step y (List.mem_cons_of_mem _ hy)
  refine ⟨δ', ?_, h5⟩
  unfold ZA
  rw [h1]
  dsimp only
  rw [h2]
  exact h4
theorem ZbC {lo c : Int} {n : Nat} {x : D} (h : x ∈ ZD lo c n) : ∃ k : Nat, k < n /\ x = .int (lo + (k : Nat) * c) := by
 unfold ZD at h
 obtain ⟨k, hk, rfl⟩ := List.mem_map.mp h
 exact ⟨k, List.mem_range.mp hk, rfl⟩
theorem ZaX {τ : Env -> Option Bool} {φ : Env -> Option Out} (I J : Env -> Prop) (μ : Env -> Nat)
 (step : ∀ δ, I δ -> (τ δ = some false /\ J δ) \/ (τ δ = some true /\ ∃ δ', φ δ = some (.nx δ') /\ I δ' /\ μ δ' < μ δ)) :
 ∀ (k : Nat) (δ : Env), μ δ <= k -> I δ -> ∃ n δ', ZB τ φ n δ = some (.nx δ') /\ J δ'
 | 0, δ, hk, h => by
  rcases step δ h with ⟨h1, h2⟩ | ⟨h1, δ', h2, h3, h4⟩
  · exact ⟨1, δ, by unfold ZB; rw [h1], h2⟩
  · omega
 | k + 1, δ, hk, h => by
  rcases step δ h with ⟨h1, h2⟩ | ⟨h1, δ', h2, h3, h4⟩
  · exact ⟨1, δ, by unfold ZB; rw [h1], h2⟩
  · obtain ⟨n, δ2, h5, h6⟩ := ZaX I J μ step k δ' (by omega) h3
    refine ⟨n + 1, δ2, ?_, h6⟩
    unfold ZB
    rw [h1]
    dsimp only
    rw [h2]
    exact h5
theorem Zbh {τ : Env -> Option Bool} {φ : Env -> Option Out} (I J : Env -> Prop) (μ : Env -> Nat)
 (step : ∀ δ, I δ -> (τ δ = some false /\ J δ) \/ (τ δ = some true /\ ∃ δ', φ δ = some (.nx δ') /\ I δ' /\ μ δ' < μ δ)) (δ : Env) (h : I δ) : ∃ δ', Z5 τ φ δ = some (.nx δ') /\ J δ' := by
 obtain ⟨n, δ', h1, h2⟩ := ZaX I J μ step (μ δ) δ (Nat.le_refl _) h
 exact ⟨δ', V2 h1, h2⟩
end DL
namespace DL
open PySem PySem.Spec L2
theorem Vy {α : Env -> Option (List D)} {δ : Env} {j : Int} (h : α δ = some [.int j]) (h1 : -1000000 <= j) (h2 : j <= 1000000) : ZL α δ = some (ZD 0 1 j.toNat) := by
 unfold ZL
 rw [h]
 dsimp only
 rw [if_pos ⟨by omega, by omega⟩]
theorem ZeP {α : Env -> Option (List D)} {δ : Env} {i j : Int} (h : α δ = some [.int i, .int j]) (h1 : -1000000 <= j) (h2 : j <= 1000000) (h3 : -1000000 <= i) (h4 : i <= 1000000) : ZL α δ = some (ZD i 1 (j - i).toNat) := by
 unfold ZL
 rw [h]
 dsimp only
 rw [if_pos ⟨by omega, by omega, by omega, by omega⟩]
theorem Q1 {i : Nat} {ε : Env -> Option D} {δ : Env} {xs : List D} {d : D} (h1 : Za i δ = some (.lst xs)) (h2 : ε δ = some d) (hl : xs.length <= 1000000) : Yn i ε δ = some (.nx (δ.set i (some (.lst (xs ++ [d]))))) := by
 unfold Yn
 rw [h1]
 dsimp only
 rw [h2]
 dsimp only
 rw [if_pos (by rw [PySem.sizeLine_eq]; omega)]
theorem Q2 {n j : Nat} {x : D} (h : (ZD 0 1 n)[j]? = some x) : j < n /\ x = .int (j : Nat) := by
 have hj : j < n := by have := (List.getElem?_eq_some_iff.mp h).1; simpa [ZD] using this
 refine ⟨hj, ?_⟩
 unfold ZD at h
 rw [List.getElem?_map, List.getElem?_range hj] at h
 have := Option.some.inj h
 rw [<- this]
 show D.int (0 + (j : Int) * 1) = _
 rw [show (0 + (j : Int) * 1) = j by omega]
theorem ZbD (lo c : Int) (n : Nat) : (ZD lo c n).length = n := by simp [ZD]
theorem YH {ι : Env -> Option (List D)} {γ : D -> Env -> Option Env} {φ : Env -> Option Out} {δ : Env} {xs : List D} {o : Out} (h1 : ι δ = some xs) (h2 : ZA γ φ xs δ = some o) : ZP ι γ φ δ = some o := by
 unfold ZP
 rw [h1]
 exact h2
theorem ZbE {ι : Env -> Option (List D)} {γ : D -> Env -> Option Env} {τ : Env -> Option Bool} {ε : Env -> Option D} {n : Nat} {js : List Nat} {δ δ0 : Env} {xs ys : List D} (h1 : ι δ = some xs) (hb : Y2 n δ js = δ0) (h2 : YN γ τ ε δ0 xs = some ys) (hl : ys.length <= 1000000) : Xn ι γ τ ε n js δ = some (.lst ys) := by
 unfold Xn
 rw [h1]
 dsimp only
 rw [hb, h2]
 dsimp only
 rw [if_pos (by rw [PySem.sizeLine_eq]; omega)]
theorem Zee {f : List Nat -> List D -> Option D} {a : Env -> Option D} {α : Env -> Option (List D)} {δ : Env} {s : List Nat} {ds : List D} (h1 : a δ = some (.str s)) (h2 : α δ = some ds) : eBM f a α δ = f s ds := by
 unfold eBM
 rw [h1, h2]
theorem XI {f : List D -> Option D} {α : Env -> Option (List D)} {δ : Env} {ds : List D} (h : α δ = some ds) : eCB f α δ = f ds := by
 unfold eCB
 rw [h]
theorem XJ {n : Nat} {f : Env -> Option Out} {vs : List D} {δ : Env} {d : D} (h1 : (vs.map some ++ List.replicate (n - vs.length) none) = δ) (h2 : f δ = some (.rt d)) : DL.run n f vs = some d := by
 unfold DL.run
 rw [h1, h2]
theorem nil_of {δ : Env} : eNil δ = some [] := rfl
theorem ZeQ {t : List (String × Bool)} {a : Env -> Option D} {δ : Env} {d : D} {b : Bool} (h1 : a δ = some d) (h2 : Vt t d = some b) : XC t a δ = some (.bl b) := by
 unfold XC
 rw [h1]
 dsimp only
 rw [h2]
end DL
namespace DL
open PySem PySem.Spec L2
theorem ZcG {x : D} (hs : Zi x = false) (h : SeqAt.shaped (toP x) = true) : eqD x x = some (.bl true) := by
 unfold eqD
 rw [if_neg (by simp [hs]), h, if_pos (by rfl)]
 rw [SeqAt.eqv_refl _ (SeqAt.canLay_of_shaped h)]
end DL
namespace DL
open PySem PySem.Spec L2
theorem add_int (i j : Int) : addX (.int i) (.int j) = some (.int (i + j)) := rfl
theorem add_str {a b : List Nat} (h : a.length + b.length <= 100000) : addX (.str a) (.str b) = some (.str (a ++ b)) := by
 show (if a.length + b.length <= PySem.sizeLine then some (D.str (a ++ b)) else none) = _
 rw [if_pos (by rw [PySem.sizeLine_eq]; omega)]
theorem Zcb {i j : Int} (h1 : -1000 <= j) (h2 : j <= 1000) : mulX (.int i) (.int j) = some (.int (i * j)) := if_pos (.inr (.inr ⟨by omega, by omega⟩))
theorem ZbF {n a : Nat} (h : a < n) : ixN n (a : Int) = some a := by
 unfold ixN
 rw [if_pos (by omega), if_pos (by omega), Int.toNat_natCast]
theorem UR {xs : List D} {a : Nat} {x : D} (h : xs[a]? = some x) : ixD (.lst xs) (.int (a : Int)) = some x := Um h
theorem ix_tup {xs : List D} {a : Nat} {x : D} (h : xs[a]? = some x) : ixD (.tup xs) (.int (a : Int)) = some x := Um h
theorem ix_str {cs : List Nat} {a : Nat} {c : Nat} (h : cs[a]? = some c) (hl : cs.length <= 100000) : ixD (.str cs) (.int (a : Int)) = some (.str [c]) := ZdO (by rw [PySem.sizeLine_eq]; omega) (Um h)
theorem Zc2 {i : Int} (h : 0 <= i) : ∃ a : Nat, i = (a : Int) := ⟨i.toNat, (Int.toNat_of_nonneg h).symm⟩
theorem US (i : Int) {m : Nat} (h : 0 < m) : ∃ a : Nat, i % (m : Int) = (a : Int) /\ a < m := by
 obtain ⟨a, ha⟩ := Zc2 (Int.emod_nonneg i (show (m : Int) ≠ 0 by omega))
 exact ⟨a, ha, by have := Int.emod_lt_of_pos i (b := (m : Int)) (by omega); omega⟩
theorem len_str {cs : List Nat} (h : cs.length <= 100000) : lenD [.str cs] = some (.int (cs.length : Int)) := if_pos (by rw [PySem.sizeLine_eq]; omega)
theorem Zar {c : Nat} {ms : List Nat} (h : c ∈ ms) : ∃ i : Nat, Z8 c ms = (i : Int) /\ ms[i]? = some c /\ i < ms.length := by
 unfold Z8
 cases e : ms.findIdx? (· == c) with
 | none =>
  have := List.findIdx?_eq_none_iff.mp e c h
  simp at this
 | some i =>
  obtain ⟨h1, h2, _⟩ := List.findIdx?_eq_some_iff_getElem.mp e
  refine ⟨i, rfl, ?_, h1⟩
  rw [List.getElem?_eq_getElem h1]
  congr 1
  simpa using h2
theorem ZdQ {c : String} {n : Nat} {m : List D -> Option D} {α : Env -> Option (List D)} {δ : Env} {ds : List D} (h : α δ = some ds) (hn : ds.length + 1 = n) : XD c n m [] α δ = m (.obj c [] [] :: ds) := by
 unfold XD
 rw [h]
 dsimp only
 rw [List.append_nil, if_pos (by rw [List.length_cons]; exact hn)]
end DL
namespace K15
open PySem PySem.Spec L2 DL
def YQ : List String := ["Rooms"]
def Y8 : List String := ["Rooms"]
def UT : List (String × Bool) := [("NoneType", false), ("bool", false), ("int", false), ("str", true), ("list", false), ("tuple", false), ("Rooms", false)]
noncomputable def f__wall : DL.Env -> Option Out :=
 (Z5 (xB (eC (.bl true))) sNext)
noncomputable def ZdR : List D -> Option D := run 1 f__wall
noncomputable def f_QI : DL.Env -> Option Out :=
 (Zu (XZ (eOp eqD (eCB lenD (Zb (Za 1) eNil)) (eC (.int 1))) (eOp (inD false) (Za 1) (Za 0))))
noncomputable def UU : List D -> Option D := run 2 f_QI
noncomputable def f_QE : DL.Env -> Option Out :=
 (Zd (Xo 0 YQ "marks" (Za 1))
 (Xo 0 Y8 "ways" (eCB Yw (Zb (Xn (Yh (Za 2)) (Zt 0) (fun _ => some true) (eCB Yw (Zb (Za 0) eNil)) 1 []) eNil))))
noncomputable def UV : List D -> Option D := runI 3 f_QE
noncomputable def f_Rooms_many : DL.Env -> Option Out :=
 (Zu (eCB lenD (Zb (ZY Y8 "ways" (Za 0)) eNil)))
noncomputable def f_QH : DL.Env -> Option Out :=
 (Zd (sIf (YZ (xB (Zw 2 UU [] (Zb (ZY YQ "marks" (Za 0)) (Zb (Za 2) eNil))))) sNever sNext)
 (Zu (eOp ixD (eOp ixD (ZY Y8 "ways" (Za 0)) (Za 1)) (eBM indexD (ZY YQ "marks" (Za 0)) (Zb (Za 2) eNil)))))
noncomputable def UW : List D -> Option D := run 3 f_QH
noncomputable def f_Rooms_walked : DL.Env -> Option Out :=
 (QG (Zw 1 ZdR [] (Zb (eC (.int 0)) eNil)))
noncomputable def XL : MTab := [("Rooms", 3, UW)]
noncomputable def f_QJ : DL.Env -> Option Out :=
 (Zd (Zg 3 (Y7 (ZJ (Zb (Za 1) (Zb (Za 2) eNil))) (eC (.str []))))
 (Zd (Zg 4 (ZQ (Zb (ZJ (Zb (Za 1) (Zb (Za 2) eNil))) eNil)))
 (Zd (Zg 5 (eC (.int 0)))
 (Zd (Z5 (xB (eOp (YL fun i j => decide (i < j)) (Za 5) (eCB lenD (Zb (Za 4) eNil)))) (Zd (Zg 6 (eOp ixD (Za 4) (Za 5)))
 (Zd (ZP (Yh (ZY YQ "marks" (Za 0))) (Zt 7) (Zd (Zg 8 (ZJ (Zb (Yy "led" XL (Za 0) (Zb (eOp ixD (Za 6) (eC (.int 0))) (Zb (Za 7) eNil))) (Zb (Yy "led" XL (Za 0) (Zb (eOp ixD (Za 6) (eC (.int 1))) (Zb (Za 7) eNil))) eNil))))
 (Zd (Zg 9 (eOp addX (eOp Vv (Za 3) (Za 6)) (Za 7)))
 (Zd (sIf (xB (eOp eqD (eTM (Za 8) (eC .non)) (eC (.int 1)))) (Zu (Za 9)) sNext)
 (sIf (Yv (xB (eOp eqD (eTM (Za 8) (eC .non)) (eC (.int 0)))) (xB (eOp (XF true) (Za 8) (Za 3)))) (Zd (YO 3 (Za 8) (Za 9))
 (Yn 4 (Za 8))) sNext)))))
 (Zg 5 (eOp addX (Za 5) (eC (.int 1)))))))
 (Zu (eC .non))))))
noncomputable def UX : List D -> Option D := run 10 f_QJ
noncomputable def f_QA : DL.Env -> Option Out :=
 (Zd (sIf (xB (eOp (YL fun i j => decide (i < j)) (Za 1) (eCB lenD (Zb (Za 0) eNil)))) (Zu (eOp ixD (Za 0) (Za 1))) sNext)
 (Zu (eC (.int 0))))
noncomputable def Yo : List D -> Option D := run 2 f_QA
noncomputable def f_QD : DL.Env -> Option Out :=
 (Zd (Zg 1 (ZQ (Zb (eC (.str [48, 49])) (Zb (eC (.str [97, 98])) (Zb (eC (.str [120, 121, 122])) (Zb (eC (.str [48, 97, 49, 98])) (Zb (eC (.str [98, 97])) (Zb (eC (.str [57, 122, 56])) eNil))))))))
 (Zu (eOp ixD (Za 1) (eOp modD (Za 0) (eCB lenD (Zb (Za 1) eNil))))))
noncomputable def UY : List D -> Option D := run 2 f_QD
noncomputable def f_QG : DL.Env -> Option Out :=
 (Y3 (YB 4 (ZQ eNil))
 (Y3 (ZP (ZL (Zb (Za 2) eNil)) (Zt 5) (Zd (Zy 4 (Zg 6 (ZQ eNil)))
 (Zd (Zy 4 (ZP (ZL (Zb (eCB lenD (Zb (Za 3) eNil)) eNil)) (Zt 7) (Zd (Zg 8 (Zw 2 Yo [] (Zb (Za 0) (Zb (eOp addX (eOp addX (Za 1) (eOp mulX (Za 5) (eCB lenD (Zb (Za 3) eNil)))) (Za 7)) eNil))))
 (Yn 6 (eOp ixD (ZQ (Zb (eOp modD (Za 8) (Za 2)) (Zb (eC .non) eNil))) (eCB intD (Zb (eOp (YL fun i j => decide (j < i)) (eOp modD (eOp fdivD (Za 8) (Za 2)) (eC (.int 5))) (eC (.int 2))) eNil)))))))
 (X4 4 6))))
 (Zu (Za 4))))
noncomputable def V9 : List D -> Option D := runF 9 f_QG
noncomputable def f_QB : DL.Env -> Option Out :=
 (Zd (YB 4 (Zw 4 V9 [] (Zb (Za 0) (Zb (Za 1) (Zb (Za 2) (Zb (Za 3) eNil))))))
 (Zd (Zy 4 (Zg 5 (eC (.dct [] []))))
 (Zd (ZP (ZL (Zb (eC (.int 1)) (Zb (Za 2) eNil))) (Zt 6) (Zd (Zy 4 (Zg 7 (eOp modD (eOp fdivD (Zw 2 Yo [] (Zb (Za 0) (Zb (eOp addX (Za 1) (eOp mulX (Za 6) (eCB lenD (Zb (Za 3) eNil)))) eNil))) (eC (.int 60))) (eOp mulX (Za 6) (eCB lenD (Zb (Za 3) eNil))))))
 (Zd (Zy 4 (Z5 (xB (eOp (inK false) (Za 7) (Za 5))) (Zg 7 (eOp modD (eOp addX (Za 7) (eC (.int 1))) (eOp mulX (Za 6) (eCB lenD (Zb (Za 3) eNil)))))))
 (Zd (Zy 4 (Y5 5 (Za 7) (eC (.bl true))))
 (Xr 4 (eOp fdivD (Za 7) (eCB lenD (Zb (Za 3) eNil))) (eOp modD (Za 7) (eCB lenD (Zb (Za 3) eNil))) (Za 6))))))
 (Zd (ZP (ZL (Zb (Za 2) eNil)) (Zt 6) (sIf (xB (eOp eqD (eLM lcountD (eOp ixD (Za 4) (Za 6)) (eC .non)) (eCB lenD (Zb (Za 3) eNil)))) (Zd (Zy 4 (Zg 8 (Zw 2 Yo [] (Zb (Za 0) (Zb (eOp addX (eOp addX (Za 1) (eOp mulX (Za 6) (eCB lenD (Zb (Za 3) eNil)))) (eC (.int 1))) eNil)))))
 (Xr 4 (Za 6) (eOp modD (eOp fdivD (Za 8) (eC (.int 7))) (eCB lenD (Zb (Za 3) eNil))) (eOp modD (Za 8) (Za 2)))) sNext))
 (Zu (eCB Yw (Zb (Xn (Yh (Za 4)) (Zt 0) (fun _ => some true) (eCB Yw (Zb (Za 0) eNil)) 1 []) eNil)))))))
noncomputable def UZ : List D -> Option D := run 9 f_QB
noncomputable def f_QF : DL.Env -> Option Out :=
 (Zd (Zg 4 (ZQ (Zb (ZJ (Zb (Za 2) (Zb (Za 3) (Zb (eC (.str [])) eNil)))) eNil)))
 (Zd (Zg 5 (Y7 (ZJ (Zb (Za 2) (Zb (Za 3) eNil))) (eC (.bl true))))
 (Zd (Zg 6 (eC (.int 0)))
 (Zd (Z5 (xB (eOp (YL fun i j => decide (i < j)) (Za 6) (eCB lenD (Zb (Za 4) eNil)))) (Zd (Vw (V1 3 (Y1 7 (Y1 8 (Y1 9 gsNil)))) (eOp ixD (Za 4) (Za 6)))
 (Zd (Zg 6 (eOp addX (Za 6) (eC (.int 1))))
 (ZP (ZL (Zb (eCB lenD (Zb (Za 1) eNil)) eNil)) (Zt 10) (Zd (Zg 11 (ZJ (Zb (eOp ixD (eOp ixD (Za 0) (Za 7)) (Za 10)) (Zb (eOp ixD (eOp ixD (Za 0) (Za 8)) (Za 10)) eNil))))
 (Zd (sIf (xB (eOp neD (Z1 (eOp ixD (Za 11) (eC (.int 0)))) (Z1 (eOp ixD (Za 11) (eC (.int 1)))))) (Zu (eOp addX (Za 9) (eOp ixD (Za 1) (Za 10)))) sNext)
 (sIf (Yv (xB (Y0 (eOp ixD (Za 11) (eC (.int 0))))) (xB (eOp (XF true) (Za 11) (Za 5)))) (Zd (YO 5 (Za 11) (eC (.bl true)))
 (Yn 4 (ZJ (Zb (eOp ixD (Za 11) (eC (.int 0))) (Zb (eOp ixD (Za 11) (eC (.int 1))) (Zb (eOp addX (Za 9) (eOp ixD (Za 1) (Za 10))) eNil)))))) sNext)))))))
 (Zu (eC .non))))))
noncomputable def U0 : List D -> Option D := run 12 f_QF
noncomputable def f_QC : DL.Env -> Option Out :=
 (Zd (ZP (Yh (Za 3)) (Zt 4) (Zd (Zg 2 (eOp ixD (eOp ixD (Za 0) (Za 2)) (eBM indexD (Za 1) (Zb (Za 4) eNil))))
 (sIf (xB (Z1 (Za 2))) (Zu (eC (.bl false))) sNext)))
 (Zu (eC (.bl true))))
noncomputable def Ua : List D -> Option D := run 5 f_QC
noncomputable def f_QK : DL.Env -> Option Out :=
 (Zd (Zg 1 (Zw 1 UY [] (Zb (Zw 2 Yo [] (Zb (Za 0) (Zb (eC (.int 0)) eNil))) eNil)))
 (Zd (Zg 2 (eOp addX (eC (.int 1)) (eOp modD (Zw 2 Yo [] (Zb (Za 0) (Zb (eC (.int 1)) eNil))) (eC (.int 6)))))
 (Zd (Zg 3 (Zw 4 UZ [] (Zb (Za 0) (Zb (eC (.int 2)) (Zb (Za 2) (Zb (Za 1) eNil))))))
 (Zd (Zg 4 (XD "Rooms" 3 UV [] (Zb (Za 1) (Zb (Za 3) eNil))))
 (Zd (ZP (ZL (Zb (Za 2) eNil)) (Zt 5) (ZP (ZL (Zb (Za 2) eNil)) (Zt 6) (Zd (Zg 7 (Zw 3 UX [] (Zb (Za 4) (Zb (Za 5) (Zb (Za 6) eNil)))))
 (Zd (Zg 8 (Zw 4 U0 [] (Zb (Za 3) (Zb (Za 1) (Zb (Za 5) (Zb (Za 6) eNil))))))
 (sIf (xB (Z1 (Za 8))) (sIf (xB (Y0 (Za 7))) (Zu (eC (.bl false))) sNext) (sIf (xOr (YZ (xB (XC UT (Za 7)))) (xB (eOp neD (Za 7) (Za 8)))) (Zu (eC (.bl false))) (sIf (xB (eOp eqD (Zw 4 Ua [] (Zb (Za 3) (Zb (Za 1) (Zb (Za 5) (Zb (Za 7) eNil))))) (Zw 4 Ua [] (Zb (Za 3) (Zb (Za 1) (Zb (Za 6) (Zb (Za 7) eNil))))))) (Zu (eC (.bl false))) sNext)))))))
 (Zu (eOp eqD (ZY Y8 "ways" (Za 4)) (Za 3))))))))
noncomputable def U1 : List D -> Option D := run 9 f_QK
end K15
namespace K15
open PySem PySem.Spec L2 DL
def top (i : Nat) : Stmt := PySem.Challenge.pw_grooveway_k15_parted_rooms.main.body.getD i (.Pass ⟨0, 0, 0, 0⟩)
abbrev X7 : Stmt := top 0
abbrev XM : Stmt := top 5
abbrev Xv : Stmt := Up (top 7) 0
abbrev X8 : Stmt := Up (top 7) 1
abbrev XN : Stmt := Up (top 7) 2
abbrev X9 : Stmt := Up (top 7) 3
abbrev XO : Stmt := top 9
abbrev XQ : Stmt := top 11
abbrev XR : Stmt := top 12
abbrev XS : Stmt := top 13
abbrev Xw : Stmt := top 14
abbrev XT : Stmt := top 15
abbrev XU : Stmt := top 16
abbrev YR : Stmt := top 17
theorem Zfl : FnScope ["marks", "text"] ["marks", "text"] (Zo XM) := ⟨rfl, rfl, rfl, by decide +kernel, rfl, by decide +kernel, by decide +kernel⟩
theorem Zfm : FnScope ["self", "marks", "ways"] ["self", "marks", "ways"] (Zo Xv) := ⟨rfl, rfl, rfl, by decide +kernel, rfl, by decide +kernel, by decide +kernel⟩
theorem Zfn : FnScope ["self", "room", "mark"] ["self", "room", "mark"] (Zo XN) := ⟨rfl, rfl, rfl, by decide +kernel, rfl, by decide +kernel, by decide +kernel⟩
theorem Zfo : FnScope ["rooms", "one", "other", "rows", "order", "place", "pair", "mark", "to", "row"] ["rooms", "one", "other"] (Zo XO) := ⟨rfl, rfl, rfl, by decide +kernel, rfl, by decide +kernel, by decide +kernel⟩
theorem Zfp : FnScope ["script", "k"] ["script", "k"] (Zo XQ) := ⟨rfl, rfl, rfl, by decide +kernel, rfl, by decide +kernel, by decide +kernel⟩
theorem Zfq : FnScope ["cell", "some"] ["cell"] (Zo XR) := ⟨rfl, rfl, rfl, by decide +kernel, rfl, by decide +kernel, by decide +kernel⟩
theorem Zfr : FnScope ["script", "at", "many", "marks", "table", "room", "row", "k", "cell"] ["script", "at", "many", "marks"] (Zo XS) := ⟨rfl, rfl, rfl, by decide +kernel, rfl, by decide +kernel, by decide +kernel⟩
theorem Zfs : FnScope ["script", "at", "many", "marks", "table", "taken", "room", "slot", "cell"] ["script", "at", "many", "marks"] (Zo Xw) := ⟨rfl, rfl, rfl, by decide +kernel, rfl, by decide +kernel, by decide +kernel⟩
theorem Zft : FnScope ["ways", "marks", "one", "other", "pairs", "seen", "at", "left", "right", "row", "k", "two"] ["ways", "marks", "one", "other"] (Zo XT) := ⟨rfl, rfl, rfl, by decide +kernel, rfl, by decide +kernel, by decide +kernel⟩
theorem Zfu : FnScope ["ways", "marks", "room", "row", "sign"] ["ways", "marks", "room", "row"] (Zo XU) := ⟨rfl, rfl, rfl, by decide +kernel, rfl, by decide +kernel, by decide +kernel⟩
theorem Zfv : FnScope ["script", "marks", "many", "ways", "rooms", "one", "other", "row", "due"] ["script"] (Zo YR) := ⟨rfl, rfl, rfl, by decide +kernel, rfl, by decide +kernel, by decide +kernel⟩
structure Adr where
 a__wall : Addr
 d__wall : FuncData
 a_QI : Addr
 d_QI : FuncData
 a_QE : Addr
 d_QE : FuncData
 a_Rooms_many : Addr
 d_Rooms_many : FuncData
 a_QH : Addr
 d_QH : FuncData
 a_Rooms_walked : Addr
 d_Rooms_walked : FuncData
 a_QJ : Addr
 d_QJ : FuncData
 a_QA : Addr
 d_QA : FuncData
 a_QD : Addr
 d_QD : FuncData
 a_QG : Addr
 d_QG : FuncData
 a_QB : Addr
 d_QB : FuncData
 a_QF : Addr
 d_QF : FuncData
 a_QC : Addr
 d_QC : FuncData
 a_QK : Addr
 d_QK : FuncData
 c_Rooms : Addr
def Adr.c (t : Adr) : String -> Addr := fun c => if c = "Rooms" then t.c_Rooms else 0
structure Txt (K : PySem.W.Frag) (mg : Str -> Option Value) (t : Adr) : Prop where
 f__wall : FunX K "_wall" "_wall" X7 t.a__wall t.d__wall
 b__wall : Binds K t.d__wall ["k"] []
 g__wall : mg "_wall" = some (.ref t.a__wall)
 k__wall : PySem.W.keepIn K (.ref t.a__wall) = true
 f_QI : FunX K "is_mark" "is_mark" XM t.a_QI t.d_QI
 b_QI : Binds K t.d_QI ["marks", "text"] []
 g_QI : mg "is_mark" = some (.ref t.a_QI)
 k_QI : PySem.W.keepIn K (.ref t.a_QI) = true
 f_QE : FunX K "__init__" "Rooms.__init__" Xv t.a_QE t.d_QE
 b_QE : Binds K t.d_QE ["self", "marks", "ways"] []
 k_QE : PySem.W.keepIn K (.ref t.a_QE) = true
 f_Rooms_many : FunX K "many" "Rooms.many" X8 t.a_Rooms_many t.d_Rooms_many
 b_Rooms_many : Binds K t.d_Rooms_many ["self"] []
 k_Rooms_many : PySem.W.keepIn K (.ref t.a_Rooms_many) = true
 f_QH : FunX K "led" "Rooms.led" XN t.a_QH t.d_QH
 b_QH : Binds K t.d_QH ["self", "room", "mark"] []
 k_QH : PySem.W.keepIn K (.ref t.a_QH) = true
 f_Rooms_walked : FunX K "walked" "Rooms.walked" X9 t.a_Rooms_walked t.d_Rooms_walked
 b_Rooms_walked : Binds K t.d_Rooms_walked ["self", "room", "row"] []
 k_Rooms_walked : PySem.W.keepIn K (.ref t.a_Rooms_walked) = true
 f_QJ : FunX K "parting" "parting" XO t.a_QJ t.d_QJ
 b_QJ : Binds K t.d_QJ ["rooms", "one", "other"] []
 g_QJ : mg "parting" = some (.ref t.a_QJ)
 k_QJ : PySem.W.keepIn K (.ref t.a_QJ) = true
 f_QA : FunX K "_law_cell_at" "_law_cell_at" XQ t.a_QA t.d_QA
 b_QA : Binds K t.d_QA ["script", "k"] []
 g_QA : mg "_law_cell_at" = some (.ref t.a_QA)
 k_QA : PySem.W.keepIn K (.ref t.a_QA) = true
 f_QD : FunX K "_law_marks" "_law_marks" XR t.a_QD t.d_QD
 b_QD : Binds K t.d_QD ["cell"] []
 g_QD : mg "_law_marks" = some (.ref t.a_QD)
 k_QD : PySem.W.keepIn K (.ref t.a_QD) = true
 f_QG : FunX K "_law_table" "_law_table" XS t.a_QG t.d_QG
 b_QG : Binds K t.d_QG ["script", "at", "many", "marks"] []
 g_QG : mg "_law_table" = some (.ref t.a_QG)
 k_QG : PySem.W.keepIn K (.ref t.a_QG) = true
 f_QB : FunX K "_law_living" "_law_living" Xw t.a_QB t.d_QB
 b_QB : Binds K t.d_QB ["script", "at", "many", "marks"] []
 g_QB : mg "_law_living" = some (.ref t.a_QB)
 k_QB : PySem.W.keepIn K (.ref t.a_QB) = true
 f_QF : FunX K "_law_first" "_law_first" XT t.a_QF t.d_QF
 b_QF : Binds K t.d_QF ["ways", "marks", "one", "other"] []
 g_QF : mg "_law_first" = some (.ref t.a_QF)
 k_QF : PySem.W.keepIn K (.ref t.a_QF) = true
 f_QC : FunX K "_law_walked" "_law_walked" XU t.a_QC t.d_QC
 b_QC : Binds K t.d_QC ["ways", "marks", "room", "row"] []
 g_QC : mg "_law_walked" = some (.ref t.a_QC)
 k_QC : PySem.W.keepIn K (.ref t.a_QC) = true
 f_QK : FunX K "law" "law" YR t.a_QK t.d_QK
 b_QK : Binds K t.d_QK ["script"] []
 g_QK : mg "law" = some (.ref t.a_QK)
 k_QK : PySem.W.keepIn K (.ref t.a_QK) = true
 n_ValueError : mg "ValueError" = none
 n_int : mg "int" = none
 n_isinstance : mg "isinstance" = none
 n_len : mg "len" = none
 n_range : mg "range" = none
 n_str : mg "str" = none
 n_tuple : mg "tuple" = none
 g_Rooms : mg "Rooms" = some (.ref t.c_Rooms)
 cl_Rooms : Cls K t.c_Rooms
 ci_Rooms : ClsI K t.c_Rooms
 mk_Rooms : Mk K t.c_Rooms t.a_QE
 fl_marks : UK K ⟨t.c, K⟩ YQ "marks"
 fl_ways : UK K ⟨t.c, K⟩ Y8 "ways"
 me_Rooms_led : Meth K t.c_Rooms (Str.ofString "led") t.a_QH
 isi_str : IsiOk K ⟨t.c, K⟩ (.type "str") UT
end K15
namespace K15
open PySem PySem.Spec PyProof.Rows L2 DL
theorem nd0 : List.Nodup (["own"] : List Str) := by decide +kernel
theorem nd1 : List.Nodup (["rooms", "one", "other", "rows", "order", "place", "pair", "mark", "to", "row"] : List Str) := by decide +kernel
theorem nd2 : List.Nodup (["cell", "some"] : List Str) := by decide +kernel
theorem nd3 : List.Nodup (["script", "at", "many", "marks", "table", "room", "row", "k", "cell"] : List Str) := by decide +kernel
theorem nd4 : List.Nodup (["script", "at", "many", "marks", "table", "taken", "room", "slot", "cell"] : List Str) := by decide +kernel
theorem nd5 : List.Nodup (["row"] : List Str) := by decide +kernel
theorem nd6 : List.Nodup (["ways", "marks", "one", "other", "pairs", "seen", "at", "left", "right", "row", "k", "two"] : List Str) := by decide +kernel
theorem nd7 : List.Nodup (["ways", "marks", "room", "row", "sign"] : List Str) := by decide +kernel
theorem nd8 : List.Nodup (["script", "marks", "many", "ways", "rooms", "one", "other", "row", "due"] : List Str) := by decide +kernel
section
variable {P : Program} {w : World} {K : PySem.W.Frag} {mg : Str -> Option Value} {base : Heap} {t : Adr}
theorem Zfw (T : Txt K mg t) : FnOk P w K mg base CX0 1 t.a_QI t.d_QI ["marks", "text"] (spD ⟨t.c, K⟩ 2 UU) := by
 refine Xp (φ := f_QI) T.f_QI Zfl (by conv => lhs; whnf) (by conv => lhs; whnf) (fun cdv A outer s H E hr => ?_) rfl rfl
 refine ⟨_, (Zv (Z2 (Zeq (Uk (Vl (cA := ⟨t.c, K⟩) (hr.units)) (Z3 (Z9 (K := K)) (by rfl) T.n_len boot_len (Ze (pv 1) Zj)) ZH (Yt _)) (Zep (Uk (Ze9 (K := K)) (pv 1) (pv 0) (by rfl)))))), [], ?_⟩
 unfold f_QI
 exact (Yg (ZeD (Zk Vm (Z4 Yb (Zf (Zc 1 (by rfl)) Zl)) (Zq (d := (.int 1)) (by rfl) (by rfl))) (Zk Zfd (Zc 1 (by rfl)) (Zc 0 (by rfl)))))
theorem Zfx (T : Txt K mg t) : FnOk P w K mg base CX0 1 t.a_QE t.d_QE ["self", "marks", "ways"] (spI ⟨t.c, K⟩ 3 UV) := by
 refine Zfg (φ := f_QE) T.f_QE Zfm (by conv => lhs; whnf) (by conv => lhs; whnf) (fun cdv A outer s H E self hr => ?_) rfl rfl
 refine ⟨_, (Zr (JM (pv 0) (pv 1) (by rfl))
 (Zv (JM (pv 0) (VD (Uv (K := K)) (by rfl) T.n_tuple boot_tuple (Ze (Zbk (by rfl) (CompSc.mk' (tn := ["own"]) (cn := []) (js := []) (osc := Zo Xv) (oN := ["self", "marks", "ways"]) (by rfl) (by rfl) (by rfl) (by decide +kernel)) (Uu (K := K) (pv 2)) (fun C s₂ H₂ fp => Yj (i := 0) nd0 (by rfl) (by first | exact Or.inl rfl | exact Or.inr rfl)) (fun C s₂ H₂ fp => J9) (fun C s₂ H₂ fp => (VD (Uv (K := K)) (by rfl) T.n_tuple boot_tuple (Ze (pv 0) Zj)))) Zj)) (by rfl)))), ?_⟩
 unfold f_QE
 exact (Zx (ZcW 0 (by rfl) T.fl_marks (Zc 1 (by rfl)))
 (ZcW 0 (by rfl) T.fl_ways (UE (Zf (VF.cl (Zbq (by rfl) (UI (Zc 2 (by rfl))) (XB 0 (by rfl) (by rfl)) ZcU (UE (Zf (Zc 0 (by rfl)) Zl)))) Zl))))
theorem Zfy (T : Txt K mg t) : FnOk P w K mg base CX0 2 t.a_QH t.d_QH ["self", "room", "mark"] (spD ⟨t.c, K⟩ 3 UW) := by
 have G_QI := (Zfw (P := P) (w := w) (base := base) T).mono (k := 1) (by decide)
 refine Xp (φ := f_QH) T.f_QH Zfn (by conv => lhs; whnf) (by conv => lhs; whnf) (fun cdv A outer s H E hr => ?_) rfl rfl
 refine ⟨_, (Zr (Yr (Jq (Jl (Ym (G_QI) hr (by rfl) T.g_QI T.k_QI T.b_QI .nil Yd (Ze (VO (K := K) (pv 0)) (Ze (pv 2) Zj))))) (Zv Zci) YS)
 (Zv (Z2 (ZN (ZO (K := K)) (ZN (ZO (K := K)) (VO (K := K) (pv 0)) (pv 1) (fun _ _ => rfl)) (Xi (K := K) PySem.F.plainAttrs_str PySem.F.slot_str_index PySem.F.type_str_index ZaK (VO (K := K) (pv 0)) (Ze (pv 2) Zj)) (fun _ _ => rfl))))), [], ?_⟩
 unfold f_QH
 exact (Zx (YM (ZcS (Xk (Yx [] (by rfl) (Zf (V3 T.fl_marks (Zc 0 (by rfl))) (Zf (Zc 2 (by rfl)) Zl))))) Zcw Xm)
 (Yg (Zk ZS (Zk ZS (V3 T.fl_ways (Zc 0 (by rfl))) (Zc 1 (by rfl))) (Zd8 ZaL (V3 T.fl_marks (Zc 0 (by rfl))) (Zf (Zc 2 (by rfl)) Zl)))))
theorem Zfz (T : Txt K mg t) : FnOk P w K mg base CX0 3 t.a_QJ t.d_QJ ["rooms", "one", "other"] (spD ⟨t.c, K⟩ 3 UX) := by
 have G_QH := (Zfy (P := P) (w := w) (base := base) T).mono (k := 2) (by decide)
 refine Xp (φ := f_QJ) T.f_QJ Zfo (by conv => lhs; whnf) (by conv => lhs; whnf) (fun cdv A outer s H E hr => ?_) rfl rfl
 refine ⟨_, (Zr (ZF (i := 3) nd1 (by rfl) (by first | exact Or.inl rfl | exact Or.inr rfl) (ZaW (Xt hr.units) (XW (Ze (pv 1) (Ze (pv 2) Zj))) (Xz [] (by decide +kernel))))
 (Zr (ZF (i := 4) nd1 (by rfl) (by first | exact Or.inl rfl | exact Or.inr rfl) (Vg (Ze (XW (Ze (pv 1) (Ze (pv 2) Zj))) Zj)))
 (Zr (ZF (i := 5) nd1 (by rfl) (by first | exact Or.inl rfl | exact Or.inr rfl) ZH)
 (Zr ((Qc PassesOwn.never (Xe Qg (pv 5) (Z3 (Z9 (K := K)) (by rfl) T.n_len boot_len (Ze (pv 4) Zj)) (Yt _)) (Zr (ZF (i := 6) nd1 (by rfl) (by first | exact Or.inl rfl | exact Or.inr rfl) (ZN (ZO (K := K)) (pv 4) (pv 5) (fun _ _ => rfl)))
 (Zr ((Xc PassesOwn.never (by rfl) (Uu (K := K) (VO (K := K) (pv 0))) (Yj (i := 7) nd1 (by rfl) (by first | exact Or.inl rfl | exact Or.inr rfl)) (Zr (ZF (i := 8) nd1 (by rfl) (by first | exact Or.inl rfl | exact Or.inr rfl) (XW (Ze (ZaO (cA := ⟨t.c, K⟩) (tab := XL) (m := "led") ⟨⟨t.a_QH, t.d_QH, ["self", "room", "mark"], T.cl_Rooms, T.me_Rooms_led, G_QH, T.b_QH⟩, trivial⟩ hr (pv 0) (Ze (ZN (ZO (K := K)) (pv 6) ZH (fun _ _ => rfl)) (Ze (pv 7) Zj))) (Ze (ZaO (cA := ⟨t.c, K⟩) (tab := XL) (m := "led") ⟨⟨t.a_QH, t.d_QH, ["self", "room", "mark"], T.cl_Rooms, T.me_Rooms_led, G_QH, T.b_QH⟩, trivial⟩ hr (pv 0) (Ze (ZN (ZO (K := K)) (pv 6) ZH (fun _ _ => rfl)) (Ze (pv 7) Zj))) Zj))))
 (Zr (ZF (i := 9) nd1 (by rfl) (by first | exact Or.inl rfl | exact Or.inr rfl) (ZC (Yz (K := K)) (Zdo (Xt hr.units) (pv 3) (pv 6) (fun _ _ => rfl)) (pv 7)))
 (Zr (Yr (Xe (Vl (cA := ⟨t.c, K⟩) (hr.units)) (Xi (K := K) PySem.F.plainAttrs_tuple PySem.F.slot_tuple_count PySem.F.type_tuple_count Zaq (pv 8) (Ze Vc Zj)) ZH (Yt _)) (Zv (Z2 (pv 9))) YS)
 (Zv (Yr (PW.pt (Jp (Xe (Vl (cA := ⟨t.c, K⟩) (hr.units)) (Xi (K := K) PySem.F.plainAttrs_tuple PySem.F.slot_tuple_count PySem.F.type_tuple_count Zaq (pv 8) (Ze Vc Zj)) ZH (Yt _)) (Jo (XV (Zak (Xt hr.units) (pv 8) (pv 3)))))) (Zr (QA (Xt hr.units) (pv 3) (pv 8) (pv 9) (by rfl))
 (Zv (Uf (Xi (K := K) PySem.F.plainAttrs_list PySem.F.slot_list_append PySem.F.type_list_append Uo (pv 4) (Ze (pv 8) Zj))))) YS)))))))
 (Zv (ZF (i := 5) nd1 (by rfl) (by first | exact Or.inl rfl | exact Or.inr rfl) (ZC (Yz (K := K)) (pv 5) ZH)))))))
 (Zv (Z2 Vc)))))), [], ?_⟩
 unfold f_QJ
 exact (Zx (show VS _ _ [3] _ _ _ _ from ZaU 3 (Zap (X0 (Zf (Zc 1 (by rfl)) (Zf (Zc 2 (by rfl)) Zl))) (Zq (d := (.str [])) (by rfl) (by rfl))) (by rfl) (by rfl) (by rfl) (by rfl))
 (Zx (show VS _ _ [3, 4] _ _ _ _ from (QF 4 (VZ (Zf (X0 (Zf (Zc 1 (by rfl)) (Zf (Zc 2 (by rfl)) Zl))) Zl)) (by rfl) (by rfl) (by rfl) (by rfl)))
 (Zx (show VS _ _ [3, 4] _ _ _ _ from (ZW 5 (Zq (d := (.int 0)) (by rfl) (by rfl)) (by rfl) (by rfl) (by rfl) (by rfl)))
 (Zx (QJ (Xl (Zk UC (Zc 5 (by rfl)) (Z4 Yb (Zf (XA 4 (by rfl)) Zl)))) (Zx (show VS _ _ [3, 4] _ _ _ _ from (ZW 6 (Zk ZS (XA 4 (by rfl)) (Zc 5 (by rfl))) (by rfl) (by rfl) (by rfl) (by rfl)))
 (Zx (Vs (UI (V3 T.fl_marks (Zc 0 (by rfl)))) (XB 7 (by rfl) (by rfl)) (Zx (show VS _ _ [3, 4] _ _ _ _ from (ZW 8 (X0 (Zf (Zbs (Zc 0 (by rfl)) (Zf (Zk ZS (Zc 6 (by rfl)) (Zq (d := (.int 0)) (by rfl) (by rfl))) (Zf (Zc 7 (by rfl)) Zl))) (Zf (Zbs (Zc 0 (by rfl)) (Zf (Zk ZS (Zc 6 (by rfl)) (Zq (d := (.int 1)) (by rfl) (by rfl))) (Zf (Zc 7 (by rfl)) Zl))) Zl))) (by rfl) (by rfl) (by rfl) (by rfl)))
 (Zx (show VS _ _ [3, 4] _ _ _ _ from (ZW 9 (Zk YA (ZcE (Or.inr rfl) (XA 3 (by rfl)) (Zc 6 (by rfl))) (Zc 7 (by rfl))) (by rfl) (by rfl) (by rfl) (by rfl)))
 (Zx (YM (Xl (Zk Vm (Zed (Zc 8 (by rfl)) (Zq (d := .non) (by rfl) (by rfl))) (Zq (d := (.int 1)) (by rfl) (by rfl)))) (Yg (Zc 9 (by rfl))) Xm)
 (YM (ZcT (Xl (Zk Vm (Zed (Zc 8 (by rfl)) (Zq (d := .non) (by rfl) (by rfl))) (Zq (d := (.int 0)) (by rfl) (by rfl)))) (Xk (Zaf (Zc 8 (by rfl)) (XA 3 (by rfl))))) (Zx (ZaV 3 (by rfl) (Zc 9 (by rfl)) (Zc 8 (by rfl)))
 (QH 4 (by rfl) (Zc 8 (by rfl)))) Xm)))))
 (show VS _ _ [3, 4] _ _ _ _ from (ZW 5 (Zk YA (Zc 5 (by rfl)) (Zq (d := (.int 1)) (by rfl) (by rfl))) (by rfl) (by rfl) (by rfl) (by rfl))))))
 (VS.frz (ow1 := [3]) 4 (VS.frz (ow1 := []) 3 (Yg (Zq (d := .non) (by rfl) (by rfl))) (by rfl) (by rfl) (by rfl) (by rfl)) (by rfl) (by rfl) (by rfl) (by rfl))))))
theorem Q3 (T : Txt K mg t) : FnOk P w K mg base CX0 1 t.a_QA t.d_QA ["script", "k"] (spD ⟨t.c, K⟩ 2 Yo) := by
 refine Xp (φ := f_QA) T.f_QA Zfp (by conv => lhs; whnf) (by conv => lhs; whnf) (fun cdv A outer s H E hr => ?_) rfl rfl
 refine ⟨_, (Zr (Yr (Xe Qg (pv 1) (Z3 (Z9 (K := K)) (by rfl) T.n_len boot_len (Ze (pv 0) Zj)) (Yt _)) (Zv (Z2 (ZN (ZO (K := K)) (pv 0) (pv 1) (fun _ _ => rfl)))) YS)
 (Zv (Z2 ZH))), [], ?_⟩
 unfold f_QA
 exact (Zx (YM (Xl (Zk UC (Zc 1 (by rfl)) (Z4 Yb (Zf (Zc 0 (by rfl)) Zl)))) (Yg (Zk ZS (Zc 0 (by rfl)) (Zc 1 (by rfl)))) Xm)
 (Yg (Zq (d := (.int 0)) (by rfl) (by rfl))))
theorem ZfA (T : Txt K mg t) : FnOk P w K mg base CX0 1 t.a_QD t.d_QD ["cell"] (spD ⟨t.c, K⟩ 1 UY) := by
 refine Xp (φ := f_QD) T.f_QD Zfq (by conv => lhs; whnf) (by conv => lhs; whnf) (fun cdv A outer s H E hr => ?_) rfl rfl
 refine ⟨_, (Zr (ZF (i := 1) nd2 (by rfl) (by first | exact Or.inl rfl | exact Or.inr rfl) (Vg (Ze (Xz [48, 49] (by decide +kernel)) (Ze (Xz [97, 98] (by decide +kernel)) (Ze (Xz [120, 121, 122] (by decide +kernel)) (Ze (Xz [48, 97, 49, 98] (by decide +kernel)) (Ze (Xz [98, 97] (by decide +kernel)) (Ze (Xz [57, 122, 56] (by decide +kernel)) Zj))))))))
 (Zv (Z2 (ZN (ZO (K := K)) (pv 1) (ZC Xd (pv 0) (Z3 (Z9 (K := K)) (by rfl) T.n_len boot_len (Ze (pv 1) Zj))) (fun _ _ => rfl))))), [], ?_⟩
 unfold f_QD
 exact (Zx (show VS _ _ [] _ _ _ _ from (ZW 1 (VF.cl (VZ (Zf (Zq (d := (.str [48, 49])) (by rfl) (by rfl)) (Zf (Zq (d := (.str [97, 98])) (by rfl) (by rfl)) (Zf (Zq (d := (.str [120, 121, 122])) (by rfl) (by rfl)) (Zf (Zq (d := (.str [48, 97, 49, 98])) (by rfl) (by rfl)) (Zf (Zq (d := (.str [98, 97])) (by rfl) (by rfl)) (Zf (Zq (d := (.str [57, 122, 56])) (by rfl) (by rfl)) Zl)))))))) (by rfl) (by rfl) (by rfl) (by rfl)))
 (Yg (Zk ZS (Zc 1 (by rfl)) (Zk Xj (Zc 0 (by rfl)) (Z4 Yb (Zf (Zc 1 (by rfl)) Zl))))))
theorem ZfB (T : Txt K mg t) : FnOk P w K mg base CX0 2 t.a_QG t.d_QG ["script", "at", "many", "marks"] (spM ⟨t.c, K⟩ 4 V9) := by
 have G_QA := (Q3 (P := P) (w := w) (base := base) T).mono (k := 1) (by decide)
 refine Zfj (φ := f_QG) T.f_QG Zfr (by conv => lhs; whnf) (by conv => lhs; whnf) (fun cdv A outer s H E hr => ?_) rfl rfl
 refine ⟨_, (Zr (ZF (i := 4) nd3 (by rfl) (by first | exact Or.inl rfl | exact Or.inr rfl) (Vg Zj))
 (Zr (Xc PassesOwn.never (by rfl) (Ve (by rfl) T.n_range (Ze (pv 2) Zj)) (Yj (i := 5) nd3 (by rfl) (by first | exact Or.inl rfl | exact Or.inr rfl)) (Zr (ZF (i := 6) nd3 (by rfl) (by first | exact Or.inl rfl | exact Or.inr rfl) (Vg Zj))
 (Zr ((Xc PassesOwn.never (by rfl) (Ve (by rfl) T.n_range (Ze (Z3 (Z9 (K := K)) (by rfl) T.n_len boot_len (Ze (pv 3) Zj)) Zj)) (Yj (i := 7) nd3 (by rfl) (by first | exact Or.inl rfl | exact Or.inr rfl)) (Zr (ZF (i := 8) nd3 (by rfl) (by first | exact Or.inl rfl | exact Or.inr rfl) (Ym (G_QA) hr (by rfl) T.g_QA T.k_QA T.b_QA .nil Yd (Ze (pv 0) (Ze (ZC (Yz (K := K)) (ZC (Yz (K := K)) (pv 1) (ZC (V4 (K := K)) (pv 5) (Z3 (Z9 (K := K)) (by rfl) T.n_len boot_len (Ze (pv 3) Zj)))) (pv 7)) Zj))))
 (Zv (Uf (Xi (K := K) PySem.F.plainAttrs_list PySem.F.slot_list_append PySem.F.type_list_append Uo (pv 6) (Ze (ZN (ZO (K := K)) (Vg (Ze (ZC Xd (pv 8) (pv 2)) (Ze Vc Zj))) (VD Zb2 (by rfl) T.n_int boot_int (Ze (Uk Ze5 (ZC Xd (ZC Uj (pv 8) (pv 2)) ZH) ZH (Yt _)) Zj)) (fun _ _ => rfl)) Zj)))))))
 (Zv (Uf (Xi (K := K) PySem.F.plainAttrs_list PySem.F.slot_list_append PySem.F.type_list_append Uo (pv 4) (Ze (pv 6) Zj)))))))
 (Zv (Z2 (pv 4))))), ?_⟩
 unfold f_QG
 exact (ZdG 4 (by rfl) (by rfl) ZdH
 (ZdF (QP 5 (by decide) (by rfl) (by rfl) (ZaP (Zf (Zc 2 (by rfl)) Zl) X1) (Xq (show VM _ _ [6] _ _ _ _ _ from X3 (fun _ => (show VS _ _ [6] _ _ _ _ from (QF 6 (VZ Zl) (by rfl) (by rfl) (by rfl) (by rfl)))) (by rfl))
 (Xq (show VM _ _ [6] _ _ _ _ _ from X3 (fun _ => (Vs (UJ (Zf (Z4 Yb (Zf (Zc 3 (by rfl)) Zl)) Zl) X1) (XB 7 (by rfl) (by rfl)) (Zx (show VS _ _ [6] _ _ _ _ from (ZW 8 (Yx [] (by rfl) (Zf (Zc 0 (by rfl)) (Zf (Zk YA (Zk YA (Zc 1 (by rfl)) (Zk V5 (Zc 5 (by rfl)) (Z4 Yb (Zf (Zc 3 (by rfl)) Zl)))) (Zc 7 (by rfl))) Zl))) (by rfl) (by rfl) (by rfl) (by rfl)))
 (QH 6 (by rfl) (Zk ZS (VF.cl (VZ (Zf (Zk Xj (Zc 8 (by rfl)) (Zc 2 (by rfl))) (Zf (Zq (d := .non) (by rfl) (by rfl)) Zl)))) (Z4 ZeE (Zf (Zk UC (Zk Xj (Zk UB (Zc 8 (by rfl)) (Zc 2 (by rfl))) (Zq (d := (.int 5)) (by rfl) (by rfl))) (Zq (d := (.int 2)) (by rfl) (by rfl))) Zl))))))) (by rfl))
 (show VM _ _ [] _ _ _ _ _ from ZdD 6 (by decide) (by rfl) (by rfl) (by rfl) (by rfl) (by rfl)))))
 ZdE))
theorem ZfC (T : Txt K mg t) : FnOk P w K mg base CX0 3 t.a_QB t.d_QB ["script", "at", "many", "marks"] (spD ⟨t.c, K⟩ 4 UZ) := by
 have G_QA := (Q3 (P := P) (w := w) (base := base) T).mono (k := 2) (by decide)
 have G_QG := (ZfB (P := P) (w := w) (base := base) T).mono (k := 2) (by decide)
 refine Xp (φ := f_QB) T.f_QB Zfs (by conv => lhs; whnf) (by conv => lhs; whnf) (fun cdv A outer s H E hr => ?_) rfl rfl
 refine ⟨_, (Zr (ZF (i := 4) nd4 (by rfl) (by first | exact Or.inl rfl | exact Or.inr rfl) (Ym (G_QG) hr (by rfl) T.g_QG T.k_QG T.b_QG .nil Yd (Ze (pv 0) (Ze (pv 1) (Ze (pv 2) (Ze (pv 3) Zj))))))
 (Zr (ZF (i := 5) nd4 (by rfl) (by first | exact Or.inl rfl | exact Or.inr rfl) Zcu)
 (Zr (Xc PassesOwn.never (by rfl) (ZbR (by rfl) T.n_range (Ze ZH (Ze (pv 2) Zj))) (Yj (i := 6) nd4 (by rfl) (by first | exact Or.inl rfl | exact Or.inr rfl)) (Zr (ZF (i := 7) nd4 (by rfl) (by first | exact Or.inl rfl | exact Or.inr rfl) (ZC Xd (ZC Uj (Ym (G_QA) hr (by rfl) T.g_QA T.k_QA T.b_QA .nil Yd (Ze (pv 0) (Ze (ZC (Yz (K := K)) (pv 1) (ZC (V4 (K := K)) (pv 6) (Z3 (Z9 (K := K)) (by rfl) T.n_len boot_len (Ze (pv 3) Zj)))) Zj))) ZH) (ZC (V4 (K := K)) (pv 6) (Z3 (Z9 (K := K)) (by rfl) T.n_len boot_len (Ze (pv 3) Zj)))))
 (Zr ((Qc PassesOwn.never (XV (ZeA (Xt hr.units) (pv 7) (pv 5))) (Zv (ZF (i := 7) nd4 (by rfl) (by first | exact Or.inl rfl | exact Or.inr rfl) (ZC Xd (ZC (Yz (K := K)) (pv 7) ZH) (ZC (V4 (K := K)) (pv 6) (Z3 (Z9 (K := K)) (by rfl) T.n_len boot_len (Ze (pv 3) Zj))))))))
 (Zr (QA (Xt hr.units) (pv 5) (pv 7) Xx (by rfl))
 (Zv (Qb (pv 6) (Jv (ZN (ZO (K := K)) (pv 4) (ZC Uj (pv 7) (Z3 (Z9 (K := K)) (by rfl) T.n_len boot_len (Ze (pv 3) Zj))) (fun _ _ => rfl)) (ZC Xd (pv 7) (Z3 (Z9 (K := K)) (by rfl) T.n_len boot_len (Ze (pv 3) Zj))) JZ)))))))
 (Zr (Xc PassesOwn.never (by rfl) (Ve (by rfl) T.n_range (Ze (pv 2) Zj)) (Yj (i := 6) nd4 (by rfl) (by first | exact Or.inl rfl | exact Or.inr rfl)) (Zv (Yr (Xe (Vl (cA := ⟨t.c, K⟩) (hr.units)) (Xi (K := K) PySem.F.plainAttrs_list PySem.F.slot_list_count PySem.F.type_list_count (Zb8 (K := K)) (ZN (ZO (K := K)) (pv 4) (pv 6) (fun _ _ => rfl)) (Ze Vc Zj)) (Z3 (Z9 (K := K)) (by rfl) T.n_len boot_len (Ze (pv 3) Zj)) (Yt _)) (Zr (ZF (i := 8) nd4 (by rfl) (by first | exact Or.inl rfl | exact Or.inr rfl) (Ym (G_QA) hr (by rfl) T.g_QA T.k_QA T.b_QA .nil Yd (Ze (pv 0) (Ze (ZC (Yz (K := K)) (ZC (Yz (K := K)) (pv 1) (ZC (V4 (K := K)) (pv 6) (Z3 (Z9 (K := K)) (by rfl) T.n_len boot_len (Ze (pv 3) Zj)))) ZH) Zj))))
 (Zv (Qb (ZC Xd (pv 8) (pv 2)) (Jv (ZN (ZO (K := K)) (pv 4) (pv 6) (fun _ _ => rfl)) (ZC Xd (ZC Uj (pv 8) ZH) (Z3 (Z9 (K := K)) (by rfl) T.n_len boot_len (Ze (pv 3) Zj))) JZ)))) YS)))
 (Zv (Z2 (VD (Uv (K := K)) (by rfl) T.n_tuple boot_tuple (Ze (Zbk (by rfl) (CompSc.mk' (tn := ["row"]) (cn := []) (js := []) (osc := Zo Xw) (oN := ["script", "at", "many", "marks", "table", "taken", "room", "slot", "cell"]) (by rfl) (by rfl) (by rfl) (by decide +kernel)) (Uu (K := K) (pv 4)) (fun C s₂ H₂ fp => Yj (i := 0) nd5 (by rfl) (by first | exact Or.inl rfl | exact Or.inr rfl)) (fun C s₂ H₂ fp => J9) (fun C s₂ H₂ fp => (VD (Uv (K := K)) (by rfl) T.n_tuple boot_tuple (Ze (pv 0) Zj)))) Zj)))))))), [5], ?_⟩
 unfold f_QB
 exact (ZeM 4 (by rfl) (by rfl) (Zcy [] (by rfl) (Zf (Zc 0 (by rfl)) (Zf (Zc 1 (by rfl)) (Zf (Zc 2 (by rfl)) (Zf (Zc 3 (by rfl)) Zl)))))
 (Xq (show VM _ _ [5] _ _ _ _ _ from X3 (fun _ => (show VS _ _ [5] _ _ _ _ from ZdL 5 ZdK (by rfl) (by rfl) (by rfl) (by rfl))) (by rfl))
 (Xq (QP 6 (by decide) (by rfl) (by rfl) (Zcx (Zf (Zq (d := (.int 1)) (by rfl) (by rfl)) (Zf (Zc 2 (by rfl)) Zl)) Zf9) (Xq (show VM _ _ [5] _ _ _ _ _ from X3 (fun _ => (show VS _ _ [5] _ _ _ _ from (ZW 7 (Zk Xj (Zk UB (Yx [] (by rfl) (Zf (Zc 0 (by rfl)) (Zf (Zk YA (Zc 1 (by rfl)) (Zk V5 (Zc 6 (by rfl)) (Z4 Yb (Zf (Zc 3 (by rfl)) Zl)))) Zl))) (Zq (d := (.int 60)) (by rfl) (by rfl))) (Zk V5 (Zc 6 (by rfl)) (Z4 Yb (Zf (Zc 3 (by rfl)) Zl)))) (by rfl) (by rfl) (by rfl) (by rfl)))) (by rfl))
 (Xq (show VM _ _ [5] _ _ _ _ _ from X3 (fun _ => (QJ (Xk (ZeN (Zc 7 (by rfl)) (XA 5 (by rfl)))) (show VS _ _ [5] _ _ _ _ from (ZW 7 (Zk Xj (Zk YA (Zc 7 (by rfl)) (Zq (d := (.int 1)) (by rfl) (by rfl))) (Zk V5 (Zc 6 (by rfl)) (Z4 Yb (Zf (Zc 3 (by rfl)) Zl)))) (by rfl) (by rfl) (by rfl) (by rfl))))) (by rfl))
 (Xq (show VM _ _ [5] _ _ _ _ _ from X3 (fun _ => (ZdM 5 (by rfl) (Zq (d := (.bl true)) (by rfl) (by rfl)) (Zc 7 (by rfl)))) (by rfl))
 (Zbw (Zc 6 (by rfl)) (Zk UB (Zc 7 (by rfl)) (Z4 Yb (Zf (Zc 3 (by rfl)) Zl))) (Zk Xj (Zc 7 (by rfl)) (Z4 Yb (Zf (Zc 3 (by rfl)) Zl))))))))
 (Xq (QP 6 (by decide) (by rfl) (by rfl) (ZaP (Zf (Zc 2 (by rfl)) Zl) X1) (Zfi (Xl (Zk Vm (Zfk ZcB (Zk ZS (Zc 4 (by rfl)) (Zc 6 (by rfl))) (Zq (d := .non) (by rfl) (by rfl))) (Z4 Yb (Zf (Zc 3 (by rfl)) Zl)))) (Xq (show VM _ _ [5] _ _ _ _ _ from X3 (fun _ => (show VS _ _ [5] _ _ _ _ from (ZW 8 (Yx [] (by rfl) (Zf (Zc 0 (by rfl)) (Zf (Zk YA (Zk YA (Zc 1 (by rfl)) (Zk V5 (Zc 6 (by rfl)) (Z4 Yb (Zf (Zc 3 (by rfl)) Zl)))) (Zq (d := (.int 1)) (by rfl) (by rfl))) Zl))) (by rfl) (by rfl) (by rfl) (by rfl)))) (by rfl))
 (Zbw (Zk Xj (Zc 8 (by rfl)) (Zc 2 (by rfl))) (Zc 6 (by rfl)) (Zk Xj (Zk UB (Zc 8 (by rfl)) (Zq (d := (.int 7)) (by rfl) (by rfl))) (Z4 Yb (Zf (Zc 3 (by rfl)) Zl))))) Zdz))
 (ZeL (UE (Zf (VF.cl (Zbq (by rfl) (UI (Zc 4 (by rfl))) (XB 0 (by rfl) (by rfl)) ZcU (UE (Zf (Zc 0 (by rfl)) Zl)))) Zl)))))))
theorem ZfD (T : Txt K mg t) : FnOk P w K mg base CX0 1 t.a_QF t.d_QF ["ways", "marks", "one", "other"] (spD ⟨t.c, K⟩ 4 U0) := by
 refine Xp (φ := f_QF) T.f_QF Zft (by conv => lhs; whnf) (by conv => lhs; whnf) (fun cdv A outer s H E hr => ?_) rfl rfl
 refine ⟨_, (Zr (ZF (i := 4) nd6 (by rfl) (by first | exact Or.inl rfl | exact Or.inr rfl) (Vg (Ze (XW (Ze (pv 2) (Ze (pv 3) (Ze (Xz [] (by decide +kernel)) Zj)))) Zj)))
 (Zr (ZF (i := 5) nd6 (by rfl) (by first | exact Or.inl rfl | exact Or.inr rfl) (ZaW (Xt hr.units) (XW (Ze (pv 2) (Ze (pv 3) Zj))) Xx))
 (Zr (ZF (i := 6) nd6 (by rfl) (by first | exact Or.inl rfl | exact Or.inr rfl) ZH)
 (Zr ((Qc PassesOwn.never (Xe Qg (pv 6) (Z3 (Z9 (K := K)) (by rfl) T.n_len boot_len (Ze (pv 4) Zj)) (Yt _)) (Zr (Qb (ZN (ZO (K := K)) (pv 4) (pv 6) (fun _ _ => rfl)) (Zfa (K := K) (n := 3) (U9 (Yj (i := 7) nd6 (by rfl) (by first | exact Or.inl rfl | exact Or.inr rfl)) (U9 (Yj (i := 8) nd6 (by rfl) (by first | exact Or.inl rfl | exact Or.inr rfl)) (U9 (Yj (i := 9) nd6 (by rfl) (by first | exact Or.inl rfl | exact Or.inr rfl)) Zdd)))))
 (Zr (ZF (i := 6) nd6 (by rfl) (by first | exact Or.inl rfl | exact Or.inr rfl) (ZC (Yz (K := K)) (pv 6) ZH))
 (Zv ((Xc PassesOwn.never (by rfl) (Ve (by rfl) T.n_range (Ze (Z3 (Z9 (K := K)) (by rfl) T.n_len boot_len (Ze (pv 1) Zj)) Zj)) (Yj (i := 10) nd6 (by rfl) (by first | exact Or.inl rfl | exact Or.inr rfl)) (Zr (ZF (i := 11) nd6 (by rfl) (by first | exact Or.inl rfl | exact Or.inr rfl) (XW (Ze (ZN (ZO (K := K)) (ZN (ZO (K := K)) (pv 0) (pv 7) (fun _ _ => rfl)) (pv 10) (fun _ _ => rfl)) (Ze (ZN (ZO (K := K)) (ZN (ZO (K := K)) (pv 0) (pv 8) (fun _ _ => rfl)) (pv 10) (fun _ _ => rfl)) Zj))))
 (Zr (Yr (Xe (ZcQ (cA := ⟨t.c, K⟩) (hr.units)) (Jk (Ue (ZN (ZO (K := K)) (pv 11) ZH (fun _ _ => rfl)))) (Jk (Ue (ZN (ZO (K := K)) (pv 11) ZH (fun _ _ => rfl)))) (Yt _)) (Zv (Z2 (ZC (Yz (K := K)) (pv 9) (ZN (ZO (K := K)) (pv 1) (pv 10) (fun _ _ => rfl))))) YS)
 (Zv (Yr (PW.pt (Jp (XV (Jj (ZN (ZO (K := K)) (pv 11) ZH (fun _ _ => rfl)))) (Jo (XV (Zak (Xt hr.units) (pv 11) (pv 5)))))) (Zr (QA (Xt hr.units) (pv 5) (pv 11) Xx (by rfl))
 (Zv (Uf (Xi (K := K) PySem.F.plainAttrs_list PySem.F.slot_list_append PySem.F.type_list_append Uo (pv 4) (Ze (XW (Ze (ZN (ZO (K := K)) (pv 11) ZH (fun _ _ => rfl)) (Ze (ZN (ZO (K := K)) (pv 11) ZH (fun _ _ => rfl)) (Ze (ZC (Yz (K := K)) (pv 9) (ZN (ZO (K := K)) (pv 1) (pv 10) (fun _ _ => rfl))) Zj)))) Zj))))) YS)))))))))))
 (Zv (Z2 Vc)))))), [], ?_⟩
 unfold f_QF
 exact (Zx (show VS _ _ [4] _ _ _ _ from (QF 4 (VZ (Zf (X0 (Zf (Zc 2 (by rfl)) (Zf (Zc 3 (by rfl)) (Zf (Zq (d := (.str [])) (by rfl) (by rfl)) Zl)))) Zl)) (by rfl) (by rfl) (by rfl) (by rfl)))
 (Zx (show VS _ _ [4, 5] _ _ _ _ from ZaU 5 (Zap (X0 (Zf (Zc 2 (by rfl)) (Zf (Zc 3 (by rfl)) Zl))) (Zq (d := (.bl true)) (by rfl) (by rfl))) (by rfl) (by rfl) (by rfl) (by rfl))
 (Zx (show VS _ _ [4, 5] _ _ _ _ from (ZW 6 (Zq (d := (.int 0)) (by rfl) (by rfl)) (by rfl) (by rfl) (by rfl) (by rfl)))
 (Zx (QJ (Xl (Zk UC (Zc 6 (by rfl)) (Z4 Yb (Zf (XA 4 (by rfl)) Zl)))) (Zx (ZdN (Zk ZS (XA 4 (by rfl)) (Zc 6 (by rfl))) (ZeF (QI 7 (by rfl) (by rfl) (QI 8 (by rfl) (by rfl) (QI 9 (by rfl) (by rfl) Zdr)))))
 (Zx (show VS _ _ [4, 5] _ _ _ _ from (ZW 6 (Zk YA (Zc 6 (by rfl)) (Zq (d := (.int 1)) (by rfl) (by rfl))) (by rfl) (by rfl) (by rfl) (by rfl)))
 (Vs (UJ (Zf (Z4 Yb (Zf (Zc 1 (by rfl)) Zl)) Zl) X1) (XB 10 (by rfl) (by rfl)) (Zx (show VS _ _ [4, 5] _ _ _ _ from (ZW 11 (X0 (Zf (Zk ZS (Zk ZS (Zc 0 (by rfl)) (Zc 7 (by rfl))) (Zc 10 (by rfl))) (Zf (Zk ZS (Zk ZS (Zc 0 (by rfl)) (Zc 8 (by rfl))) (Zc 10 (by rfl))) Zl))) (by rfl) (by rfl) (by rfl) (by rfl)))
 (Zx (YM (Xl (Zk Zd5 (UD (Zk ZS (Zc 11 (by rfl)) (Zq (d := (.int 0)) (by rfl) (by rfl)))) (UD (Zk ZS (Zc 11 (by rfl)) (Zq (d := (.int 1)) (by rfl) (by rfl)))))) (Yg (Zk YA (Zc 9 (by rfl)) (Zk ZS (Zc 1 (by rfl)) (Zc 10 (by rfl))))) Xm)
 (YM (ZcT (Xk (Zbp (Zk ZS (Zc 11 (by rfl)) (Zq (d := (.int 0)) (by rfl) (by rfl))))) (Xk (Zaf (Zc 11 (by rfl)) (XA 5 (by rfl))))) (Zx (ZaV 5 (by rfl) (Zq (d := (.bl true)) (by rfl) (by rfl)) (Zc 11 (by rfl)))
 (QH 4 (by rfl) (X0 (Zf (Zk ZS (Zc 11 (by rfl)) (Zq (d := (.int 0)) (by rfl) (by rfl))) (Zf (Zk ZS (Zc 11 (by rfl)) (Zq (d := (.int 1)) (by rfl) (by rfl))) (Zf (Zk YA (Zc 9 (by rfl)) (Zk ZS (Zc 1 (by rfl)) (Zc 10 (by rfl)))) Zl)))))) Xm)))))))
 (VS.frz (ow1 := [4]) 5 (VS.frz (ow1 := []) 4 (Yg (Zq (d := .non) (by rfl) (by rfl))) (by rfl) (by rfl) (by rfl) (by rfl)) (by rfl) (by rfl) (by rfl) (by rfl))))))
theorem ZfE (T : Txt K mg t) : FnOk P w K mg base CX0 1 t.a_QC t.d_QC ["ways", "marks", "room", "row"] (spD ⟨t.c, K⟩ 4 Ua) := by
 refine Xp (φ := f_QC) T.f_QC Zfu (by conv => lhs; whnf) (by conv => lhs; whnf) (fun cdv A outer s H E hr => ?_) rfl rfl
 refine ⟨_, (Zr ((Xc PassesOwn.never (by rfl) (Uu (K := K) (pv 3)) (Yj (i := 4) nd7 (by rfl) (by first | exact Or.inl rfl | exact Or.inr rfl)) (Zr (ZF (i := 2) nd7 (by rfl) (by first | exact Or.inl rfl | exact Or.inr rfl) (ZN (ZO (K := K)) (ZN (ZO (K := K)) (pv 0) (pv 2) (fun _ _ => rfl)) (Xi (K := K) PySem.F.plainAttrs_str PySem.F.slot_str_index PySem.F.type_str_index ZaK (pv 1) (Ze (pv 4) Zj)) (fun _ _ => rfl)))
 (Zv (Yr (XV (Ue (pv 2))) (Zv (Z2 Xx)) YS)))))
 (Zv (Z2 Xx))), [], ?_⟩
 unfold f_QC
 exact (Zx (Vs (UI (Zc 3 (by rfl))) (XB 4 (by rfl) (by rfl)) (Zx (show VS _ _ [] _ _ _ _ from (ZW 2 (Zk ZS (Zk ZS (Zc 0 (by rfl)) (Zc 2 (by rfl))) (Zd8 ZaL (Zc 1 (by rfl)) (Zf (Zc 4 (by rfl)) Zl))) (by rfl) (by rfl) (by rfl) (by rfl)))
 (YM (Xk (UD (Zc 2 (by rfl)))) (Yg (Zq (d := (.bl false)) (by rfl) (by rfl))) Xm)))
 (Yg (Zq (d := (.bl true)) (by rfl) (by rfl))))
theorem ZfF (T : Txt K mg t) : FnOk P w K mg base CX0 4 t.a_QK t.d_QK ["script"] (spD ⟨t.c, K⟩ 1 U1) := by
 have GM_QE := (Zfx (P := P) (w := w) (base := base) T).mono (k := 2) (by decide)
 have G_QA := (Q3 (P := P) (w := w) (base := base) T).mono (k := 3) (by decide)
 have G_QF := (ZfD (P := P) (w := w) (base := base) T).mono (k := 3) (by decide)
 have G_QB := (ZfC (P := P) (w := w) (base := base) T).mono (k := 3) (by decide)
 have G_QD := (ZfA (P := P) (w := w) (base := base) T).mono (k := 3) (by decide)
 have G_QC := (ZfE (P := P) (w := w) (base := base) T).mono (k := 3) (by decide)
 have G_QJ := (Zfz (P := P) (w := w) (base := base) T).mono (k := 3) (by decide)
 refine Xp (φ := f_QK) T.f_QK Zfv (by conv => lhs; whnf) (by conv => lhs; whnf) (fun cdv A outer s H E hr => ?_) rfl rfl
 refine ⟨_, (Zr (ZF (i := 1) nd8 (by rfl) (by first | exact Or.inl rfl | exact Or.inr rfl) (Ym (G_QD) hr (by rfl) T.g_QD T.k_QD T.b_QD .nil Yd (Ze (Ym (G_QA) hr (by rfl) T.g_QA T.k_QA T.b_QA .nil Yd (Ze (pv 0) (Ze ZH Zj))) Zj)))
 (Zr (ZF (i := 2) nd8 (by rfl) (by first | exact Or.inl rfl | exact Or.inr rfl) (ZC (Yz (K := K)) ZH (ZC Xd (Ym (G_QA) hr (by rfl) T.g_QA T.k_QA T.b_QA .nil Yd (Ze (pv 0) (Ze ZH Zj))) ZH)))
 (Zr (ZF (i := 3) nd8 (by rfl) (by first | exact Or.inl rfl | exact Or.inr rfl) (Ym (G_QB) hr (by rfl) T.g_QB T.k_QB T.b_QB .nil Yd (Ze (pv 0) (Ze ZH (Ze (pv 2) (Ze (pv 1) Zj))))))
 (Zr (ZF (i := 4) nd8 (by rfl) (by first | exact Or.inl rfl | exact Or.inr rfl) (Zdh T.mk_Rooms (GM_QE) hr (by rfl) T.g_Rooms T.b_QE .nil Yd (Ze (pv 1) (Ze (pv 3) Zj))))
 (Zr ((Xc PassesOwn.never (by rfl) (Ve (by rfl) T.n_range (Ze (pv 2) Zj)) (Yj (i := 5) nd8 (by rfl) (by first | exact Or.inl rfl | exact Or.inr rfl)) (Zv ((Xc PassesOwn.never (by rfl) (Ve (by rfl) T.n_range (Ze (pv 2) Zj)) (Yj (i := 6) nd8 (by rfl) (by first | exact Or.inl rfl | exact Or.inr rfl)) (Zr (ZF (i := 7) nd8 (by rfl) (by first | exact Or.inl rfl | exact Or.inr rfl) (Ym (G_QJ) hr (by rfl) T.g_QJ T.k_QJ T.b_QJ .nil Yd (Ze (pv 4) (Ze (pv 5) (Ze (pv 6) Zj)))))
 (Zr (ZF (i := 8) nd8 (by rfl) (by first | exact Or.inl rfl | exact Or.inr rfl) (Ym (G_QF) hr (by rfl) T.g_QF T.k_QF T.b_QF .nil Yd (Ze (pv 3) (Ze (pv 1) (Ze (pv 5) (Ze (pv 6) Zj))))))
 (Zv (Yr (XV (Ue (pv 8))) (Zv (Yr (XV (Jj (pv 7))) (Zv (Z2 Xx)) YS)) (Zv (Yr (PW.pt (Ze2 (Jq (Jl (Z3 (ZeG (K := K)) (by rfl) T.n_isinstance boot_isinstance (Ze (pv 7) (Ze (Zdc (v := .ty "str") (by rfl) T.n_str boot_str rfl) Zj))))) (Zeo (Xe (ZcQ (cA := ⟨t.c, K⟩) (hr.units)) (pv 7) (pv 8) (Yt _))))) (Zv (Z2 Xx)) (Zv (Yr (Xe (Vl (cA := ⟨t.c, K⟩) (hr.units)) (Ym (G_QC) hr (by rfl) T.g_QC T.k_QC T.b_QC .nil Yd (Ze (pv 3) (Ze (pv 1) (Ze (pv 5) (Ze (pv 7) Zj))))) (Ym (G_QC) hr (by rfl) T.g_QC T.k_QC T.b_QC .nil Yd (Ze (pv 3) (Ze (pv 1) (Ze (pv 6) (Ze (pv 7) Zj))))) (Yt _)) (Zv (Z2 Xx)) YS)))))))))))))
 (Zv (Z2 (Uk (Vl (cA := ⟨t.c, K⟩) (hr.units)) (VO (K := K) (pv 4)) (pv 3) (Yt _))))))))), [], ?_⟩
 unfold f_QK
 exact (Zx (show VS _ _ [] _ _ _ _ from (ZW 1 (Yx [] (by rfl) (Zf (Yx [] (by rfl) (Zf (Zc 0 (by rfl)) (Zf (Zq (d := (.int 0)) (by rfl) (by rfl)) Zl))) Zl)) (by rfl) (by rfl) (by rfl) (by rfl)))
 (Zx (show VS _ _ [] _ _ _ _ from (ZW 2 (Zk YA (Zq (d := (.int 1)) (by rfl) (by rfl)) (Zk Xj (Yx [] (by rfl) (Zf (Zc 0 (by rfl)) (Zf (Zq (d := (.int 1)) (by rfl) (by rfl)) Zl))) (Zq (d := (.int 6)) (by rfl) (by rfl)))) (by rfl) (by rfl) (by rfl) (by rfl)))
 (Zx (show VS _ _ [] _ _ _ _ from (ZW 3 (Yx [] (by rfl) (Zf (Zc 0 (by rfl)) (Zf (Zq (d := (.int 2)) (by rfl) (by rfl)) (Zf (Zc 2 (by rfl)) (Zf (Zc 1 (by rfl)) Zl))))) (by rfl) (by rfl) (by rfl) (by rfl)))
 (Zx (show VS _ _ [] _ _ _ _ from (ZW 4 (Zdu (c := "Rooms") [] (by rfl) (Zf (Zc 1 (by rfl)) (Zf (Zc 3 (by rfl)) Zl))) (by rfl) (by rfl) (by rfl) (by rfl)))
 (Zx (Vs (UJ (Zf (Zc 2 (by rfl)) Zl) X1) (XB 5 (by rfl) (by rfl)) (Vs (UJ (Zf (Zc 2 (by rfl)) Zl) X1) (XB 6 (by rfl) (by rfl)) (Zx (show VS _ _ [] _ _ _ _ from (ZW 7 (Yx [] (by rfl) (Zf (Zc 4 (by rfl)) (Zf (Zc 5 (by rfl)) (Zf (Zc 6 (by rfl)) Zl)))) (by rfl) (by rfl) (by rfl) (by rfl)))
 (Zx (show VS _ _ [] _ _ _ _ from (ZW 8 (Yx [] (by rfl) (Zf (Zc 3 (by rfl)) (Zf (Zc 1 (by rfl)) (Zf (Zc 5 (by rfl)) (Zf (Zc 6 (by rfl)) Zl))))) (by rfl) (by rfl) (by rfl) (by rfl)))
 (YM (Xk (UD (Zc 8 (by rfl)))) (YM (Xk (Zbp (Zc 7 (by rfl)))) (Yg (Zq (d := (.bl false)) (by rfl) (by rfl))) Xm) (YM (Zfe (ZcS (Xk (ZeH (fun _ h => h) T.isi_str (Zc 7 (by rfl))))) (Xl (Zk Zd5 (Zc 7 (by rfl)) (Zc 8 (by rfl))))) (Yg (Zq (d := (.bl false)) (by rfl) (by rfl))) (YM (Xl (Zk Vm (Yx [] (by rfl) (Zf (Zc 3 (by rfl)) (Zf (Zc 1 (by rfl)) (Zf (Zc 5 (by rfl)) (Zf (Zc 7 (by rfl)) Zl))))) (Yx [] (by rfl) (Zf (Zc 3 (by rfl)) (Zf (Zc 1 (by rfl)) (Zf (Zc 6 (by rfl)) (Zf (Zc 7 (by rfl)) Zl))))))) (Yg (Zq (d := (.bl false)) (by rfl) (by rfl))) Xm)))))))
 (Yg (Zk Vm (V3 T.fl_ways (Zc 4 (by rfl))) (Zc 3 (by rfl)))))))))
end
end K15
namespace K15
open DL L2
theorem U2 (ns : List Int) (k : Nat) : Yo [.lst (ns.map D.int), .int k] = some (.int (ns.getD k 0)) := by
 by_cases h : k < ns.length
 · have hz : atI (ns.map D.int) (k : Int) = some (.int (ns.getD k 0)) := by
    refine Um ?_
    rw [List.getElem?_map, List.getElem?_eq_getElem h, List.getD_eq_getElem?_getD, List.getElem?_eq_getElem h]
    rfl
   simp [Yo, f_QA, h, hz, DL.run, DL.runI, Zd, sIf, Zu, Zd7, sNext, Zg, QG, Xo, Zd9, sNever, xB, bD, YZ, Yv, xOr, Za, eC, eOp, XZ, eOr, ZfS, eIf, Z1, Y0, Vo, ZcV, eUn, ZfT, eNil, Zb, ZQ, ZJ, eCB, lenD, ZfU, ZfV, Zw, XD, Yy, ZY, eSl, xP, ZfW, addD, ZfQ, ZfR, fdivD, modD, YL, ixD, isD, eBM, XC, Vt, kind, plainKinds, V7, QU, UN, QV, QW, QX, Zbz, QY, ZcZ, Zc0, Zc1, List.lookup, YV, CMul, PySem.sizeLine_eq, List.replicate]
 · have hz : ns.getD k 0 = 0 := by rw [List.getD_eq_getElem?_getD, List.getElem?_eq_none (by omega)]; rfl
   simp [Yo, f_QA, h, hz, DL.run, DL.runI, Zd, sIf, Zu, Zd7, sNext, Zg, QG, Xo, Zd9, sNever, xB, bD, YZ, Yv, xOr, Za, eC, eOp, XZ, eOr, ZfS, eIf, Z1, Y0, Vo, ZcV, eUn, ZfT, eNil, Zb, ZQ, ZJ, eCB, lenD, ZfU, ZfV, Zw, XD, Yy, ZY, eSl, xP, ZfW, addD, ZfQ, ZfR, fdivD, modD, YL, ixD, isD, eBM, XC, Vt, kind, plainKinds, V7, QU, UN, QV, QW, QX, Zbz, QY, ZcZ, Zc0, Zc1, List.lookup, YV, CMul, PySem.sizeLine_eq, List.replicate]
structure Mk (M : List Nat) : Prop where
 lo : 2 <= M.length
 hi : M.length <= 4
 nd : M.Nodup
 cd : ∀ c ∈ M, c < 128
def MS : List (List Nat) := [[48, 49], [97, 98], [120, 121, 122], [48, 97, 49, 98], [98, 97], [57, 122, 56]]
theorem ZfG : ∀ M ∈ MS, 2 <= M.length /\ M.length <= 4 /\ M.Nodup /\ ∀ c ∈ M, c < 128 := by decide
theorem ZcH (c : Int) : ∃ M, Mk M /\ UY [.int c] = some (.str M) := by
 obtain ⟨a, ha, hlt⟩ := US c (show 0 < 6 by decide)
 have hl : a < MS.length := hlt
 have hm := ZfG _ (List.getElem_mem hl)
 refine ⟨MS[a], ⟨hm.1, hm.2.1, hm.2.2.1, hm.2.2.2⟩, XJ (δ := [some (.int c), none]) rfl ?_⟩
 have t0 : Zg 1 (ZQ (Zb (eC (.str [48, 49])) (Zb (eC (.str [97, 98])) (Zb (eC (.str [120, 121, 122])) (Zb (eC (.str [48, 97, 49, 98])) (Zb (eC (.str [98, 97])) (Zb (eC (.str [57, 122, 56])) eNil))))))) [some (.int c), none] = some (.nx [some (.int c), some (.lst (MS.map D.str))]) := ZM (UQ (Zh rfl (Zh rfl (Zh rfl (Zh rfl (Zh rfl (Zh rfl nil_of)))))) (by show 6 <= 1000; decide))
 refine (Zp t0).trans (YF ((Zm (x := .lst (MS.map D.str)) (y := .int (a : Int)) rfl ((Zm (x := .int c) (y := .int 6) rfl rfl).trans ((XG (by decide)).trans (by rw [<- ha]; rfl)))).trans (UR ?_)))
 rw [List.getElem?_map, List.getElem?_eq_getElem hl]
 rfl
theorem Y9 {M : List Nat} (h : Mk M) {i : Nat} {δ : DL.Env} (e : Za i δ = some (.str M)) : eCB lenD (Zb (Za i) eNil) δ = some (.int (M.length : Int)) := (XI (Zh e nil_of)).trans (len_str (by have := h.hi; omega))
theorem Zag {α : Type} {γ : D -> DL.Env -> Option DL.Env} {ε : DL.Env -> Option D} {δ0 : DL.Env} (g f : α -> D) : ∀ (xs : List α), (∀ x ∈ xs, ∃ δ1, γ (g x) δ0 = some δ1 /\ ε δ1 = some (f x)) -> YN γ (fun _ => some true) ε δ0 (xs.map g) = some (xs.map f)
 | [], _ => rfl
 | x :: xs, h => by
  obtain ⟨δ1, h1, h2⟩ := h x List.mem_cons_self
  have ih := Zag g f xs fun y hy => h y (List.mem_cons_of_mem _ hy)
  rw [List.map_cons, List.map_cons]
  unfold YN
  rw [h1]
  dsimp only
  rw [h2, ih]
abbrev Wy := List (List (Option Nat))
def oD : Option Nat -> D
 | none => .non
 | some a => .int (a : Int)
def ZT (r : List (Option Nat)) : D := .lst (r.map oD)
def Zs (r : List (Option Nat)) : D := .tup (r.map oD)
structure Ok1 (m n : Nat) (r : List (Option Nat)) : Prop where
 ln : r.length = n
 pl : ∀ a, some a ∈ r -> a < m
structure Ok (m n : Nat) (W : Wy) : Prop where
 m0 : 0 < m
 m6 : m <= 6
 n2 : 2 <= n
 n4 : n <= 4
 ln : W.length = m
 rw : ∀ r ∈ W, Ok1 m n r
def ZK (W : Wy) : D := .lst (W.map ZT)
def put (W : Wy) (a k : Nat) (x : Option Nat) : Wy := W.set a ((W.getD a []).set k x)
theorem Ok1.set {m n : Nat} {r : List (Option Nat)} {k : Nat} {x : Nat} (h : Ok1 m n r) (hx : x < m) : Ok1 m n (r.set k (some x)) := ⟨by rw [List.length_set]; exact h.ln, fun a ha => by
 rcases List.mem_or_eq_of_mem_set ha with h1 | h1
 · exact h.pl a h1
 · cases h1; exact hx⟩
theorem Ok.row {m n : Nat} {W : Wy} (h : Ok m n W) {a : Nat} (ha : a < m) : ∃ r, W[a]? = some r /\ W.getD a [] = r /\ Ok1 m n r := by
 have hl : a < W.length := by rw [h.ln]; exact ha
 refine ⟨W[a], List.getElem?_eq_getElem hl, ?_, h.rw _ (List.getElem_mem hl)⟩
 rw [List.getD_eq_getElem?_getD, List.getElem?_eq_getElem hl]
 rfl
theorem Ok.put {m n : Nat} {W : Wy} (h : Ok m n W) {a k x : Nat} (ha : a < m) (hx : x < m) : Ok m n (put W a k (some x)) := by
 obtain ⟨r, h1, h2, h3⟩ := h.row ha
 refine ⟨h.m0, h.m6, h.n2, h.n4, by unfold K15.put; rw [List.length_set]; exact h.ln, fun r' hr' => ?_⟩
 unfold K15.put at hr'
 rcases List.mem_or_eq_of_mem_set hr' with h4 | h4
 · exact h.rw r' h4
 · rw [h4, h2]; exact h3.set hx
theorem ZbG {i : Nat} {κ1 κ2 ε : DL.Env -> Option D} {δ : DL.Env} {m n : Nat} {W : Wy} (h : Ok m n W) {a k x : Nat} (ha : a < m) (hk : k < n) (hv : Za i δ = some (ZK W)) (h1 : κ1 δ = some (.int (a : Int))) (h2 : κ2 δ = some (.int (k : Int))) (h3 : ε δ = some (.int (x : Int))) : Xr i κ1 κ2 ε δ = some (.nx (δ.set i (some (ZK (put W a k (some x)))))) := by
 obtain ⟨r, hr1, hr2, hr3⟩ := h.row ha
 have hW := h.ln
 have e1 : YX ε δ = some (.int (x : Int)) := by unfold YX; rw [h3]; rfl
 unfold Xr
 rw [e1, hv, h1, h2]
 unfold ZK
 dsimp only
 rw [List.length_map, ZbF (by omega)]
 dsimp only
 rw [List.getElem?_map, hr1]
 show (match ixN (r.map oD).length (k : Int) with
  | some l => some (Out.nx (δ.set i (some (.lst ((W.map ZT).set a (.lst ((r.map oD).set l (.int (x : Int)))))))))
  | none => none) = _
 rw [List.length_map, ZbF (by rw [hr3.ln]; exact hk)]
 dsimp only
 unfold put
 rw [hr2, List.map_set]
 unfold ZT
 rw [List.map_set]
 rfl
theorem ZeR {κ0 κ1 : DL.Env -> Option D} {δ : DL.Env} {m n : Nat} {W : Wy} (h : Ok m n W) {a : Nat} (ha : a < m) (hv : κ0 δ = some (ZK W)) (h1 : κ1 δ = some (.int (a : Int))) : eOp ixD κ0 κ1 δ = some (ZT (W.getD a [])) := by
 obtain ⟨r, hr1, hr2, hr3⟩ := h.row ha
 rw [hr2]
 exact (Zm hv h1).trans (UR (by rw [List.getElem?_map, hr1]; rfl))
theorem Q4 (x : Option Nat) : Vo (oD x) = x.isNone := by cases x <;> rfl
theorem ZdS {i : Nat} {φ : DL.Env -> Option Out} {δ δ' : DL.Env} (h : φ (δ.set i none) = some (.nx δ')) (hi : δ'[i]? = some none) : Zy i φ δ = some (.nx (δ'.set i ((δ[i]?).getD none))) := by
 unfold Zy
 rw [h]
 dsimp only
 rw [hi]
theorem ZeS {i j : DL.Env -> Option D} {δ : DL.Env} {s n : Nat} (h1 : i δ = some (.int (s : Int))) (h2 : j δ = some (.int (n : Int))) (hn : 0 < n) (hn4 : n <= 100) : eOp fdivD i j δ = some (.int ((s / n : Nat) : Int)) := by
 refine (Zm h1 h2).trans ((UO ⟨by omega, by omega⟩).trans ?_)
 rw [Int.natCast_ediv]
theorem Zc3 {i j : DL.Env -> Option D} {δ : DL.Env} {s n : Nat} (h1 : i δ = some (.int (s : Int))) (h2 : j δ = some (.int (n : Int))) (hn : 0 < n) : eOp modD i j δ = some (.int ((s % n : Nat) : Int)) := by
 refine (Zm h1 h2).trans ((XG (by omega)).trans ?_)
 rw [Int.natCast_emod]
theorem Ub (a n : Nat) (hn : n <= 100) {i j : DL.Env -> Option D} {δ : DL.Env} (h1 : i δ = some (.int (a : Int))) (h2 : j δ = some (.int (n : Int))) : eOp mulX i j δ = some (.int ((a * n : Nat) : Int)) := by
 refine (Zm h1 h2).trans ((Zcb (by omega) (by omega)).trans ?_)
 rw [Int.natCast_mul]
theorem cyc {N p s : Nat} (hp : p < N) (hs : s < N) (hne : s ≠ p) : (p + N - (s + 1) % N) % N < (p + N - s) % N := by
 by_cases h : s + 1 < N
 · rw [Nat.mod_eq_of_lt h]
   by_cases h2 : s < p
   · have e1 : (p + N - (s + 1)) % N = p - (s + 1) := by
      rw [show p + N - (s + 1) = (p - (s + 1)) + N by omega, Nat.add_mod_right, Nat.mod_eq_of_lt (by omega)]
     have e2 : (p + N - s) % N = p - s := by
      rw [show p + N - s = (p - s) + N by omega, Nat.add_mod_right, Nat.mod_eq_of_lt (by omega)]
     omega
   · rw [Nat.mod_eq_of_lt (show p + N - (s + 1) < N by omega), Nat.mod_eq_of_lt (show p + N - s < N by omega)]
     omega
 · have e : s + 1 = N := by omega
   rw [e, Nat.mod_self, Nat.sub_zero, Nat.add_mod_right, Nat.mod_eq_of_lt hp, Nat.mod_eq_of_lt (show p + N - s < N by omega)]
   omega
abbrev tkK (tk : List Nat) : List Key := tk.map fun t : Nat => (.inl (t : Int) : Key)
def TK (tk : List Nat) : D := .dct (tkK tk) (tk.map fun _ => .bl true)
theorem Q5 (t : Nat) : ∀ tk : List Nat, YC (.inl (t : Int)) (tkK tk) = decide (t ∈ tk)
 | [] => by simp [YC, tkK]
 | u :: tk => by
  show (decide ((.inl (u : Int) : Key) = .inl (t : Int)) || YC (.inl (t : Int)) (tkK tk)) = _
  rw [Q5 t tk]
  by_cases h : u = t
  · subst h
    simp
  · have h2 : ¬ t = u := fun z => h z.symm
    have h3 : ¬ ((.inl (u : Int) : Key) = .inl (t : Int)) := fun z => by
     have := Sum.inl.inj z
     omega
    simp [h2, h3]
theorem ZdT {i : Nat} {κ : DL.Env -> Option D} {δ : DL.Env} {tk : List Nat} {t : Nat} (h1 : Za i δ = some (TK tk)) (h2 : κ δ = some (.int (t : Int))) (hn : t ∉ tk) (hl : tk.length <= 1000) : Y5 i κ (eC (.bl true)) δ = some (.nx (δ.set i (some (TK (tk ++ [t]))))) := by
 unfold Y5
 rw [h1, h2]
 show (if (tkK tk).length < PySem.sizeLine then some (Out.nx (δ.set i (some (Vu (tkK tk) (tk.map fun _ => .bl true) (.inl (t : Int)) (.bl true))))) else none) = _
 rw [if_pos (by rw [List.length_map, PySem.sizeLine_eq]; omega)]
 unfold Vu
 rw [Q5, decide_eq_false hn, if_neg (by simp)]
 unfold TK tkK
 rw [List.map_append, List.map_append]
 rfl
theorem pig : ∀ (N : Nat) (tk : List Nat), (∀ p, p < N -> p ∈ tk) -> N <= tk.length
 | 0, _, _ => Nat.zero_le _
 | N + 1, tk, h => by
  have hm := h N (Nat.lt_succ_self N)
  have ih := pig N (tk.erase N) fun p hp => (List.mem_erase_of_ne (by omega)).mpr (h p (by omega))
  rw [List.length_erase_of_mem hm] at ih
  have := List.length_pos_of_mem hm
  omega
theorem Va {i : Nat} {φ : DL.Env -> Option Out} {δ δ0 δ' δ'' : DL.Env} (e : δ.set i none = δ0) (h : φ δ0 = some (.nx δ')) (hi : δ'[i]? = some none) (hr : δ'.set i ((δ[i]?).getD none) = δ'') : Zy i φ δ = some (.nx δ'') := by
 subst e hr
 exact ZdS h hi
theorem ZdU {i k : Nat} {δ : DL.Env} {xs r : List D} (h1 : Za i δ = some (.lst xs)) (h2 : Za k δ = some (.lst r)) (hl : xs.length <= 1000) (hs : r.all Zi = true) : X4 i k δ = some (.nx ((δ.set k none).set i (some (.lst (xs ++ [.lst r]))))) := by
 unfold X4
 rw [h1, h2]
 exact if_pos ⟨by rw [PySem.sizeLine_eq]; omega, hs⟩
theorem Zc4 (r : List (Option Nat)) : (r.map oD).all Zi = true := by
 rw [List.all_map]
 exact List.all_eq_true.mpr fun x _ => by cases x <;> rfl
theorem Zc5 {i : Nat} {ε : DL.Env -> Option D} {δ : DL.Env} {d : D} (h : ε δ = some d) (hi : i < δ.length) : YB i ε δ = some (.nx (δ.set i (some d))) := by
 unfold YB
 rw [h]
 exact if_pos hi
end K15
namespace K15
open DL L2
theorem ZdV {n : Nat} {f : DL.Env -> Option Out} {vs : List D} {δ : DL.Env} {d : D} (h1 : (vs.map some ++ List.replicate (n - vs.length) none) = δ) (h2 : f δ = some (.rt d)) : DL.runF n f vs = some d := by
 unfold DL.runF
 rw [h1, h2]
theorem ZbH {a b : DL.Env -> Option Out} {δ δ' : DL.Env} (h : a δ = some (.nx δ')) : Y3 a b δ = b δ' := by
 unfold Y3
 rw [h]
abbrev TE9 (ns : List Int) (m : Nat) (M : List Nat) (v4 v5 v6 v7 v8 : Option D) : DL.Env := [some (.lst (ns.map D.int)), some (.int 2), some (.int (m : Int)), some (.str M), v4, v5, v6, v7, v8]
def el (m : Nat) (c : Int) : Option Nat := if 2 < c / (m : Int) % 5 then none else some (c % (m : Int)).toNat
noncomputable def ta1 : DL.Env -> Option Out := (Zg 8 (Zw 2 Yo [] (Zb (Za 0) (Zb (eOp addX (eOp addX (Za 1) (eOp mulX (Za 5) (eCB lenD (Zb (Za 3) eNil)))) (Za 7)) eNil))))
noncomputable def taE : DL.Env -> Option D := (eOp ixD (ZQ (Zb (eOp modD (Za 8) (Za 2)) (Zb (eC .non) eNil))) (eCB intD (Zb (eOp (YL fun i j => decide (j < i)) (eOp modD (eOp fdivD (Za 8) (Za 2)) (eC (.int 5))) (eC (.int 2))) eNil)))
noncomputable def taF : DL.Env -> Option Out := (ZP (ZL (Zb (eCB lenD (Zb (Za 3) eNil)) eNil)) (Zt 7) (Zd ta1 (Yn 6 taE)))
theorem ZcI : f_QG = Y3 (YB 4 (ZQ eNil)) (Y3 (ZP (ZL (Zb (Za 2) eNil)) (Zt 5) (Zd (Zy 4 (Zg 6 (ZQ eNil))) (Zd (Zy 4 taF) (X4 4 6)))) (Zu (Za 4))) := rfl
theorem ZeT (ns : List Int) (m : Nat) (hm : 0 < m) (hm6 : m <= 6) (M : List Nat) (c : Int) (v4 v5 v6 v7 : Option D) : taE (TE9 ns m M v4 v5 v6 v7 (some (.int c))) = some (oD (el m c)) := by
 have h1 : eOp modD (Za 8) (Za 2) (TE9 ns m M v4 v5 v6 v7 (some (.int c))) = some (.int (c % (m : Int))) := (Zm (x := .int c) (y := .int (m : Int)) rfl rfl).trans (XG (by omega))
 have h2 : eOp modD (eOp fdivD (Za 8) (Za 2)) (eC (.int 5)) (TE9 ns m M v4 v5 v6 v7 (some (.int c))) = some (.int (c / (m : Int) % 5)) := (Zm (x := .int (c / (m : Int))) (y := .int 5) ((Zm (x := .int c) (y := .int (m : Int)) rfl rfl).trans (UO (QZ (by omega) (by omega)))) rfl).trans (XG (by decide))
 have h3 : eCB intD (Zb (eOp (YL fun i j => decide (j < i)) (eOp modD (eOp fdivD (Za 8) (Za 2)) (eC (.int 5))) (eC (.int 2))) eNil) (TE9 ns m M v4 v5 v6 v7 (some (.int c))) = some (.int (if decide (2 < c / (m : Int) % 5) then 1 else 0)) := (XI (Zh (x := .bl (decide (2 < c / (m : Int) % 5))) ((Zm (y := .int 2) h2 rfl).trans rfl) nil_of)).trans rfl
 refine (Zm (UQ (Zh h1 (Zh (x := .non) rfl nil_of)) (by show 2 <= 1000; decide)) h3).trans ?_
 unfold el
 by_cases h : 2 < c / (m : Int) % 5
 · rw [if_pos h, decide_eq_true h]
   rfl
 · rw [if_neg h, decide_eq_false h]
   show some (D.int (c % (m : Int))) = some (D.int (((c % (m : Int)).toNat : Nat) : Int))
   rw [Int.toNat_of_nonneg (Int.emod_nonneg _ (by omega))]
theorem ZfH {m : Nat} (hm : 0 < m) {c : Int} {t : Nat} (h : el m c = some t) : t < m := by
 unfold el at h
 by_cases hc : 2 < c / (m : Int) % 5
 · rw [if_pos hc] at h; cases h
 · rw [if_neg hc] at h
   cases h
   have := Int.emod_lt_of_pos c (show 0 < (m : Int) by omega)
   have := Int.emod_nonneg c (show (m : Int) ≠ 0 by omega)
   omega
theorem ZeU (ns : List Int) (m : Nat) {M : List Nat} (hM : Mk M) (a k : Nat) (v4 v6 v8 : Option D) : ∃ c, ta1 (TE9 ns m M v4 (some (.int (a : Int))) v6 (some (.int (k : Int))) v8) = some (.nx (TE9 ns m M v4 (some (.int (a : Int))) v6 (some (.int (k : Int))) (some (.int c)))) := by
 have hhi := hM.hi
 refine ⟨_, ZM ((YG (n := 2) (ds := [.lst (ns.map D.int), .int ((2 + a * M.length + k : Nat) : Int)]) (Zh rfl (Zh ?_ nil_of)) rfl).trans (U2 ns _))⟩
 refine (Zm (x := .int ((2 + a * M.length : Nat) : Int)) (y := .int (k : Int)) ((Zm (x := .int 2) (y := .int ((a * M.length : Nat) : Int)) rfl (Ub a M.length (by omega) rfl (Y9 hM rfl))).trans ?_) rfl).trans ?_
 · rw [add_int]
   exact congrArg (fun z => some (D.int z)) (by omega)
 · rw [add_int]
   exact congrArg (fun z => some (D.int z)) (by omega)
theorem ZeV (ns : List Int) (m : Nat) {M : List Nat} (hM : Mk M) (hm : 0 < m) (hm6 : m <= 6) (a : Nat) (v7 v8 : Option D) : ∃ r w7 w8, Ok1 m M.length r /\ taF (TE9 ns m M none (some (.int (a : Int))) (some (.lst [])) v7 v8) = some (.nx (TE9 ns m M none (some (.int (a : Int))) (some (ZT r)) w7 w8)) := by
 have hhi := hM.hi
 obtain ⟨δ', h1, r, w7, w8, e, hl, hp⟩ := V8 (γ := Zt 7) (φ := Zd ta1 (Yn 6 taE)) (fun k δ => ∃ (r : List (Option Nat)) (v7 v8 : Option D), δ = TE9 ns m M none (some (.int (a : Int))) (some (ZT r)) v7 v8 /\ r.length = k /\ ∀ t, some t ∈ r -> t < m) (ZD 0 1 M.length) 0 (TE9 ns m M none (some (.int (a : Int))) (some (.lst [])) v7 v8) ⟨[], _, _, rfl, rfl, fun t z => by cases z⟩ (by
  intro j x δ hx ⟨r, v7, v8, e, hl, hp⟩
  subst e
  obtain ⟨hj, rfl⟩ := Q2 hx
  rw [Nat.zero_add] at hl ⊢
  obtain ⟨c, t1⟩ := ZeU ns m hM a j none (some (ZT r)) v8
  refine ⟨_, rfl, TE9 ns m M none (some (.int (a : Int))) (some (ZT (r ++ [el m c]))) (some (.int (j : Int))) (some (.int c)), (Zp t1).trans ((Q1 (xs := r.map oD) rfl (ZeT ns m hm hm6 M c _ _ _ _) (by rw [List.length_map]; omega)).trans ?_), _, _, _, rfl, by rw [List.length_append, hl]; rfl, fun t ht => ?_⟩
  · unfold ZT
    rw [List.map_append]
    rfl
  · rcases List.mem_append.mp ht with z | z
    · exact hp t z
    · exact ZfH hm (List.mem_singleton.mp z).symm)
 subst e
 rw [ZbD, Nat.zero_add] at hl
 exact ⟨r, w7, w8, ⟨hl, hp⟩, YH ((Vy (j := (M.length : Int)) (Zh (Y9 hM rfl) nil_of) (by omega) (by omega)).trans (by rw [Int.toNat_natCast])) h1⟩
theorem ZcJ (ns : List Int) (m : Nat) {M : List Nat} (hM : Mk M) (hm : 0 < m) (hm6 : m <= 6) : ∃ W, Ok m M.length W /\ V9 [.lst (ns.map D.int), .int 2, .int (m : Int), .str M] = some (ZK W) := by
 have t0 : YB 4 (ZQ eNil) (TE9 ns m M none none none none none) = some (.nx (TE9 ns m M (some (.lst (([] : Wy).map ZT))) none none none none)) := Zc5 rfl (by show 4 < 9; decide)
 obtain ⟨δ1, l1, W1, v5, v6, v7, v8, e1, hl1, hw1⟩ := V8 (γ := Zt 5) (φ := Zd (Zy 4 (Zg 6 (ZQ eNil))) (Zd (Zy 4 taF) (X4 4 6))) (fun k δ => ∃ (W : Wy) (v5 v6 v7 v8 : Option D), δ = TE9 ns m M (some (.lst (W.map ZT))) v5 v6 v7 v8 /\ W.length = k /\ ∀ r ∈ W, Ok1 m M.length r) (ZD 0 1 m) 0 (TE9 ns m M (some (.lst (([] : Wy).map ZT))) none none none none) ⟨[], _, _, _, _, rfl, rfl, fun r z => by cases z⟩ (by
  intro j x δ hx ⟨W, v5, v6, v7, v8, e, hl, hw⟩
  subst e
  obtain ⟨hj, rfl⟩ := Q2 hx
  rw [Nat.zero_add] at hl ⊢
  obtain ⟨r, w7, w8, hr, t2⟩ := ZeV ns m hM hm hm6 j v7 v8
  have t1 : Zy 4 (Zg 6 (ZQ eNil)) (TE9 ns m M (some (.lst (W.map ZT))) (some (.int (j : Int))) v6 v7 v8) = some (.nx (TE9 ns m M (some (.lst (W.map ZT))) (some (.int (j : Int))) (some (.lst [])) v7 v8)) := Va (δ0 := TE9 ns m M none (some (.int (j : Int))) v6 v7 v8) (δ' := TE9 ns m M none (some (.int (j : Int))) (some (.lst [])) v7 v8) rfl (ZM rfl) rfl rfl
  have t3 : Zy 4 taF (TE9 ns m M (some (.lst (W.map ZT))) (some (.int (j : Int))) (some (.lst [])) v7 v8) = some (.nx (TE9 ns m M (some (.lst (W.map ZT))) (some (.int (j : Int))) (some (ZT r)) w7 w8)) := Va (δ0 := TE9 ns m M none (some (.int (j : Int))) (some (.lst [])) v7 v8) (δ' := TE9 ns m M none (some (.int (j : Int))) (some (ZT r)) w7 w8) rfl t2 rfl rfl
  refine ⟨_, rfl, TE9 ns m M (some (.lst ((W ++ [r]).map ZT))) (some (.int (j : Int))) none w7 w8, (Zp t1).trans ((Zp t3).trans ((ZdU (xs := W.map ZT) (r := r.map oD) rfl rfl (by rw [List.length_map]; omega) (Zc4 r)).trans ?_)), W ++ [r], _, _, _, _, rfl, by rw [List.length_append, hl]; rfl, fun r' hr' => ?_⟩
  · rw [List.map_append]
    rfl
  · rcases List.mem_append.mp hr' with z | z
    · exact hw r' z
    · rw [List.mem_singleton.mp z]; exact hr)
 subst e1
 rw [ZbD, Nat.zero_add] at hl1
 refine ⟨W1, ⟨hm, hm6, hM.lo, hM.hi, hl1, hw1⟩, ZdV (δ := TE9 ns m M none none none none none) rfl ?_⟩
 rw [ZcI, ZbH t0]
 exact (ZbH (YH ((Vy (j := (m : Int)) rfl (by omega) (by omega)).trans (by rw [Int.toNat_natCast])) l1)).trans rfl
noncomputable def lnE : DL.Env -> Option D := (eCB lenD (Zb (Za 3) eNil))
noncomputable def lv1 : DL.Env -> Option Out := (Zg 7 (eOp modD (eOp fdivD (Zw 2 Yo [] (Zb (Za 0) (Zb (eOp addX (Za 1) (eOp mulX (Za 6) lnE)) eNil))) (eC (.int 60))) (eOp mulX (Za 6) lnE)))
noncomputable def lvT : DL.Env -> Option Bool := (xB (eOp (inK false) (Za 7) (Za 5)))
noncomputable def lvB : DL.Env -> Option Out := (Zg 7 (eOp modD (eOp addX (Za 7) (eC (.int 1))) (eOp mulX (Za 6) lnE)))
noncomputable def lv4 : DL.Env -> Option Out := (Xr 4 (eOp fdivD (Za 7) lnE) (eOp modD (Za 7) lnE) (Za 6))
noncomputable def lc1 : DL.Env -> Option Out := (Zy 4 (Zg 8 (Zw 2 Yo [] (Zb (Za 0) (Zb (eOp addX (eOp addX (Za 1) (eOp mulX (Za 6) lnE)) (eC (.int 1))) eNil)))))
noncomputable def lc2 : DL.Env -> Option Out := (Xr 4 (Za 6) (eOp modD (eOp fdivD (Za 8) (eC (.int 7))) lnE) (eOp modD (Za 8) (Za 2)))
noncomputable def lcI : DL.Env -> Option Out := (sIf (xB (eOp eqD (eLM lcountD (eOp ixD (Za 4) (Za 6)) (eC .non)) lnE)) (Zd lc1 lc2) sNext)
def U3 : DL.Env -> Option D := (eCB Yw (Zb (Za 0) eNil))
theorem Zcc : f_QB = Zd (YB 4 (Zw 4 V9 [] (Zb (Za 0) (Zb (Za 1) (Zb (Za 2) (Zb (Za 3) eNil)))))) (Zd (Zy 4 (Zg 5 (eC (.dct [] [])))) (Zd (ZP (ZL (Zb (eC (.int 1)) (Zb (Za 2) eNil))) (Zt 6) (Zd (Zy 4 lv1) (Zd (Zy 4 (Z5 lvT lvB)) (Zd (Zy 4 (Y5 5 (Za 7) (eC (.bl true)))) lv4)))) (Zd (ZP (ZL (Zb (Za 2) eNil)) (Zt 6) lcI) (Zu (eCB Yw (Zb (Xn (Yh (Za 4)) (Zt 0) (fun _ => some true) U3 1 []) eNil)))))) := rfl
theorem ZfI (t : Nat) (tk : List Nat) : inK false (.int (t : Int)) (TK tk) = some (.bl (decide (t ∈ tk))) := by
 show some (D.bl (false != YC (.inl (t : Int)) (tkK tk))) = _
 rw [Q5]
 cases decide (t ∈ tk) <;> rfl
theorem Zcd {N : Nat} {tk : List Nat} (h : tk.length < N) : ∃ p, p < N /\ p ∉ tk := by
 apply Classical.byContradiction
 intro hz
 have := pig N tk fun p hp => Classical.byContradiction fun hn => hz ⟨p, hp, hn⟩
 omega
theorem ZdW (ns : List Int) (m : Nat) {M : List Nat} (hM : Mk M) (tk : List Nat) (a s0 : Nat) (ha0 : 0 < a) (ha : a <= 6) (hf : tk.length < a * M.length) (hs0 : s0 < a * M.length) (v8 : Option D) :
 ∃ s, s < a * M.length /\ s ∉ tk /\ Z5 lvT lvB (TE9 ns m M none (some (TK tk)) (some (.int (a : Int))) (some (.int (s0 : Int))) v8) = some (.nx (TE9 ns m M none (some (TK tk)) (some (.int (a : Int))) (some (.int (s : Int))) v8)) := by
 have hhi := hM.hi
 obtain ⟨p, hp, hpn⟩ := Zcd hf
 have hN : 0 < a * M.length := by omega
 obtain ⟨δ', h1, s, hs, e, hsn⟩ := Zbh (τ := lvT) (φ := lvB) (fun δ => ∃ s, s < a * M.length /\ δ = TE9 ns m M none (some (TK tk)) (some (.int (a : Int))) (some (.int (s : Int))) v8) (fun δ => ∃ s, s < a * M.length /\ δ = TE9 ns m M none (some (TK tk)) (some (.int (a : Int))) (some (.int (s : Int))) v8 /\ s ∉ tk)
  (fun δ => match Za 7 δ with | some (.int s) => (p + a * M.length - s.toNat) % (a * M.length) | _ => 0) (by
    rintro δ ⟨s, hs, rfl⟩
    have e2 : lvT (TE9 ns m M none (some (TK tk)) (some (.int (a : Int))) (some (.int (s : Int))) v8) = some (decide (s ∈ tk)) := Z7 ((Zm (x := .int (s : Int)) (y := TK tk) rfl rfl).trans (ZfI s tk))
    by_cases hx : s ∈ tk
    · refine .inr ⟨by rw [e2, decide_eq_true hx], TE9 ns m M none (some (TK tk)) (some (.int (a : Int))) (some (.int (((s + 1) % (a * M.length) : Nat) : Int))) v8, ?_, ⟨_, Nat.mod_lt _ hN, rfl⟩, ?_⟩
      · refine ZM (Zc3 (s := s + 1) (n := a * M.length) ?_ (Ub a M.length (by omega) rfl (Y9 hM rfl)) hN)
        exact (Zm (x := .int (s : Int)) (y := .int 1) rfl rfl).trans rfl
      · show (p + a * M.length - (((s + 1) % (a * M.length) : Nat) : Int).toNat) % (a * M.length) < (p + a * M.length - ((s : Nat) : Int).toNat) % (a * M.length)
        rw [Int.toNat_natCast, Int.toNat_natCast]
        exact cyc hp hs fun z => hpn (z ▸ hx)
    · exact .inl ⟨by rw [e2, decide_eq_false hx], s, hs, rfl, hx⟩) (TE9 ns m M none (some (TK tk)) (some (.int (a : Int))) (some (.int (s0 : Int))) v8) ⟨s0, hs0, rfl⟩
 subst e
 exact ⟨s, hs, hsn, h1⟩
theorem ZdX (ns : List Int) {m : Nat} {M : List Nat} (hM : Mk M) {W : Wy} (h : Ok m M.length W) (tk : List Nat) (a : Nat) (ha0 : 0 < a) (ha : a < m) (hf : tk.length + 1 = a) (v7 v8 : Option D) : ∃ W' p w7, Ok m M.length W' /\
 Zd (Zy 4 lv1) (Zd (Zy 4 (Z5 lvT lvB)) (Zd (Zy 4 (Y5 5 (Za 7) (eC (.bl true)))) lv4)) (TE9 ns m M (some (ZK W)) (some (TK tk)) (some (.int (a : Int))) v7 v8) = some (.nx (TE9 ns m M (some (ZK W')) (some (TK (tk ++ [p]))) (some (.int (a : Int))) w7 v8)) := by
 have hhi := hM.hi
 have hlo := hM.lo
 have hm6 := h.m6
 have hN : a * 2 <= a * M.length := Nat.mul_le_mul_left a hlo
 obtain ⟨s0, hs0, hs0N⟩ := US (ns.getD (2 + a * M.length) 0 / 60) (show 0 < a * M.length by omega)
 have t : lv1 (TE9 ns m M none (some (TK tk)) (some (.int (a : Int))) v7 v8) = some (.nx (TE9 ns m M none (some (TK tk)) (some (.int (a : Int))) (some (.int (s0 : Int))) v8)) := by
  refine ZM ((Zm (x := .int (ns.getD (2 + a * M.length) 0 / 60)) (y := .int ((a * M.length : Nat) : Int)) ((Zm (x := .int (ns.getD (2 + a * M.length) 0)) (y := .int 60) ((YG (n := 2) (ds := [.lst (ns.map D.int), .int ((2 + a * M.length : Nat) : Int)]) (Zh rfl (Zh ?_ nil_of)) rfl).trans (U2 ns _)) rfl).trans (UO (QZ (by decide) (by decide)))) (Ub a M.length (by omega) rfl (Y9 hM rfl))).trans ?_)
  · refine (Zm (x := .int 2) (y := .int ((a * M.length : Nat) : Int)) rfl (Ub a M.length (by omega) rfl (Y9 hM rfl))).trans ?_
    rw [add_int]
    exact congrArg (fun z => some (D.int z)) (by omega)
  · rw [XG (by omega), hs0]
 have t1 : Zy 4 lv1 (TE9 ns m M (some (ZK W)) (some (TK tk)) (some (.int (a : Int))) v7 v8) = some (.nx (TE9 ns m M (some (ZK W)) (some (TK tk)) (some (.int (a : Int))) (some (.int (s0 : Int))) v8)) := Va (δ0 := TE9 ns m M none (some (TK tk)) (some (.int (a : Int))) v7 v8) (δ' := TE9 ns m M none (some (TK tk)) (some (.int (a : Int))) (some (.int (s0 : Int))) v8) rfl t rfl rfl
 obtain ⟨s, hs, hsn, tw⟩ := ZdW ns m hM tk a s0 ha0 (by omega) (by omega) hs0N v8
 have t2 : Zy 4 (Z5 lvT lvB) (TE9 ns m M (some (ZK W)) (some (TK tk)) (some (.int (a : Int))) (some (.int (s0 : Int))) v8) = some (.nx (TE9 ns m M (some (ZK W)) (some (TK tk)) (some (.int (a : Int))) (some (.int (s : Int))) v8)) := Va (δ0 := TE9 ns m M none (some (TK tk)) (some (.int (a : Int))) (some (.int (s0 : Int))) v8) (δ' := TE9 ns m M none (some (TK tk)) (some (.int (a : Int))) (some (.int (s : Int))) v8) rfl tw rfl rfl
 have t3 : Zy 4 (Y5 5 (Za 7) (eC (.bl true))) (TE9 ns m M (some (ZK W)) (some (TK tk)) (some (.int (a : Int))) (some (.int (s : Int))) v8) = some (.nx (TE9 ns m M (some (ZK W)) (some (TK (tk ++ [s]))) (some (.int (a : Int))) (some (.int (s : Int))) v8)) := Va (δ0 := TE9 ns m M none (some (TK tk)) (some (.int (a : Int))) (some (.int (s : Int))) v8) (δ' := TE9 ns m M none (some (TK (tk ++ [s]))) (some (.int (a : Int))) (some (.int (s : Int))) v8) rfl (ZdT rfl rfl hsn (by omega)) rfl rfl
 have hsa : s / M.length < a := (Nat.div_lt_iff_lt_mul (by omega)).mpr hs
 have hsm : s % M.length < M.length := Nat.mod_lt _ (by omega)
 refine ⟨put W (s / M.length) (s % M.length) (some a), s, some (.int (s : Int)), h.put (by omega) ha, (Zp t1).trans ((Zp t2).trans ((Zp t3).trans ?_))⟩
 exact (ZbG h (by omega) hsm rfl (ZeS (s := s) (n := M.length) rfl (Y9 hM rfl) (by omega) (by omega)) (Zc3 (s := s) (n := M.length) rfl (Y9 hM rfl) (by omega)) rfl).trans rfl
theorem ZdY (ns : List Int) {m : Nat} {M : List Nat} (hM : Mk M) {W : Wy} (h : Ok m M.length W) (a : Nat) (ha : a < m) (v5 v7 v8 : Option D) : ∃ W' w8, Ok m M.length W' /\ lcI (TE9 ns m M (some (ZK W)) v5 (some (.int (a : Int))) v7 v8) = some (.nx (TE9 ns m M (some (ZK W')) v5 (some (.int (a : Int))) v7 w8)) := by
 have hhi := hM.hi
 have hlo := hM.lo
 have hm6 := h.m6
 have hm0 := h.m0
 have hcn : ∃ k : Nat, eLM lcountD (eOp ixD (Za 4) (Za 6)) (eC .non) (TE9 ns m M (some (ZK W)) v5 (some (.int (a : Int))) v7 v8) = some (.int (k : Int)) := by
  unfold eLM
  rw [ZeR h ha rfl rfl]
  unfold ZT
  dsimp only
  rw [show eC D.non (TE9 ns m M (some (ZK W)) v5 (some (.int (a : Int))) v7 v8) = some .non from rfl]
  dsimp only
  rw [if_pos (by rw [Zc4]; rfl)]
  exact ⟨_, rfl⟩
 obtain ⟨k, hk⟩ := hcn
 have e0 : xB (eOp eqD (eLM lcountD (eOp ixD (Za 4) (Za 6)) (eC .non)) lnE) (TE9 ns m M (some (ZK W)) v5 (some (.int (a : Int))) v7 v8) = some (decide ((k : Int) = (M.length : Int))) := Z7 ((Zm hk (Y9 hM rfl)).trans (V7 _ _))
 by_cases hz : (k : Int) = (M.length : Int)
 · obtain ⟨x, hx, hxl⟩ := US (ns.getD (2 + a * M.length + 1) 0 / 7) (show 0 < M.length by omega)
   obtain ⟨y, hy, hyl⟩ := US (ns.getD (2 + a * M.length + 1) 0) hm0
   have t1 : lc1 (TE9 ns m M (some (ZK W)) v5 (some (.int (a : Int))) v7 v8) = some (.nx (TE9 ns m M (some (ZK W)) v5 (some (.int (a : Int))) v7 (some (.int (ns.getD (2 + a * M.length + 1) 0))))) := by
    refine Va (δ0 := TE9 ns m M none v5 (some (.int (a : Int))) v7 v8) (δ' := TE9 ns m M none v5 (some (.int (a : Int))) v7 (some (.int (ns.getD (2 + a * M.length + 1) 0)))) rfl (ZM ((YG (n := 2) (ds := [.lst (ns.map D.int), .int ((2 + a * M.length + 1 : Nat) : Int)]) (Zh rfl (Zh ?_ nil_of)) rfl).trans (U2 ns _))) rfl rfl
    refine (Zm (x := .int ((2 + a * M.length : Nat) : Int)) (y := .int 1) ((Zm (x := .int 2) (y := .int ((a * M.length : Nat) : Int)) rfl (Ub a M.length (by omega) rfl (Y9 hM rfl))).trans ?_) rfl).trans ?_
    · rw [add_int]
      exact congrArg (fun z => some (D.int z)) (by omega)
    · rw [add_int]
      exact congrArg (fun z => some (D.int z)) (by omega)
   refine ⟨put W a x (some y), some (.int (ns.getD (2 + a * M.length + 1) 0)), h.put ha hyl, (Xu (by rw [e0, decide_eq_true hz])).trans ((Zp t1).trans ?_)⟩
   refine (ZbG (x := y) h ha hxl rfl rfl ((Zm (x := .int (ns.getD (2 + a * M.length + 1) 0 / 7)) (y := .int (M.length : Int)) ((Zm (x := .int (ns.getD (2 + a * M.length + 1) 0)) (y := .int 7) rfl rfl).trans (UO (QZ (by decide) (by decide)))) (Y9 hM rfl)).trans ((XG (by omega)).trans (by rw [hx]))) ((Zm (x := .int (ns.getD (2 + a * M.length + 1) 0)) (y := .int (m : Int)) rfl rfl).trans ((XG (by omega)).trans (by rw [hy])))).trans rfl
 · exact ⟨W, v8, h, (Z6 (by rw [e0, decide_eq_false hz])).trans rfl⟩
theorem ZaY (f : List (Option Nat) -> D) (hf : ∀ r, Yw [f r] = some (Zs r)) (W : Wy) : YN (Zt 0) (fun _ => some true) U3 [none] (W.map f) = some (W.map Zs) := Zag f Zs W fun r _ => ⟨[some (f r)], rfl, (XI (Zh (x := f r) rfl nil_of)).trans (hf r)⟩
theorem ZcK {n j : Nat} {x : D} (h : (ZD 1 1 n)[j]? = some x) : j < n /\ x = .int ((1 + j : Nat) : Int) := by
 obtain ⟨h1, h2⟩ := ZcF h
 refine ⟨h1, h2.trans (congrArg D.int (by omega))⟩
theorem Zce (ns : List Int) (m : Nat) {M : List Nat} (hM : Mk M) (hm : 0 < m) (hm6 : m <= 6) : ∃ W, Ok m M.length W /\ UZ [.lst (ns.map D.int), .int 2, .int (m : Int), .str M] = some (.tup (W.map Zs)) := by
 obtain ⟨W0, hW0, ht⟩ := ZcJ ns m hM hm hm6
 have t0 : YB 4 (Zw 4 V9 [] (Zb (Za 0) (Zb (Za 1) (Zb (Za 2) (Zb (Za 3) eNil))))) (TE9 ns m M none none none none none) = some (.nx (TE9 ns m M (some (ZK W0)) none none none none)) := Zc5 ((YG (n := 4) (Zh rfl (Zh rfl (Zh rfl (Zh rfl nil_of)))) rfl).trans ht) (by show 4 < 9; decide)
 have t1 : Zy 4 (Zg 5 (eC (.dct [] []))) (TE9 ns m M (some (ZK W0)) none none none none) = some (.nx (TE9 ns m M (some (ZK W0)) (some (TK [])) none none none)) := Va (δ0 := TE9 ns m M none none none none none) (δ' := TE9 ns m M none (some (TK [])) none none none) rfl (ZM rfl) rfl rfl
 obtain ⟨δ2, l2, W2, tk, v6, v7, e2, hW2, _⟩ := V8 (γ := Zt 6) (φ := Zd (Zy 4 lv1) (Zd (Zy 4 (Z5 lvT lvB)) (Zd (Zy 4 (Y5 5 (Za 7) (eC (.bl true)))) lv4))) (fun k δ => ∃ (W : Wy) (tk : List Nat) (v6 v7 : Option D), δ = TE9 ns m M (some (ZK W)) (some (TK tk)) v6 v7 none /\ Ok m M.length W /\ tk.length = k) (ZD 1 1 (m - 1)) 0 (TE9 ns m M (some (ZK W0)) (some (TK [])) none none none) ⟨W0, [], _, _, rfl, hW0, rfl⟩ (by
  intro j x δ hx ⟨W, tk, v6, v7, e, hW, hl⟩
  subst e
  obtain ⟨hj, rfl⟩ := ZcK hx
  rw [Nat.zero_add] at hl ⊢
  obtain ⟨W', p, w7, h1, h2⟩ := ZdX ns hM hW tk (1 + j) (by omega) (by omega) (by omega) v7 none
  exact ⟨_, rfl, _, h2, W', tk ++ [p], _, _, rfl, h1, by rw [List.length_append, hl]; rfl⟩)
 subst e2
 obtain ⟨δ3, l3, W3, u6, u8, e3, hW3⟩ := V8 (γ := Zt 6) (φ := lcI) (fun k δ => ∃ (W : Wy) (v6 v8 : Option D), δ = TE9 ns m M (some (ZK W)) (some (TK tk)) v6 v7 v8 /\ Ok m M.length W) (ZD 0 1 m) 0 (TE9 ns m M (some (ZK W2)) (some (TK tk)) v6 v7 none) ⟨W2, _, _, rfl, hW2⟩ (by
  intro j x δ hx ⟨W, v6, v8, e, hW⟩
  subst e
  obtain ⟨hj, rfl⟩ := Q2 hx
  obtain ⟨W', w8, h1, h2⟩ := ZdY ns hM hW j hj (some (TK tk)) v7 v8
  exact ⟨_, rfl, _, h2, W', _, _, rfl, h1⟩)
 subst e3
 refine ⟨W3, hW3, XJ (δ := TE9 ns m M none none none none none) rfl ?_⟩
 rw [Zcc, Zp t0]
 refine (Zp t1).trans ?_
 refine (Zp (YH ((ZeP (i := 1) (j := (m : Int)) rfl (by omega) (by omega) (by omega) (by omega)).trans ?_) l2)).trans ?_
 · rw [show ((m : Int) - 1).toNat = m - 1 by omega]
 refine (Zp (YH ((Vy (j := (m : Int)) rfl (by omega) (by omega)).trans (by rw [Int.toNat_natCast])) l3)).trans (YF ?_)
 exact (XI (Zh (ZbE (xs := W3.map ZT) rfl rfl (ZaY ZT (fun r => rfl) W3) (by rw [List.length_map, hW3.ln]; omega)) nil_of)).trans rfl
end K15
namespace K15
open DL L2
def ZR (M : List Nat) (W : Wy) : DL.D := .obj "Rooms" ["marks", "ways"] [.str M, .tup (W.map Zs)]
theorem Q6 {M : List Nat} {W : Wy} {i : Nat} {δ : DL.Env} (h : Za i δ = some (ZR M W)) : ZY YQ "marks" (Za i) δ = some (.str M) := by unfold ZY; rw [h]; rfl
theorem ZaZ {M : List Nat} {W : Wy} {i : Nat} {δ : DL.Env} (h : Za i δ = some (ZR M W)) : ZY Y8 "ways" (Za i) δ = some (.tup (W.map Zs)) := by unfold ZY; rw [h]; rfl
theorem ZdZ (M : List Nat) (W : Wy) (hl : W.length <= 100) : UV [.obj "Rooms" [] [], .str M, .tup (W.map Zs)] = some (ZR M W) := by
 have hc := ZaY Zs (fun r => rfl) W
 have he : ∀ x0, eCB Yw (Zb (Xn (Yh (Za 2)) (Zt 0) (fun _ => some true) U3 1 []) eNil) [x0, some (.str M), some (.tup (W.map Zs))] = some (.tup (W.map Zs)) := fun x0 => (XI (Zh (ZbE (xs := W.map Zs) rfl rfl hc (by rw [List.length_map]; omega)) nil_of)).trans rfl
 have hf : f_QE [some (.obj "Rooms" [] []), some (.str M), some (.tup (W.map Zs))] = some (.nx [some (ZR M W), some (.str M), some (.tup (W.map Zs))]) := by
  show Zd (Xo 0 YQ "marks" (Za 1)) (Xo 0 Y8 "ways" (eCB Yw (Zb (Xn (Yh (Za 2)) (Zt 0) (fun _ => some true) U3 1 []) eNil))) _ = _
  rw [Zp (δ' := [some (.obj "Rooms" ["marks"] [.str M]), some (.str M), some (.tup (W.map Zs))]) rfl]
  unfold Xo
  rw [he]
  rfl
 show (match f_QE ([DL.D.obj "Rooms" [] [], .str M, .tup (W.map Zs)].map some ++ List.replicate (3 - 3) none) with
  | some (.nx δ) => Za 0 δ
  | _ => none) = _
 rw [show ([DL.D.obj "Rooms" [] [], .str M, .tup (W.map Zs)].map some ++ List.replicate (3 - 3) none) = [some (.obj "Rooms" [] []), some (.str M), some (.tup (W.map Zs))] from rfl, hf]
 rfl
theorem is_mark (M : List Nat) (c : Nat) (hc : c ∈ M) : UU [.str M, .str [c]] = some (.bl true) := by
 refine XJ (δ := [some (.str M), some (.str [c])]) rfl (YF (ZdP rfl ((Zm (x := .str [c]) (y := .str M) rfl rfl).trans ?_)))
 show some (D.bl (false != decide (c ∈ M))) = some (D.bl true)
 rw [decide_eq_true hc]
 rfl
def ent (M : List Nat) (W : Wy) (e c : Nat) : Option Nat := (W.getD e []).getD (Z8 c M).toNat none
theorem ZeW {m : Nat} {M : List Nat} {W : Wy} (h : Ok m M.length W) {e c : Nat} (he : e < m) (hc : c ∈ M) : UW [ZR M W, .int (e : Int), .str [c]] = some (oD (ent M W e c)) /\ ∀ t, ent M W e c = some t -> t < m := by
 obtain ⟨r, h1, h2, h3⟩ := h.row he
 obtain ⟨i, hi, _, hiM⟩ := Zar hc
 have hir : i < r.length := by rw [h3.ln]; exact hiM
 have e2 : r[i]? = some r[i] := List.getElem?_eq_getElem hir
 have e3 : ent M W e c = r[i] := by
  unfold ent
  rw [h2, hi, Int.toNat_natCast, List.getD_eq_getElem?_getD, e2]
  rfl
 refine ⟨?_, fun t ht => h3.pl t (by rw [<- ht, e3]; exact List.getElem_mem hir)⟩
 have ht : YZ (xB (Zw 2 UU [] (Zb (ZY YQ "marks" (Za 0)) (Zb (Za 2) eNil)))) [some (ZR M W), some (.int (e : Int)), some (.str [c])] = some false := ZbA (b := true) (Z7 ((YG (n := 2) (Zh (Q6 rfl) (Zh (x := .str [c]) rfl nil_of)) rfl).trans (is_mark M c hc)))
 refine XJ (δ := [some (ZR M W), some (.int (e : Int)), some (.str [c])]) rfl ?_
 refine (Zp ((Z6 ht).trans rfl)).trans (YF ?_)
 have ei : indexD M [.str [c]] = some (.int (i : Int)) := by
  show (if 0 <= Z8 c M then some (D.int (Z8 c M)) else none) = _
  rw [hi, if_pos (by omega)]
 rw [e3]
 refine (Zm (x := Zs r) (y := .int (i : Int)) ((Zm (ZaZ rfl) rfl).trans (ix_tup (by rw [List.getElem?_map, h1]; rfl))) ((Zee (Q6 rfl) (Zh (x := .str [c]) rfl nil_of)).trans ei)).trans (ix_tup (by rw [List.getElem?_map, e2]; rfl))
def gt (W : Wy) (b k : Nat) : Option Nat := (W.getD b []).getD k none
theorem ZbI {M : List Nat} (hn : M.Nodup) {k : Nat} (hk : k < M.length) : Z8 (M.getD k 0) M = (k : Int) := by
 have e : M.getD k 0 = M[k] := by rw [List.getD_eq_getElem?_getD, List.getElem?_eq_getElem hk]; rfl
 have hm : M.getD k 0 ∈ M := by rw [e]; exact List.getElem_mem hk
 obtain ⟨i, h1, h2, h3⟩ := Zar hm
 rw [h1]
 have : i = k := by
  rw [List.getElem?_eq_getElem h3, e] at h2
  exact (List.getElem_inj hn).mp (Option.some.inj h2)
 rw [this]
theorem Zef {m : Nat} {M : List Nat} {W : Wy} (hM : Mk M) (h : Ok m M.length W) {e k : Nat} (he : e < m) (hk : k < M.length) : UW [ZR M W, .int (e : Int), .str [M.getD k 0]] = some (oD (gt W e k)) := by
 have e1 : M.getD k 0 = M[k] := by rw [List.getD_eq_getElem?_getD, List.getElem?_eq_getElem hk]; rfl
 have hm : M.getD k 0 ∈ M := by rw [e1]; exact List.getElem_mem hk
 rw [(ZeW h he hm).1]
 unfold ent gt
 rw [ZbI hM.nd hk, Int.toNat_natCast]
theorem Q7 {m n : Nat} {W : Wy} (h : Ok m n W) {a k t : Nat} (ha : a < m) (e : gt W a k = some t) : t < m /\ k < n := by
 obtain ⟨r, h1, h2, h3⟩ := h.row ha
 unfold gt at e
 rw [h2, List.getD_eq_getElem?_getD] at e
 cases hr : r[k]? with
 | none => rw [hr] at e; cases e
 | some y =>
  rw [hr] at e
  have e' : y = some t := e
  subst e'
  exact ⟨h3.pl t (List.mem_of_getElem? hr), by rw [<- h3.ln]; exact (List.getElem?_eq_some_iff.mp hr).1⟩
def wk (f : Nat -> Nat -> Option Nat) : Nat -> List Nat -> Option Nat
 | a, [] => some a
 | a, k :: r => match f a k with
  | none => none
  | some t => wk f t r
theorem Uc (f : Nat -> Nat -> Option Nat) : ∀ (r : List Nat) (a k : Nat), wk f a (r ++ [k]) = (match wk f a r with
 | none => none
 | some t => f t k)
 | [], a, k => by
  show (match f a k with | none => none | some t => some t) = f a k
  cases f a k <;> rfl
 | j :: r, a, k => by
  show (match f a j with | none => none | some t => wk f t (r ++ [k])) = match (match f a j with | none => none | some t => wk f t r) with
   | none => none
   | some t => f t k
  cases f a j with
  | none => rfl
  | some t => exact Uc f r t k
def Dg (n : Nat) (r : List Nat) : Prop := ∀ k ∈ r, k < n
theorem Q8 : ∀ (m : Nat) (l : List Nat), l.Nodup -> (∀ a ∈ l, a < m) -> l.length <= m
 | 0, l, _, h => by
  cases l with
  | nil => exact Nat.le_refl _
  | cons a l => exact absurd (h a List.mem_cons_self) (by omega)
 | m + 1, l, hn, h => by
  by_cases hm : m ∈ l
  · have h1 := Q8 m (l.erase m) (hn.erase m) fun a ha => by
     have h2 := h a (List.mem_of_mem_erase ha)
     have h3 : a ≠ m := fun z => by rw [z] at ha; exact (hn.not_mem_erase) ha
     omega
    rw [List.length_erase_of_mem hm] at h1
    omega
  · have := Q8 m l hn fun a ha => by
     have h2 := h a ha
     have h3 : a ≠ m := fun z => hm (z ▸ ha)
     omega
    omega
def nD (a : Nat) : D := .int (a : Int)
theorem ZeX (n : Nat) : ZD 0 1 n = (List.range n).map nD := by
 unfold ZD nD
 refine List.map_congr_left fun k _ => congrArg D.int (by omega)
theorem Zcf {β : Type} (f : Nat -> β) : ∀ P : List Nat, (List.range P.length).map (fun k => f (P.getD k 0)) = P.map f := fun P => by
 refine List.ext_getElem (by simp) fun k h1 h2 => ?_
 have hk : k < P.length := by simpa using h1
 simp [hk]
theorem Za0 {ε : DL.Env -> Option D} {δ : DL.Env} {cs : List Nat} (h : ε δ = some (.str cs)) : Yh ε δ = some (cs.map fun c => D.str [c]) := by
 unfold Yh
 rw [h]
end K15
namespace K15
open DL L2
abbrev Tr := Nat × Nat × List Nat
abbrev Qu := List Tr
def pr (x : Tr) : Nat × Nat := (x.1, x.2.1)
def inn (W : Wy) (x : Tr) : List Nat -> Qu -> Option (List Nat) × Qu
 | [], Q => (none, Q)
 | k :: ks, Q => match gt W x.1 k, gt W x.2.1 k with
  | none, none => inn W x ks Q
  | some a, some b => if (a, b) ∈ Q.map pr then inn W x ks Q else inn W x ks (Q ++ [(a, b, x.2.2 ++ [k])])
  | none, some _ => (some (x.2.2 ++ [k]), Q)
  | some _, none => (some (x.2.2 ++ [k]), Q)
def out (W : Wy) (n : Nat) : Nat -> Nat -> Qu -> Option (Option (List Nat))
 | 0, _, _ => none
 | N + 1, p, Q => match Q[p]? with
  | none => some none
  | some x => match inn W x (List.range n) Q with
   | (some r, _) => some (some r)
   | (none, Q') => out W n N (p + 1) Q'
structure Iv (W : Wy) (m n one other : Nat) (Q : Qu) : Prop where
 wl : ∀ x ∈ Q, wk (gt W) one x.2.2 = some x.1 /\ wk (gt W) other x.2.2 = some x.2.1 /\ Dg n x.2.2 /\ x.1 < m /\ x.2.1 < m
 nd : (Q.map pr).Nodup
 ln : ∀ x ∈ Q, x.2.2.length <= Q.length
def Q9 (W : Wy) (n one other : Nat) (r : List Nat) : Prop := Dg n r /\ (wk (gt W) one r).isSome ≠ (wk (gt W) other r).isSome /\ r.length <= 100
section
variable {m n : Nat} {W : Wy} (h : Ok m n W) {one other : Nat}
include h
theorem Iv.len {Q : Qu} (I : Iv W m n one other Q) : Q.length <= m * m := by
 have hm := h.m0
 have e : (Q.map fun x => x.1 * m + x.2.1).length = Q.length := List.length_map _
 rw [<- e]
 refine Q8 _ _ ?_ fun a ha => ?_
 · have e2 : (Q.map fun x => x.1 * m + x.2.1) = (Q.map pr).map fun q => q.1 * m + q.2 := by rw [List.map_map]; rfl
   rw [e2]
   have hlt : ∀ q ∈ Q.map pr, q.2 < m := fun q hq => by
    obtain ⟨x, hx, rfl⟩ := List.mem_map.mp hq
    exact (I.wl x hx).2.2.2.2
   have hn := I.nd
   generalize Q.map pr = L at hlt hn
   clear e e2
   induction L with
   | nil => exact List.nodup_nil
   | cons q L ih =>
    rw [List.nodup_cons] at hn
    rw [List.map_cons, List.nodup_cons]
    refine ⟨fun z => ?_, ih (fun q hq => hlt q (List.mem_cons_of_mem _ hq)) hn.2⟩
    obtain ⟨q', hq', e⟩ := List.mem_map.mp z
    have h1 := hlt q List.mem_cons_self
    have h2 := hlt q' (List.mem_cons_of_mem _ hq')
    have e1 : q'.1 = q.1 := by
     have : (q'.1 * m + q'.2) / m = (q.1 * m + q.2) / m := by rw [show q'.1 * m + q'.2 = q.1 * m + q.2 from e]
     rw [Nat.mul_comm q'.1, Nat.mul_comm q.1, Nat.mul_add_div hm, Nat.mul_add_div hm, Nat.div_eq_of_lt h1, Nat.div_eq_of_lt h2] at this
     omega
    have e3 : q'.2 = q.2 := by rw [e1] at e; omega
    exact hn.1 (by rw [show q = q' from Prod.ext e1.symm e3.symm]; exact hq')
 · obtain ⟨x, hx, rfl⟩ := List.mem_map.mp ha
   obtain ⟨_, _, _, h1, h2⟩ := I.wl x hx
   have : (x.1 + 1) * m <= m * m := Nat.mul_le_mul_right _ h1
   rw [Nat.add_mul, Nat.one_mul] at this
   omega
theorem Iv.put {Q : Qu} (I : Iv W m n one other Q) {x : Tr} (hx : x ∈ Q) {k a b : Nat} (hk : k < n) (ha : gt W x.1 k = some a) (hb : gt W x.2.1 k = some b) (hno : (a, b) ∉ Q.map pr) : Iv W m n one other (Q ++ [(a, b, x.2.2 ++ [k])]) := by
 obtain ⟨w1, w2, w3, w4, w5⟩ := I.wl x hx
 refine ⟨fun y hy => ?_, ?_, fun y hy => ?_⟩
 · rcases List.mem_append.mp hy with hy | hy
   · exact I.wl y hy
   · rw [List.mem_singleton.mp hy]
     refine ⟨by rw [Uc, w1]; exact ha, by rw [Uc, w2]; exact hb, fun j hj => ?_, (Q7 h w4 ha).1, (Q7 h w5 hb).1⟩
     rcases List.mem_append.mp hj with hj | hj
     · exact w3 j hj
     · rw [List.mem_singleton.mp hj]; exact hk
 · rw [List.map_append, List.nodup_append]
   refine ⟨I.nd, by simp, fun p hp q hq => ?_⟩
   have : q = (a, b) := List.mem_singleton.mp hq
   rw [this]
   exact fun z => hno (z ▸ hp)
 · rw [List.length_append, List.length_singleton]
   rcases List.mem_append.mp hy with hy | hy
   · have := I.ln y hy; omega
   · rw [List.mem_singleton.mp hy]
     have := I.ln x hx
     show (x.2.2 ++ [k]).length <= _
     rw [List.length_append, List.length_singleton]
     omega
theorem Vz {x : Tr} : ∀ (ks : List Nat) (Q : Qu), (∀ k ∈ ks, k < n) -> Iv W m n one other Q -> x ∈ Q -> (∃ T, (inn W x ks Q).2 = Q ++ T) /\ Iv W m n one other (inn W x ks Q).2 /\ ∀ r, (inn W x ks Q).1 = some r -> Q9 W n one other r
 | [], Q, _, I, _ => ⟨⟨[], by rw [List.append_nil]; rfl⟩, I, fun r e => by cases e⟩
 | k :: ks, Q, hk, I, hx => by
  have hk0 := hk k List.mem_cons_self
  have hks : ∀ j ∈ ks, j < n := fun j hj => hk j (List.mem_cons_of_mem _ hj)
  have hm6 := h.m6
  have hlen := Iv.len h I
  have hmm : m * m <= 6 * 6 := Nat.mul_le_mul hm6 hm6
  obtain ⟨w1, w2, w3, w4, w5⟩ := I.wl x hx
  have hl := I.ln x hx
  have good : (gt W x.1 k).isSome ≠ (gt W x.2.1 k).isSome -> Q9 W n one other (x.2.2 ++ [k]) := fun hne => by
   refine ⟨fun j hj => ?_, ?_, by rw [List.length_append, List.length_singleton]; omega⟩
   · rcases List.mem_append.mp hj with hj | hj
     · exact w3 j hj
     · rw [List.mem_singleton.mp hj]; exact hk0
   · rw [Uc, Uc, w1, w2]
     exact hne
  unfold inn
  cases ha : gt W x.1 k with
  | none =>
   cases hb : gt W x.2.1 k with
   | none => exact Vz ks Q hks I hx
   | some b => exact ⟨⟨[], by rw [List.append_nil]⟩, I, fun r e => by cases e; exact good (by rw [ha, hb]; exact Bool.false_ne_true)⟩
  | some a =>
   cases hb : gt W x.2.1 k with
   | none => exact ⟨⟨[], by rw [List.append_nil]⟩, I, fun r e => by cases e; exact good (by rw [ha, hb]; exact fun z => Bool.false_ne_true z.symm)⟩
   | some b =>
    dsimp only
    by_cases hin : (a, b) ∈ Q.map pr
    · rw [if_pos hin]; exact Vz ks Q hks I hx
    · rw [if_neg hin]
      obtain ⟨⟨T, hT⟩, I', G⟩ := Vz ks (Q ++ [(a, b, x.2.2 ++ [k])]) hks (Iv.put h I hx hk0 ha hb hin) (List.mem_append_left _ hx)
      exact ⟨⟨(a, b, x.2.2 ++ [k]) :: T, by rw [hT, List.append_assoc]; rfl⟩, I', G⟩
theorem Zc6 : ∀ (N p : Nat) (Q : Qu), Iv W m n one other Q -> p <= Q.length -> m * m < N + p -> ∃ o, out W n N p Q = some o /\ ∀ r, o = some r -> Q9 W n one other r
 | 0, p, Q, I, hp, hN => by
  have := Iv.len h I
  omega
 | N + 1, p, Q, I, hp, hN => by
  unfold out
  cases hx : Q[p]? with
  | none => exact ⟨none, rfl, fun r e => by cases e⟩
  | some x =>
   have hxm := List.mem_of_getElem? hx
   have hpl := (List.getElem?_eq_some_iff.mp hx).1
   obtain ⟨⟨T, hT⟩, I', G⟩ := Vz h (List.range n) Q (fun k hk => List.mem_range.mp hk) I hxm
   dsimp only
   cases hi : inn W x (List.range n) Q with
   | mk o Q' =>
    rw [hi] at hT I' G
    cases o with
    | some r => exact ⟨some r, rfl, fun r' e => by cases e; exact G r rfl⟩
    | none =>
     dsimp only at hT I' ⊢
     exact Zc6 N (p + 1) Q' I' (by rw [hT, List.length_append]; omega) (by omega)
end
def ch (M : List Nat) (r : List Nat) : List Nat := r.map fun k => M.getD k 0
def pD (x : Tr) : D := .tup [nD x.1, nD x.2.1]
def key (x : Nat × Nat) : List Key := [.inl (x.1 : Int), .inl (x.2 : Int)]
def keys (Q : Qu) : List (List Key) := Q.map fun x => key (pr x)
theorem ZbJ {x y : Nat × Nat} (h : key x = key y) : x = y := by
 unfold key at h
 injection h with h1 h2
 injection h2 with h3 _
 have e1 := Sum.inl.inj h1
 have e2 := Sum.inl.inj h3
 exact Prod.ext (by omega) (by omega)
theorem Ja (q : Nat × Nat) : ∀ Q : Qu, YD (key q) (keys Q) = decide (q ∈ Q.map pr)
 | [] => by simp [YD, keys]
 | x :: Q => by
  show (decide (key (pr x) = key q) || YD (key q) (keys Q)) = _
  rw [Ja q Q]
  by_cases e : pr x = q
  · rw [e, decide_eq_true rfl, Bool.true_or]
    exact (decide_eq_true (by rw [List.map_cons, e]; exact List.mem_cons_self)).symm
  · have e2 : ¬ key (pr x) = key q := fun z => e (ZbJ z)
    have e3 : ¬ q = pr x := fun z => e z.symm
    rw [decide_eq_false e2, Bool.false_or]
    refine decide_eq_decide.mpr ?_
    rw [List.map_cons, List.mem_cons]
    exact ⟨.inr, fun z => z.resolve_left e3⟩
theorem Zas {α : Type} (g : Tr -> α) : ∀ (Q : Qu) (x : Tr), (Q.map pr).Nodup -> x ∈ Q -> X5 (key (pr x)) (keys Q) (Q.map g) = some (g x)
 | [], x, _, hx => by cases hx
 | y :: Q, x, hn, hx => by
  show (if key (pr y) = key (pr x) then some (g y) else X5 (key (pr x)) (keys Q) (Q.map g)) = _
  rw [List.map_cons, List.nodup_cons] at hn
  rcases List.mem_cons.mp hx with rfl | hx
  · rw [if_pos rfl]
  · have hne : pr y ≠ pr x := fun z => hn.1 (by rw [z]; exact List.mem_map_of_mem hx)
    rw [if_neg fun z => hne (ZbJ z), Zas g Q x hn.2 hx]
theorem ZcL (g : Tr -> D) {Q : Qu} {x : Tr} (hno : pr x ∉ Q.map pr) : X6 (keys Q) (Q.map g) (key (pr x)) (g x) = .dtt (keys (Q ++ [x])) ((Q ++ [x]).map g) := by
 unfold X6
 rw [Ja, decide_eq_false hno, if_neg Bool.false_ne_true]
 unfold keys
 rw [List.map_append, List.map_append]
 rfl
theorem Za1 {i : Nat} {κ ε : DL.Env -> Option D} {δ : DL.Env} (g : Tr -> D) {Q : Qu} {x : Tr} (hv : Za i δ = some (.dtt (keys Q) (Q.map g))) (hk : κ δ = some (pD x)) (he : ε δ = some (g x)) (hno : pr x ∉ Q.map pr) (hl : Q.length <= 1000) : YO i κ ε δ = some (.nx (δ.set i (some (.dtt (keys (Q ++ [x])) ((Q ++ [x]).map g))))) := by
 unfold YO
 rw [he, hv, hk]
 show (if (keys Q).length < PySem.sizeLine then some (Out.nx (δ.set i (some (X6 (keys Q) (Q.map g) (key (pr x)) (g x))))) else none) = _
 rw [if_pos (by unfold keys; rw [List.length_map, PySem.sizeLine_eq]; omega), ZcL g hno]
theorem Zc7 {κ i : DL.Env -> Option D} {δ : DL.Env} (g : Tr -> D) {Q : Qu} {a b : Nat} (hv : i δ = some (.dtt (keys Q) (Q.map g))) (hk : κ δ = some (.tup [nD a, nD b])) : xB (eOp (XF true) κ i) δ = some (!decide ((a, b) ∈ Q.map pr)) := by
 refine Z7 ((Zm hk hv).trans ?_)
 show some (D.bl (true != YD (key (a, b)) (keys Q))) = _
 rw [Ja]
 cases decide ((a, b) ∈ Q.map pr) <;> rfl
theorem Zat {τ : DL.Env -> Option Bool} {φ : DL.Env -> Option Out} {N : Nat} {δ δ' : DL.Env} (h1 : τ δ = some true) (h2 : φ δ = some (.nx δ')) : ZB τ φ (N + 1) δ = ZB τ φ N δ' := by
 show (match τ δ with
  | none => none
  | some false => some (Out.nx δ)
  | some true => match φ δ with
   | none => none
   | some (.nx δ2) => ZB τ φ N δ2
   | some (.ct δ2) => ZB τ φ N δ2
   | some (.bk δ2) => some (Out.nx δ2)
   | some (.rt d) => some (Out.rt d)) = _
 rw [h1]
 dsimp only
 rw [h2]
theorem Zau {τ : DL.Env -> Option Bool} {φ : DL.Env -> Option Out} {N : Nat} {δ : DL.Env} {d : D} (h1 : τ δ = some true) (h2 : φ δ = some (.rt d)) : ZB τ φ (N + 1) δ = some (.rt d) := by
 show (match τ δ with
  | none => none
  | some false => some (Out.nx δ)
  | some true => match φ δ with
   | none => none
   | some (.nx δ2) => ZB τ φ N δ2
   | some (.ct δ2) => ZB τ φ N δ2
   | some (.bk δ2) => some (Out.nx δ2)
   | some (.rt d) => some (Out.rt d)) = _
 rw [h1]
 dsimp only
 rw [h2]
theorem Zav {τ : DL.Env -> Option Bool} {φ : DL.Env -> Option Out} {N : Nat} {δ : DL.Env} (h1 : τ δ = some false) : ZB τ φ (N + 1) δ = some (.nx δ) := by
 show (match τ δ with
  | none => none
  | some false => some (Out.nx δ)
  | some true => match φ δ with
   | none => none
   | some (.nx δ2) => ZB τ φ N δ2
   | some (.ct δ2) => ZB τ φ N δ2
   | some (.bk δ2) => some (Out.nx δ2)
   | some (.rt d) => some (Out.rt d)) = _
 rw [h1]
theorem Yp {γ : D -> DL.Env -> Option DL.Env} {φ : DL.Env -> Option Out} {x : D} {xs : List D} {δ δ1 δ2 : DL.Env} (h1 : γ x δ = some δ1) (h2 : φ δ1 = some (.nx δ2)) : ZA γ φ (x :: xs) δ = ZA γ φ xs δ2 := by
 show (match γ x δ with
  | none => none
  | some δ1 => match φ δ1 with
   | none => none
   | some (.nx δ2) => ZA γ φ xs δ2
   | some (.ct δ2) => ZA γ φ xs δ2
   | some (.bk δ2) => some (Out.nx δ2)
   | some (.rt d) => some (Out.rt d)) = _
 rw [h1]
 dsimp only
 rw [h2]
theorem Ud {γ : D -> DL.Env -> Option DL.Env} {φ : DL.Env -> Option Out} {x : D} {xs : List D} {δ δ1 : DL.Env} {d : D} (h1 : γ x δ = some δ1) (h2 : φ δ1 = some (.rt d)) : ZA γ φ (x :: xs) δ = some (.rt d) := by
 show (match γ x δ with
  | none => none
  | some δ1 => match φ δ1 with
   | none => none
   | some (.nx δ2) => ZA γ φ xs δ2
   | some (.ct δ2) => ZA γ φ xs δ2
   | some (.bk δ2) => some (Out.nx δ2)
   | some (.rt d) => some (Out.rt d)) = _
 rw [h1]
 dsimp only
 rw [h2]
end K15
namespace K15
open DL L2
def rS (M : List Nat) (x : Tr) : D := .str (ch M x.2.2)
def oS (M : List Nat) : Option (List Nat) -> D
 | none => .non
 | some r => .str (ch M r)
abbrev PV (M : List Nat) (W : Wy) (one other : Nat) (Q : Qu) (p : Nat) (v6 v7 v8 v9 : Option D) : DL.Env := [some (ZR M W), some (nD one), some (nD other), some (.dtt (keys Q) (Q.map (rS M))), some (.lst (Q.map pD)), some (nD p), v6, v7, v8, v9]
noncomputable def p1 : DL.Env -> Option Out := (Zg 8 (ZJ (Zb (Yy "led" XL (Za 0) (Zb (eOp ixD (Za 6) (eC (.int 0))) (Zb (Za 7) eNil))) (Zb (Yy "led" XL (Za 0) (Zb (eOp ixD (Za 6) (eC (.int 1))) (Zb (Za 7) eNil))) eNil))))
noncomputable def p2 : DL.Env -> Option Out := (Zg 9 (eOp addX (eOp Vv (Za 3) (Za 6)) (Za 7)))
noncomputable def p3 : DL.Env -> Option Out := (sIf (xB (eOp eqD (eTM (Za 8) (eC .non)) (eC (.int 1)))) (Zu (Za 9)) sNext)
noncomputable def p4 : DL.Env -> Option Out := (sIf (Yv (xB (eOp eqD (eTM (Za 8) (eC .non)) (eC (.int 0)))) (xB (eOp (XF true) (Za 8) (Za 3)))) (Zd (YO 3 (Za 8) (Za 9)) (Yn 4 (Za 8))) sNext)
noncomputable def pF : DL.Env -> Option Out := (ZP (Yh (ZY YQ "marks" (Za 0))) (Zt 7) (Zd p1 (Zd p2 (Zd p3 p4))))
noncomputable def pT : DL.Env -> Option Bool := (xB (eOp (YL fun i j => decide (i < j)) (Za 5) (eCB lenD (Zb (Za 4) eNil))))
noncomputable def pB : DL.Env -> Option Out := (Zd (Zg 6 (eOp ixD (Za 4) (Za 5))) (Zd pF (Zg 5 (eOp addX (Za 5) (eC (.int 1))))))
theorem Zbi : f_QJ = Zd (Zg 3 (Y7 (ZJ (Zb (Za 1) (Zb (Za 2) eNil))) (eC (.str [])))) (Zd (Zg 4 (ZQ (Zb (ZJ (Zb (Za 1) (Zb (Za 2) eNil))) eNil))) (Zd (Zg 5 (eC (.int 0))) (Zd (Z5 pT pB) (Zu (eC .non))))) := rfl
theorem ZfJ {δ : DL.Env} (a b : Option Nat) (h : Za 8 δ = some (.tup [oD a, oD b])) (c : Int) : xB (eOp eqD (eTM (Za 8) (eC .non)) (eC (.int c))) δ = some (decide (((if a.isNone then 1 else 0) + (if b.isNone then 1 else 0) : Int) = c)) := by
 have e : eTM (Za 8) (eC .non) δ = some (.int ((if a.isNone then 1 else 0) + (if b.isNone then 1 else 0) : Int)) := by
  unfold eTM
  rw [h]
  cases a <;> cases b <;> rfl
 exact Z7 ((Zm (y := .int c) e rfl).trans (V7 _ _))
section
variable {m : Nat} {M : List Nat} {W : Wy} (hM : Mk M) (h : Ok m M.length W) {one other : Nat}
include hM h
theorem U4 {x : Tr} {p : Nat} : ∀ (ks : List Nat) (Q : Qu) (v7 v8 v9 : Option D), (∀ k ∈ ks, k < M.length) -> Iv W m M.length one other Q -> x ∈ Q ->
 (∀ r, (inn W x ks Q).1 = some r -> ZA (Zt 7) (Zd p1 (Zd p2 (Zd p3 p4))) (ks.map fun k => D.str [M.getD k 0]) (PV M W one other Q p (some (pD x)) v7 v8 v9) = some (.rt (.str (ch M r)))) /\
 ((inn W x ks Q).1 = none -> ∃ w7 w8 w9, ZA (Zt 7) (Zd p1 (Zd p2 (Zd p3 p4))) (ks.map fun k => D.str [M.getD k 0]) (PV M W one other Q p (some (pD x)) v7 v8 v9) = some (.nx (PV M W one other (inn W x ks Q).2 p (some (pD x)) w7 w8 w9)))
 | [], Q, v7, v8, v9, _, I, hx => ⟨fun r e => (by cases e), fun _ => ⟨v7, v8, v9, rfl⟩⟩
 | k :: ks, Q, v7, v8, v9, hk, I, hx => by
  have hk0 := hk k List.mem_cons_self
  have hks : ∀ j ∈ ks, j < M.length := fun j hj => hk j (List.mem_cons_of_mem _ hj)
  have hm6 := h.m6
  have hmm : m * m <= 6 * 6 := Nat.mul_le_mul hm6 hm6
  have hlen := Iv.len h I
  obtain ⟨w1, w2, w3, w4, w5⟩ := I.wl x hx
  have hl := I.ln x hx
  have e0 : eOp ixD (Za 6) (eC (.int 0)) (PV M W one other Q p (some (pD x)) (some (.str [M.getD k 0])) v8 v9) = some (nD x.1) := (Zm (x := pD x) (y := .int 0) rfl rfl).trans rfl
  have e1 : eOp ixD (Za 6) (eC (.int 1)) (PV M W one other Q p (some (pD x)) (some (.str [M.getD k 0])) v8 v9) = some (nD x.2.1) := (Zm (x := pD x) (y := .int 1) rfl rfl).trans rfl
  have c0 : Yy "led" XL (Za 0) (Zb (eOp ixD (Za 6) (eC (.int 0))) (Zb (Za 7) eNil)) (PV M W one other Q p (some (pD x)) (some (.str [M.getD k 0])) v8 v9) = some (oD (gt W x.1 k)) := by
   have hd : Zb (eOp ixD (Za 6) (eC (.int 0))) (Zb (Za 7) eNil) (PV M W one other Q p (some (pD x)) (some (.str [M.getD k 0])) v8 v9) = some [nD x.1, .str [M.getD k 0]] := Zh e0 (Zh rfl nil_of)
   have ev : Za 0 (PV M W one other Q p (some (pD x)) (some (.str [M.getD k 0])) v8 v9) = some (ZR M W) := rfl
   unfold Yy
   rw [ev, hd]
   exact Zef hM h w4 hk0
  have c1 : Yy "led" XL (Za 0) (Zb (eOp ixD (Za 6) (eC (.int 1))) (Zb (Za 7) eNil)) (PV M W one other Q p (some (pD x)) (some (.str [M.getD k 0])) v8 v9) = some (oD (gt W x.2.1 k)) := by
   have hd : Zb (eOp ixD (Za 6) (eC (.int 1))) (Zb (Za 7) eNil) (PV M W one other Q p (some (pD x)) (some (.str [M.getD k 0])) v8 v9) = some [nD x.2.1, .str [M.getD k 0]] := Zh e1 (Zh rfl nil_of)
   have ev : Za 0 (PV M W one other Q p (some (pD x)) (some (.str [M.getD k 0])) v8 v9) = some (ZR M W) := rfl
   unfold Yy
   rw [ev, hd]
   exact Zef hM h w5 hk0
  have t1 : p1 (PV M W one other Q p (some (pD x)) (some (.str [M.getD k 0])) v8 v9) = some (.nx (PV M W one other Q p (some (pD x)) (some (.str [M.getD k 0])) (some (.tup [oD (gt W x.1 k), oD (gt W x.2.1 k)])) v9)) := ZM (Vx (Zh c0 (Zh c1 nil_of)) (by show 2 <= 1000; decide))
  have hget : ∀ v8, eOp Vv (Za 3) (Za 6) (PV M W one other Q p (some (pD x)) (some (.str [M.getD k 0])) v8 v9) = some (.str (ch M x.2.2)) := fun v8 => (Zm (x := .dtt (keys Q) (Q.map (rS M))) (y := pD x) rfl rfl).trans (Zas (rS M) Q x I.nd hx)
  have t2 : ∀ v8, p2 (PV M W one other Q p (some (pD x)) (some (.str [M.getD k 0])) v8 v9) = some (.nx (PV M W one other Q p (some (pD x)) (some (.str [M.getD k 0])) v8 (some (.str (ch M (x.2.2 ++ [k])))))) := fun v8 => by
   refine ZM ((Zm (y := .str [M.getD k 0]) (hget v8) rfl).trans ((add_str ?_).trans ?_))
   · unfold ch
     rw [List.length_map]
     show x.2.2.length + 1 <= 100000
     omega
   · unfold ch
     rw [List.map_append]
     rfl
  rw [List.map_cons]
  have go1 : ∀ {o}, Zd p3 p4 (PV M W one other Q p (some (pD x)) (some (.str [M.getD k 0])) (some (.tup [oD (gt W x.1 k), oD (gt W x.2.1 k)])) (some (.str (ch M (x.2.2 ++ [k]))))) = o -> Zd p1 (Zd p2 (Zd p3 p4)) (PV M W one other Q p (some (pD x)) (some (.str [M.getD k 0])) v8 v9) = o := fun e => (Zp t1).trans ((Zp (t2 _)).trans e)
  have tm := ZfJ (δ := PV M W one other Q p (some (pD x)) (some (.str [M.getD k 0])) (some (.tup [oD (gt W x.1 k), oD (gt W x.2.1 k)])) (some (.str (ch M (x.2.2 ++ [k]))))) (gt W x.1 k) (gt W x.2.1 k) rfl
  unfold inn
  cases ha : gt W x.1 k with
  | none =>
   cases hb : gt W x.2.1 k with
   | none =>
    rw [ha, hb] at go1 tm
    have s1 := go1 ((Zp ((Z6 (tm 1)).trans rfl)).trans ((Z6 (ZbB (tm 0))).trans rfl))
    obtain ⟨i1, i2⟩ := U4 (x := x) (p := p) ks Q (some (.str [M.getD k 0])) (some (.tup [oD none, oD none])) (some (.str (ch M (x.2.2 ++ [k])))) hks I hx
    exact ⟨fun r e => (Yp rfl s1).trans (i1 r e), fun e => by obtain ⟨a7, a8, a9, e'⟩ := i2 e; exact ⟨a7, a8, a9, (Yp rfl s1).trans e'⟩⟩
   | some b =>
    rw [ha, hb] at go1 tm
    have s1 := go1 (XH ((Xu (tm 1)).trans (YF rfl)))
    exact ⟨fun r e => by cases e; exact Ud rfl s1, fun e => by cases e⟩
  | some a =>
   cases hb : gt W x.2.1 k with
   | none =>
    rw [ha, hb] at go1 tm
    have s1 := go1 (XH ((Xu (tm 1)).trans (YF rfl)))
    exact ⟨fun r e => by cases e; exact Ud rfl s1, fun e => by cases e⟩
   | some b =>
    rw [ha, hb] at go1 tm
    have hin := Zc7 (κ := Za 8) (i := Za 3) (δ := PV M W one other Q p (some (pD x)) (some (.str [M.getD k 0])) (some (.tup [oD (some a), oD (some b)])) (some (.str (ch M (x.2.2 ++ [k]))))) (rS M) (Q := Q) (a := a) (b := b) rfl rfl
    dsimp only
    by_cases hmem : (a, b) ∈ Q.map pr
    · rw [if_pos hmem]
      rw [decide_eq_true hmem] at hin
      have s1 := go1 ((Zp ((Z6 (tm 1)).trans rfl)).trans ((Z6 (UP (tm 0) hin)).trans rfl))
      obtain ⟨i1, i2⟩ := U4 (x := x) (p := p) ks Q (some (.str [M.getD k 0])) (some (.tup [oD (some a), oD (some b)])) (some (.str (ch M (x.2.2 ++ [k])))) hks I hx
      exact ⟨fun r e => (Yp rfl s1).trans (i1 r e), fun e => by obtain ⟨a7, a8, a9, e'⟩ := i2 e; exact ⟨a7, a8, a9, (Yp rfl s1).trans e'⟩⟩
    · rw [if_neg hmem]
      rw [decide_eq_false hmem] at hin
      have s2 : YO 3 (Za 8) (Za 9) (PV M W one other Q p (some (pD x)) (some (.str [M.getD k 0])) (some (.tup [oD (some a), oD (some b)])) (some (.str (ch M (x.2.2 ++ [k]))))) = some (.nx [some (ZR M W), some (nD one), some (nD other), some (.dtt (keys (Q ++ [(a, b, x.2.2 ++ [k])])) ((Q ++ [(a, b, x.2.2 ++ [k])]).map (rS M))), some (.lst (Q.map pD)), some (nD p), some (pD x), some (.str [M.getD k 0]), some (.tup [oD (some a), oD (some b)]), some (.str (ch M (x.2.2 ++ [k])))]) := Za1 (rS M) (x := (a, b, x.2.2 ++ [k])) rfl rfl rfl hmem (by omega)
      have s3 : Yn 4 (Za 8) [some (ZR M W), some (nD one), some (nD other), some (.dtt (keys (Q ++ [(a, b, x.2.2 ++ [k])])) ((Q ++ [(a, b, x.2.2 ++ [k])]).map (rS M))), some (.lst (Q.map pD)), some (nD p), some (pD x), some (.str [M.getD k 0]), some (.tup [oD (some a), oD (some b)]), some (.str (ch M (x.2.2 ++ [k])))] = some (.nx (PV M W one other (Q ++ [(a, b, x.2.2 ++ [k])]) p (some (pD x)) (some (.str [M.getD k 0])) (some (.tup [oD (some a), oD (some b)])) (some (.str (ch M (x.2.2 ++ [k])))))) := by
       refine (Q1 (xs := Q.map pD) (d := pD (a, b, x.2.2 ++ [k])) rfl rfl (by rw [List.length_map]; omega)).trans ?_
       rw [show Q.map pD ++ [pD (a, b, x.2.2 ++ [k])] = (Q ++ [(a, b, x.2.2 ++ [k])]).map pD by rw [List.map_append]; rfl]
       rfl
      have s1 := go1 ((Zp ((Z6 (tm 1)).trans rfl)).trans ((Xu (UP (tm 0) hin)).trans ((Zp s2).trans s3)))
      obtain ⟨i1, i2⟩ := U4 (x := x) (p := p) ks (Q ++ [(a, b, x.2.2 ++ [k])]) (some (.str [M.getD k 0])) (some (.tup [oD (some a), oD (some b)])) (some (.str (ch M (x.2.2 ++ [k])))) hks (Iv.put h I hx hk0 ha hb hmem) (List.mem_append_left _ hx)
      exact ⟨fun r e => (Yp rfl s1).trans (i1 r e), fun e => by obtain ⟨a7, a8, a9, e'⟩ := i2 e; exact ⟨a7, a8, a9, (Yp rfl s1).trans e'⟩⟩
theorem Zaw {i : Nat} {δ : DL.Env} (e : Za i δ = some (ZR M W)) : Yh (ZY YQ "marks" (Za i)) δ = some ((List.range M.length).map fun k => D.str [M.getD k 0]) := by
 rw [Zcf (fun c => D.str [c]) M]
 exact Za0 (Q6 e)
theorem ZbK : ∀ (N p : Nat) (Q : Qu) (v6 v7 v8 v9 : Option D), Iv W m M.length one other Q -> p <= Q.length -> ∀ o, out W M.length N p Q = some o ->
 (∀ r, o = some r -> ZB pT pB N (PV M W one other Q p v6 v7 v8 v9) = some (.rt (.str (ch M r)))) /\ (o = none -> ∃ δ', ZB pT pB N (PV M W one other Q p v6 v7 v8 v9) = some (.nx δ'))
 | 0, p, Q, v6, v7, v8, v9, I, hp, o, e => by cases e
 | N + 1, p, Q, v6, v7, v8, v9, I, hp, o, e => by
  have ht : pT (PV M W one other Q p v6 v7 v8 v9) = some (decide ((p : Int) < (Q.length : Int))) := by
   refine Z7 ((Zm (x := .int (p : Int)) (y := .int (Q.length : Int)) rfl ((XI (Zh (x := .lst (Q.map pD)) rfl nil_of)).trans ?_)).trans rfl)
   show some (D.int ((Q.map pD).length : Int)) = _
   rw [List.length_map]
  unfold out at e
  cases hx : Q[p]? with
  | none =>
   rw [hx] at e
   cases e
   have hp2 : Q.length <= p := List.getElem?_eq_none_iff.mp hx
   refine ⟨fun r e => (by cases e), fun _ => ⟨_, Zav ?_⟩⟩
   rw [ht, decide_eq_false (by omega)]
  | some x =>
   rw [hx] at e
   dsimp only at e
   have hxm := List.mem_of_getElem? hx
   have hpl := (List.getElem?_eq_some_iff.mp hx).1
   have htt : pT (PV M W one other Q p v6 v7 v8 v9) = some true := by rw [ht, decide_eq_true (by omega)]
   have s1 : Zg 6 (eOp ixD (Za 4) (Za 5)) (PV M W one other Q p v6 v7 v8 v9) = some (.nx (PV M W one other Q p (some (pD x)) v7 v8 v9)) := ZM ((Zm (x := .lst (Q.map pD)) (y := .int (p : Int)) rfl rfl).trans (UR (by rw [List.getElem?_map, hx]; rfl)))
   obtain ⟨i1, i2⟩ := U4 hM h (p := p) (List.range M.length) Q v7 v8 v9 (fun k hk => List.mem_range.mp hk) I hxm
   obtain ⟨⟨T, hT⟩, I', _⟩ := Vz h (List.range M.length) Q (fun k hk => List.mem_range.mp hk) I hxm
   cases hi : inn W x (List.range M.length) Q with
   | mk q Q' =>
    rw [hi] at e i1 i2 hT I'
    cases q with
    | some r =>
     cases e
     refine ⟨fun r' e => ?_, fun e => (by cases e)⟩
     cases e
     exact Zau htt ((Zp s1).trans (XH (YH (Zaw hM h rfl) (i1 r rfl))))
    | none =>
     obtain ⟨w7, w8, w9, e3⟩ := i2 rfl
     have s3 : Zg 5 (eOp addX (Za 5) (eC (.int 1))) (PV M W one other Q' p (some (pD x)) w7 w8 w9) = some (.nx (PV M W one other Q' (p + 1) (some (pD x)) w7 w8 w9)) := ZM ((Zm (x := .int (p : Int)) (y := .int 1) rfl rfl).trans rfl)
     have sB : pB (PV M W one other Q p v6 v7 v8 v9) = some (.nx (PV M W one other Q' (p + 1) (some (pD x)) w7 w8 w9)) := (Zp s1).trans ((Zp (YH (Zaw hM h rfl) e3)).trans s3)
     have hT' : Q' = Q ++ T := hT
     rw [Zat htt sB]
     exact ZbK N (p + 1) Q' _ _ _ _ I' (by rw [hT', List.length_append]; omega) o e
theorem Iv.first (h1 : one < m) (h2 : other < m) : Iv W m M.length one other [(one, other, [])] := by
 refine ⟨fun x hx => ?_, by simp, fun x hx => ?_⟩
 · rw [List.mem_singleton.mp hx]
   exact ⟨rfl, rfl, (fun _ z => by cases z), h1, h2⟩
 · rw [List.mem_singleton.mp hx]
   exact Nat.zero_le _
theorem Zbj (h1 : one < m) (h2 : other < m) {N : Nat} {o : Option (List Nat)} (e : out W M.length N 0 [(one, other, [])] = some o) : UX [ZR M W, .int (one : Int), .int (other : Int)] = some (oS M o) := by
 have tp : ∀ v3 v4 v5, ZJ (Zb (Za 1) (Zb (Za 2) eNil)) [some (ZR M W), some (nD one), some (nD other), v3, v4, v5, none, none, none, none] = some (pD (one, other, [])) := fun v3 v4 v5 => Vx (Zh rfl (Zh rfl nil_of)) (by show 2 <= 1000; decide)
 have t1 : Zg 3 (Y7 (ZJ (Zb (Za 1) (Zb (Za 2) eNil))) (eC (.str []))) [some (ZR M W), some (nD one), some (nD other), none, none, none, none, none, none, none] = some (.nx [some (ZR M W), some (nD one), some (nD other), some (.dtt (keys [(one, other, [])]) ([((one, other, []) : Tr)].map (rS M))), none, none, none, none, none, none]) := by
  refine ZM ?_
  unfold Y7
  rw [tp]
  rfl
 have t2 : Zg 4 (ZQ (Zb (ZJ (Zb (Za 1) (Zb (Za 2) eNil))) eNil)) [some (ZR M W), some (nD one), some (nD other), some (.dtt (keys [(one, other, [])]) ([((one, other, []) : Tr)].map (rS M))), none, none, none, none, none, none] = some (.nx [some (ZR M W), some (nD one), some (nD other), some (.dtt (keys [(one, other, [])]) ([((one, other, []) : Tr)].map (rS M))), some (.lst ([((one, other, []) : Tr)].map pD)), none, none, none, none, none]) := ZM (UQ (Zh (tp _ _ _) nil_of) (by show 1 <= 1000; decide))
 have t3 : Zg 5 (eC (.int 0)) [some (ZR M W), some (nD one), some (nD other), some (.dtt (keys [(one, other, [])]) ([((one, other, []) : Tr)].map (rS M))), some (.lst ([((one, other, []) : Tr)].map pD)), none, none, none, none, none] = some (.nx (PV M W one other [(one, other, [])] 0 none none none none)) := ZM rfl
 obtain ⟨i1, i2⟩ := ZbK hM h N 0 [(one, other, [])] none none none none (Iv.first hM h h1 h2) (Nat.zero_le _) o e
 refine XJ (δ := [some (ZR M W), some (nD one), some (nD other), none, none, none, none, none, none, none]) rfl ?_
 rw [Zbi, Zp t1, Zp t2, Zp t3]
 cases o with
 | some r => exact XH (V2 (i1 r rfl))
 | none =>
  obtain ⟨δ', e'⟩ := i2 rfl
  exact (Zp (V2 e')).trans (YF rfl)
end
end K15
namespace K15
open DL L2
def tD (M : List Nat) (x : Tr) : D := .tup [nD x.1, nD x.2.1, .str (ch M x.2.2)]
abbrev LV (M : List Nat) (W : Wy) (one other : Nat) (Q : Qu) (p : Nat) (v7 v8 v9 v10 v11 : Option D) : DL.Env := [some (.tup (W.map Zs)), some (.str M), some (nD one), some (nD other), some (.lst (Q.map (tD M))), some (.dtt (keys Q) (Q.map fun _ => .bl true)), some (nD p), v7, v8, v9, v10, v11]
noncomputable def q1 : DL.Env -> Option Out := (Zg 11 (ZJ (Zb (eOp ixD (eOp ixD (Za 0) (Za 7)) (Za 10)) (Zb (eOp ixD (eOp ixD (Za 0) (Za 8)) (Za 10)) eNil))))
noncomputable def qR : DL.Env -> Option D := (eOp addX (Za 9) (eOp ixD (Za 1) (Za 10)))
noncomputable def q2 : DL.Env -> Option Out := (sIf (xB (eOp neD (Z1 (eOp ixD (Za 11) (eC (.int 0)))) (Z1 (eOp ixD (Za 11) (eC (.int 1)))))) (Zu qR) sNext)
noncomputable def q3 : DL.Env -> Option Out := (sIf (Yv (xB (Y0 (eOp ixD (Za 11) (eC (.int 0))))) (xB (eOp (XF true) (Za 11) (Za 5)))) (Zd (YO 5 (Za 11) (eC (.bl true))) (Yn 4 (ZJ (Zb (eOp ixD (Za 11) (eC (.int 0))) (Zb (eOp ixD (Za 11) (eC (.int 1))) (Zb qR eNil)))))) sNext)
noncomputable def qF : DL.Env -> Option Out := (ZP (ZL (Zb (eCB lenD (Zb (Za 1) eNil)) eNil)) (Zt 10) (Zd q1 (Zd q2 q3)))
noncomputable def qT : DL.Env -> Option Bool := (xB (eOp (YL fun i j => decide (i < j)) (Za 6) (eCB lenD (Zb (Za 4) eNil))))
noncomputable def qB : DL.Env -> Option Out := (Zd (Vw (V1 3 (Y1 7 (Y1 8 (Y1 9 gsNil)))) (eOp ixD (Za 4) (Za 6))) (Zd (Zg 6 (eOp addX (Za 6) (eC (.int 1)))) qF))
theorem ZcM : f_QF = Zd (Zg 4 (ZQ (Zb (ZJ (Zb (Za 2) (Zb (Za 3) (Zb (eC (.str [])) eNil)))) eNil))) (Zd (Zg 5 (Y7 (ZJ (Zb (Za 2) (Zb (Za 3) eNil))) (eC (.bl true)))) (Zd (Zg 6 (eC (.int 0))) (Zd (Z5 qT qB) (Zu (eC .non))))) := rfl
theorem Jb {κ0 κ1 κ2 : DL.Env -> Option D} {δ : DL.Env} {m n : Nat} {W : Wy} (h : Ok m n W) {a k : Nat} (ha : a < m) (hk : k < n) (hv : κ0 δ = some (.tup (W.map Zs))) (h1 : κ1 δ = some (nD a)) (h2 : κ2 δ = some (nD k)) : eOp ixD (eOp ixD κ0 κ1) κ2 δ = some (oD (gt W a k)) := by
 obtain ⟨r, hr1, hr2, hr3⟩ := h.row ha
 have hkl : k < r.length := by rw [hr3.ln]; exact hk
 have e : r[k]? = some r[k] := List.getElem?_eq_getElem hkl
 have e0 : eOp ixD κ0 κ1 δ = some (Zs r) := (Zm hv h1).trans (ix_tup (by rw [List.getElem?_map, hr1]; rfl))
 refine (Zm e0 h2).trans ((ix_tup (x := oD r[k]) (by rw [List.getElem?_map, e]; rfl)).trans ?_)
 unfold gt
 rw [hr2, List.getD_eq_getElem?_getD, e]
 rfl
theorem ne_of {δ : DL.Env} (a b : Option Nat) (h : Za 11 δ = some (.tup [oD a, oD b])) : xB (eOp neD (Z1 (eOp ixD (Za 11) (eC (.int 0)))) (Z1 (eOp ixD (Za 11) (eC (.int 1))))) δ = some (a.isNone != b.isNone) := by
 have e0 : eOp ixD (Za 11) (eC (.int 0)) δ = some (oD a) := (Zm (y := .int 0) h rfl).trans rfl
 have e1 : eOp ixD (Za 11) (eC (.int 1)) δ = some (oD b) := (Zm (y := .int 1) h rfl).trans rfl
 have f0 : Z1 (eOp ixD (Za 11) (eC (.int 0))) δ = some (.bl a.isNone) := by unfold Z1; rw [e0]; dsimp only; rw [Q4]
 have f1 : Z1 (eOp ixD (Za 11) (eC (.int 1))) δ = some (.bl b.isNone) := by unfold Z1; rw [e1]; dsimp only; rw [Q4]
 refine Z7 ((Zm f0 f1).trans ?_)
 unfold neD
 rw [UN]
 cases a.isNone <;> cases b.isNone <;> rfl
section
variable {m : Nat} {M : List Nat} {W : Wy} (hM : Mk M) (h : Ok m M.length W) {one other : Nat}
include hM h
theorem U5 {x : Tr} {p : Nat} : ∀ (ks : List Nat) (Q : Qu) (v10 v11 : Option D), (∀ k ∈ ks, k < M.length) -> Iv W m M.length one other Q -> x ∈ Q ->
 (∀ r, (inn W x ks Q).1 = some r -> ZA (Zt 10) (Zd q1 (Zd q2 q3)) (ks.map nD) (LV M W one other Q p (some (nD x.1)) (some (nD x.2.1)) (some (.str (ch M x.2.2))) v10 v11) = some (.rt (.str (ch M r)))) /\
 ((inn W x ks Q).1 = none -> ∃ w10 w11, ZA (Zt 10) (Zd q1 (Zd q2 q3)) (ks.map nD) (LV M W one other Q p (some (nD x.1)) (some (nD x.2.1)) (some (.str (ch M x.2.2))) v10 v11) = some (.nx (LV M W one other (inn W x ks Q).2 p (some (nD x.1)) (some (nD x.2.1)) (some (.str (ch M x.2.2))) w10 w11)))
 | [], Q, v10, v11, _, I, hx => ⟨fun r e => (by cases e), fun _ => ⟨v10, v11, rfl⟩⟩
 | k :: ks, Q, v10, v11, hk, I, hx => by
  have hhi := hM.hi
  have hk0 := hk k List.mem_cons_self
  have hks : ∀ j ∈ ks, j < M.length := fun j hj => hk j (List.mem_cons_of_mem _ hj)
  have hm6 := h.m6
  have hmm : m * m <= 6 * 6 := Nat.mul_le_mul hm6 hm6
  have hlen := Iv.len h I
  obtain ⟨w1, w2, w3, w4, w5⟩ := I.wl x hx
  have hl := I.ln x hx
  have c0 : eOp ixD (eOp ixD (Za 0) (Za 7)) (Za 10) (LV M W one other Q p (some (nD x.1)) (some (nD x.2.1)) (some (.str (ch M x.2.2))) (some (nD k)) v11) = some (oD (gt W x.1 k)) := Jb h w4 hk0 rfl rfl rfl
  have c1 : eOp ixD (eOp ixD (Za 0) (Za 8)) (Za 10) (LV M W one other Q p (some (nD x.1)) (some (nD x.2.1)) (some (.str (ch M x.2.2))) (some (nD k)) v11) = some (oD (gt W x.2.1 k)) := Jb h w5 hk0 rfl rfl rfl
  have t1 : q1 (LV M W one other Q p (some (nD x.1)) (some (nD x.2.1)) (some (.str (ch M x.2.2))) (some (nD k)) v11) = some (.nx (LV M W one other Q p (some (nD x.1)) (some (nD x.2.1)) (some (.str (ch M x.2.2))) (some (nD k)) (some (.tup [oD (gt W x.1 k), oD (gt W x.2.1 k)])))) := ZM (Vx (Zh c0 (Zh c1 nil_of)) (by show 2 <= 1000; decide))
  have hrow : ∀ {v4 v5 v11 : Option D}, qR [some (.tup (W.map Zs)), some (.str M), some (nD one), some (nD other), v4, v5, some (nD p), some (nD x.1), some (nD x.2.1), some (.str (ch M x.2.2)), some (nD k), v11] = some (.str (ch M (x.2.2 ++ [k]))) := fun {v4 v5 v11} => by
   refine (Zm (x := .str (ch M x.2.2)) (y := .str [M.getD k 0]) rfl ((Zm (x := .str M) (y := .int (k : Int)) rfl rfl).trans (ix_str (c := M.getD k 0) (by rw [List.getD_eq_getElem?_getD, List.getElem?_eq_getElem hk0]; rfl) (by omega)))).trans ((add_str ?_).trans ?_)
   · unfold ch
     rw [List.length_map]
     show x.2.2.length + 1 <= 100000
     omega
   · unfold ch
     rw [List.map_append]
     rfl
  rw [List.map_cons]
  have go1 : ∀ {o}, Zd q2 q3 (LV M W one other Q p (some (nD x.1)) (some (nD x.2.1)) (some (.str (ch M x.2.2))) (some (nD k)) (some (.tup [oD (gt W x.1 k), oD (gt W x.2.1 k)]))) = o -> Zd q1 (Zd q2 q3) (LV M W one other Q p (some (nD x.1)) (some (nD x.2.1)) (some (.str (ch M x.2.2))) (some (nD k)) v11) = o := fun e => (Zp t1).trans e
  have tn := ne_of (δ := LV M W one other Q p (some (nD x.1)) (some (nD x.2.1)) (some (.str (ch M x.2.2))) (some (nD k)) (some (.tup [oD (gt W x.1 k), oD (gt W x.2.1 k)]))) (gt W x.1 k) (gt W x.2.1 k) rfl
  have e0 : ∀ (a b : Option Nat) {v4 v5 : Option D}, eOp ixD (Za 11) (eC (.int 0)) [some (.tup (W.map Zs)), some (.str M), some (nD one), some (nD other), v4, v5, some (nD p), some (nD x.1), some (nD x.2.1), some (.str (ch M x.2.2)), some (nD k), some (.tup [oD a, oD b])] = some (oD a) := fun a b {v4 v5} => (Zm (x := .tup [oD a, oD b]) (y := .int 0) rfl rfl).trans rfl
  have e1 : ∀ (a b : Option Nat) {v4 v5 : Option D}, eOp ixD (Za 11) (eC (.int 1)) [some (.tup (W.map Zs)), some (.str M), some (nD one), some (nD other), v4, v5, some (nD p), some (nD x.1), some (nD x.2.1), some (.str (ch M x.2.2)), some (nD k), some (.tup [oD a, oD b])] = some (oD b) := fun a b {v4 v5} => (Zm (x := .tup [oD a, oD b]) (y := .int 1) rfl rfl).trans rfl
  have nn : ∀ (a b : Option Nat), xB (Y0 (eOp ixD (Za 11) (eC (.int 0)))) (LV M W one other Q p (some (nD x.1)) (some (nD x.2.1)) (some (.str (ch M x.2.2))) (some (nD k)) (some (.tup [oD a, oD b]))) = some (!a.isNone) := fun a b => by
   refine Z7 ?_
   unfold Y0
   rw [e0 a b]
   dsimp only
   rw [Q4]
  unfold inn
  cases ha : gt W x.1 k with
  | none =>
   cases hb : gt W x.2.1 k with
   | none =>
    rw [ha, hb] at go1 tn
    have s1 := go1 ((Zp ((Z6 tn).trans rfl)).trans ((Z6 (ZbB (nn none none))).trans rfl))
    obtain ⟨i1, i2⟩ := U5 (x := x) (p := p) ks Q (some (nD k)) (some (.tup [oD none, oD none])) hks I hx
    exact ⟨fun r e => (Yp rfl s1).trans (i1 r e), fun e => by obtain ⟨a8, a9, e'⟩ := i2 e; exact ⟨a8, a9, (Yp rfl s1).trans e'⟩⟩
   | some b =>
    rw [ha, hb] at go1 tn
    have s1 := go1 (XH ((Xu tn).trans (YF hrow)))
    exact ⟨fun r e => by cases e; exact Ud rfl s1, fun e => by cases e⟩
  | some a =>
   cases hb : gt W x.2.1 k with
   | none =>
    rw [ha, hb] at go1 tn
    have s1 := go1 (XH ((Xu tn).trans (YF hrow)))
    exact ⟨fun r e => by cases e; exact Ud rfl s1, fun e => by cases e⟩
   | some b =>
    rw [ha, hb] at go1 tn
    have hin := Zc7 (κ := Za 11) (i := Za 5) (δ := LV M W one other Q p (some (nD x.1)) (some (nD x.2.1)) (some (.str (ch M x.2.2))) (some (nD k)) (some (.tup [oD (some a), oD (some b)]))) (fun _ => D.bl true) (Q := Q) (a := a) (b := b) rfl rfl
    dsimp only
    by_cases hmem : (a, b) ∈ Q.map pr
    · rw [if_pos hmem]
      rw [decide_eq_true hmem] at hin
      have s1 := go1 ((Zp ((Z6 tn).trans rfl)).trans ((Z6 (UP (nn (some a) (some b)) hin)).trans rfl))
      obtain ⟨i1, i2⟩ := U5 (x := x) (p := p) ks Q (some (nD k)) (some (.tup [oD (some a), oD (some b)])) hks I hx
      exact ⟨fun r e => (Yp rfl s1).trans (i1 r e), fun e => by obtain ⟨a8, a9, e'⟩ := i2 e; exact ⟨a8, a9, (Yp rfl s1).trans e'⟩⟩
    · rw [if_neg hmem]
      rw [decide_eq_false hmem] at hin
      have s2 : YO 5 (Za 11) (eC (.bl true)) (LV M W one other Q p (some (nD x.1)) (some (nD x.2.1)) (some (.str (ch M x.2.2))) (some (nD k)) (some (.tup [oD (some a), oD (some b)]))) = some (.nx [some (.tup (W.map Zs)), some (.str M), some (nD one), some (nD other), some (.lst (Q.map (tD M))), some (.dtt (keys (Q ++ [(a, b, x.2.2 ++ [k])])) ((Q ++ [(a, b, x.2.2 ++ [k])]).map fun _ => .bl true)), some (nD p), some (nD x.1), some (nD x.2.1), some (.str (ch M x.2.2)), some (nD k), some (.tup [oD (some a), oD (some b)])]) := Za1 (fun _ => .bl true) (x := (a, b, x.2.2 ++ [k])) rfl rfl rfl hmem (by omega)
      have s3 : Yn 4 (ZJ (Zb (eOp ixD (Za 11) (eC (.int 0))) (Zb (eOp ixD (Za 11) (eC (.int 1))) (Zb qR eNil)))) [some (.tup (W.map Zs)), some (.str M), some (nD one), some (nD other), some (.lst (Q.map (tD M))), some (.dtt (keys (Q ++ [(a, b, x.2.2 ++ [k])])) ((Q ++ [(a, b, x.2.2 ++ [k])]).map fun _ => .bl true)), some (nD p), some (nD x.1), some (nD x.2.1), some (.str (ch M x.2.2)), some (nD k), some (.tup [oD (some a), oD (some b)])] = some (.nx (LV M W one other (Q ++ [(a, b, x.2.2 ++ [k])]) p (some (nD x.1)) (some (nD x.2.1)) (some (.str (ch M x.2.2))) (some (nD k)) (some (.tup [oD (some a), oD (some b)])))) := by
       refine (Q1 (xs := Q.map (tD M)) (d := tD M (a, b, x.2.2 ++ [k])) rfl (Vx (Zh (e0 (some a) (some b)) (Zh (e1 (some a) (some b)) (Zh hrow nil_of))) (by show 3 <= 1000; decide)) (by rw [List.length_map]; omega)).trans ?_
       rw [show Q.map (tD M) ++ [tD M (a, b, x.2.2 ++ [k])] = (Q ++ [(a, b, x.2.2 ++ [k])]).map (tD M) by rw [List.map_append]; rfl]
       rfl
      have s1 := go1 ((Zp ((Z6 tn).trans rfl)).trans ((Xu (UP (nn (some a) (some b)) hin)).trans ((Zp s2).trans s3)))
      obtain ⟨i1, i2⟩ := U5 (x := x) (p := p) ks (Q ++ [(a, b, x.2.2 ++ [k])]) (some (nD k)) (some (.tup [oD (some a), oD (some b)])) hks (Iv.put h I hx hk0 ha hb hmem) (List.mem_append_left _ hx)
      exact ⟨fun r e => (Yp rfl s1).trans (i1 r e), fun e => by obtain ⟨a8, a9, e'⟩ := i2 e; exact ⟨a8, a9, (Yp rfl s1).trans e'⟩⟩
theorem Zeg {δ : DL.Env} (e : Za 1 δ = some (.str M)) : ZL (Zb (eCB lenD (Zb (Za 1) eNil)) eNil) δ = some ((List.range M.length).map nD) := by
 have hhi := hM.hi
 exact (Vy (j := (M.length : Int)) (Zh ((XI (Zh e nil_of)).trans (len_str (by omega))) nil_of) (by omega) (by omega)).trans (by rw [Int.toNat_natCast, ZeX])
theorem ZbL : ∀ (N p : Nat) (Q : Qu) (v7 v8 v9 v10 v11 : Option D), Iv W m M.length one other Q -> p <= Q.length -> ∀ o, out W M.length N p Q = some o ->
 (∀ r, o = some r -> ZB qT qB N (LV M W one other Q p v7 v8 v9 v10 v11) = some (.rt (.str (ch M r)))) /\ (o = none -> ∃ δ', ZB qT qB N (LV M W one other Q p v7 v8 v9 v10 v11) = some (.nx δ'))
 | 0, p, Q, v7, v8, v9, v10, v11, I, hp, o, e => by cases e
 | N + 1, p, Q, v7, v8, v9, v10, v11, I, hp, o, e => by
  have ht : qT (LV M W one other Q p v7 v8 v9 v10 v11) = some (decide ((p : Int) < (Q.length : Int))) := by
   refine Z7 ((Zm (x := .int (p : Int)) (y := .int (Q.length : Int)) rfl ((XI (Zh (x := .lst (Q.map (tD M))) rfl nil_of)).trans ?_)).trans rfl)
   show some (D.int ((Q.map (tD M)).length : Int)) = _
   rw [List.length_map]
  unfold out at e
  cases hx : Q[p]? with
  | none =>
   rw [hx] at e
   cases e
   have hp2 : Q.length <= p := List.getElem?_eq_none_iff.mp hx
   refine ⟨fun r e => (by cases e), fun _ => ⟨_, Zav ?_⟩⟩
   rw [ht, decide_eq_false (by omega)]
  | some x =>
   rw [hx] at e
   dsimp only at e
   have hxm := List.mem_of_getElem? hx
   have hpl := (List.getElem?_eq_some_iff.mp hx).1
   have htt : qT (LV M W one other Q p v7 v8 v9 v10 v11) = some true := by rw [ht, decide_eq_true (by omega)]
   have hix : eOp ixD (Za 4) (Za 6) (LV M W one other Q p v7 v8 v9 v10 v11) = some (tD M x) := (Zm (x := .lst (Q.map (tD M))) (y := .int (p : Int)) rfl rfl).trans (UR (by rw [List.getElem?_map, hx]; rfl))
   have s1 : Vw (V1 3 (Y1 7 (Y1 8 (Y1 9 gsNil)))) (eOp ixD (Za 4) (Za 6)) (LV M W one other Q p v7 v8 v9 v10 v11) = some (.nx (LV M W one other Q p (some (nD x.1)) (some (nD x.2.1)) (some (.str (ch M x.2.2))) v10 v11)) := by
    unfold Vw
    rw [hix]
    rfl
   have s2 : Zg 6 (eOp addX (Za 6) (eC (.int 1))) (LV M W one other Q p (some (nD x.1)) (some (nD x.2.1)) (some (.str (ch M x.2.2))) v10 v11) = some (.nx (LV M W one other Q (p + 1) (some (nD x.1)) (some (nD x.2.1)) (some (.str (ch M x.2.2))) v10 v11)) := ZM ((Zm (x := .int (p : Int)) (y := .int 1) rfl rfl).trans rfl)
   obtain ⟨i1, i2⟩ := U5 hM h (p := p + 1) (List.range M.length) Q v10 v11 (fun k hk => List.mem_range.mp hk) I hxm
   obtain ⟨⟨T, hT⟩, I', _⟩ := Vz h (List.range M.length) Q (fun k hk => List.mem_range.mp hk) I hxm
   cases hi : inn W x (List.range M.length) Q with
   | mk q Q' =>
    rw [hi] at e i1 i2 hT I'
    cases q with
    | some r =>
     cases e
     refine ⟨fun r' e => ?_, fun e => (by cases e)⟩
     cases e
     exact Zau htt ((Zp s1).trans ((Zp s2).trans (YH (Zeg hM h rfl) (i1 r rfl))))
    | none =>
     obtain ⟨w10, w11, e3⟩ := i2 rfl
     have sB : qB (LV M W one other Q p v7 v8 v9 v10 v11) = some (.nx (LV M W one other Q' (p + 1) (some (nD x.1)) (some (nD x.2.1)) (some (.str (ch M x.2.2))) w10 w11)) := (Zp s1).trans ((Zp s2).trans (YH (Zeg hM h rfl) e3))
     have hT' : Q' = Q ++ T := hT
     rw [Zat htt sB]
     exact ZbL N (p + 1) Q' _ _ _ _ _ I' (by rw [hT', List.length_append]; omega) o e
theorem ZcN (h1 : one < m) (h2 : other < m) {N : Nat} {o : Option (List Nat)} (e : out W M.length N 0 [(one, other, [])] = some o) : U0 [.tup (W.map Zs), .str M, .int (one : Int), .int (other : Int)] = some (oS M o) := by
 have t1 : Zg 4 (ZQ (Zb (ZJ (Zb (Za 2) (Zb (Za 3) (Zb (eC (.str [])) eNil)))) eNil)) [some (.tup (W.map Zs)), some (.str M), some (nD one), some (nD other), none, none, none, none, none, none, none, none] = some (.nx [some (.tup (W.map Zs)), some (.str M), some (nD one), some (nD other), some (.lst ([((one, other, []) : Tr)].map (tD M))), none, none, none, none, none, none, none]) := ZM (UQ (Zh (Vx (Zh rfl (Zh rfl (Zh rfl nil_of))) (by show 3 <= 1000; decide)) nil_of) (by show 1 <= 1000; decide))
 have tp : ZJ (Zb (Za 2) (Zb (Za 3) eNil)) [some (.tup (W.map Zs)), some (.str M), some (nD one), some (nD other), some (.lst ([((one, other, []) : Tr)].map (tD M))), none, none, none, none, none, none, none] = some (pD (one, other, [])) := Vx (Zh rfl (Zh rfl nil_of)) (by show 2 <= 1000; decide)
 have t2 : Zg 5 (Y7 (ZJ (Zb (Za 2) (Zb (Za 3) eNil))) (eC (.bl true))) [some (.tup (W.map Zs)), some (.str M), some (nD one), some (nD other), some (.lst ([((one, other, []) : Tr)].map (tD M))), none, none, none, none, none, none, none] = some (.nx [some (.tup (W.map Zs)), some (.str M), some (nD one), some (nD other), some (.lst ([((one, other, []) : Tr)].map (tD M))), some (.dtt (keys [(one, other, [])]) ([((one, other, []) : Tr)].map fun _ => .bl true)), none, none, none, none, none, none]) := by
  refine ZM ?_
  unfold Y7
  rw [tp]
  rfl
 have t3 : Zg 6 (eC (.int 0)) [some (.tup (W.map Zs)), some (.str M), some (nD one), some (nD other), some (.lst ([((one, other, []) : Tr)].map (tD M))), some (.dtt (keys [(one, other, [])]) ([((one, other, []) : Tr)].map fun _ => .bl true)), none, none, none, none, none, none] = some (.nx (LV M W one other [(one, other, [])] 0 none none none none none)) := ZM rfl
 obtain ⟨i1, i2⟩ := ZbL hM h N 0 [(one, other, [])] none none none none none (Iv.first hM h h1 h2) (Nat.zero_le _) o e
 refine XJ (δ := [some (.tup (W.map Zs)), some (.str M), some (nD one), some (nD other), none, none, none, none, none, none, none, none]) rfl ?_
 rw [ZcM, Zp t1, Zp t2, Zp t3]
 cases o with
 | some r => exact XH (V2 (i1 r rfl))
 | none =>
  obtain ⟨δ', e'⟩ := i2 rfl
  exact (Zp (V2 e')).trans (YF rfl)
abbrev WV (M : List Nat) (W : Wy) (r : D) (b : D) (v4 : Option D) : DL.Env := [some (.tup (W.map Zs)), some (.str M), some r, some b, v4]
end
noncomputable def wa1 : DL.Env -> Option Out := (Zg 2 (eOp ixD (eOp ixD (Za 0) (Za 2)) (eBM indexD (Za 1) (Zb (Za 4) eNil))))
noncomputable def wa2 : DL.Env -> Option Out := (sIf (xB (Z1 (Za 2))) (Zu (eC (.bl false))) sNext)
theorem Zcg : f_QC = Zd (ZP (Yh (Za 3)) (Zt 4) (Zd wa1 wa2)) (Zu (eC (.bl true))) := rfl
section
variable {m : Nat} {M : List Nat} {W : Wy} (hM : Mk M) (h : Ok m M.length W)
include hM h
theorem Zc8 (bd : D) : ∀ (b : List Nat) (a : Nat) (v4 : Option D), a < m -> Dg M.length b -> (wk (gt W) a b = none -> ZA (Zt 4) (Zd wa1 wa2) (b.map fun k => D.str [M.getD k 0]) (WV M W (nD a) bd v4) = some (.rt (.bl false))) /\ ∀ t, wk (gt W) a b = some t -> ∃ δ', ZA (Zt 4) (Zd wa1 wa2) (b.map fun k => D.str [M.getD k 0]) (WV M W (nD a) bd v4) = some (.nx δ')
 | [], a, v4, _, _ => ⟨fun e => (by cases e), fun t e => ⟨_, rfl⟩⟩
 | k :: b, a, v4, ha, hd => by
  have hk := hd k List.mem_cons_self
  have ei : eBM indexD (Za 1) (Zb (Za 4) eNil) (WV M W (nD a) bd (some (.str [M.getD k 0]))) = some (nD k) := by
   refine (Zee (s := M) rfl (Zh (x := .str [M.getD k 0]) rfl nil_of)).trans ?_
   show (if 0 <= Z8 (M.getD k 0) M then some (D.int (Z8 (M.getD k 0) M)) else none) = _
   rw [ZbI hM.nd hk, if_pos (by omega)]
   rfl
  have t1 : wa1 (WV M W (nD a) bd (some (.str [M.getD k 0]))) = some (.nx (WV M W (oD (gt W a k)) bd (some (.str [M.getD k 0])))) := ZM (Jb h ha hk rfl rfl ei)
  rw [List.map_cons]
  cases hx : gt W a k with
  | none =>
   rw [hx] at t1
   have ew : wk (gt W) a (k :: b) = none := by unfold wk; rw [hx]
   have s1 : Zd wa1 wa2 (WV M W (nD a) bd (some (.str [M.getD k 0]))) = some (.rt (.bl false)) := (Zp t1).trans ((Xu (Z7 rfl)).trans rfl)
   exact ⟨fun _ => Ud rfl s1, fun t e => by rw [ew] at e; cases e⟩
  | some u =>
   rw [hx] at t1
   have s1 : Zd wa1 wa2 (WV M W (nD a) bd (some (.str [M.getD k 0]))) = some (.nx (WV M W (nD u) bd (some (.str [M.getD k 0])))) := (Zp t1).trans ((Z6 (Z7 rfl)).trans rfl)
   have ew : wk (gt W) a (k :: b) = wk (gt W) u b := by
    show (match gt W a k with | none => none | some t => wk (gt W) t b) = _
    rw [hx]
   rw [ew, Yp rfl s1]
   exact Zc8 bd b u (some (.str [M.getD k 0])) (Q7 h ha hx).1 fun x hx => hd x (List.mem_cons_of_mem _ hx)
theorem Zax {a : Nat} (ha : a < m) (b : List Nat) (hb : Dg M.length b) : Ua [.tup (W.map Zs), .str M, .int (a : Int), .str (ch M b)] = some (.bl (wk (gt W) a b).isSome) := by
 refine XJ (δ := WV M W (nD a) (.str (ch M b)) none) rfl ?_
 obtain ⟨h1, h2⟩ := Zc8 hM h (.str (ch M b)) b a none ha hb
 have hi : Yh (Za 3) (WV M W (nD a) (.str (ch M b)) none) = some (b.map fun k => D.str [M.getD k 0]) := by
  refine (Za0 (cs := ch M b) rfl).trans ?_
  unfold ch
  rw [List.map_map]
  rfl
 rw [Zcg]
 cases hx : wk (gt W) a b with
 | none => exact XH (YH hi (h1 hx))
 | some t =>
  obtain ⟨δ', e⟩ := h2 t hx
  exact (Zp (YH hi e)).trans (YF rfl)
end
end K15
namespace K15
open DL L2
structure Sh (k : Nat) (d : D) : Prop where
 can : PySem.PyData.canLay0 (toP d) = true
 dep : PySem.PyData.depth (toP d) <= k
theorem Zc9 {k : Nat} : ∀ {xs : List D}, (∀ x ∈ xs, Sh k x) -> PySem.PyData.canLayAll0 (YY xs) = true /\ PySem.PyData.depthAll (YY xs) <= k
 | [], _ => ⟨rfl, Nat.zero_le _⟩
 | x :: xs, h => by
  obtain ⟨h1, h2⟩ := Zc9 (xs := xs) fun y hy => h y (List.mem_cons_of_mem _ hy)
  have hx := h x List.mem_cons_self
  rw [YY, PySem.PyData.canLayAll0, PySem.PyData.depthAll, hx.can, h1]
  exact ⟨rfl, Nat.max_le.mpr ⟨hx.dep, h2⟩⟩
theorem Zda {k : Nat} {xs : List D} (h : ∀ x ∈ xs, Sh k x) : Sh (k + 1) (.tup xs) := by
 obtain ⟨h1, h2⟩ := Zc9 h
 exact ⟨by rw [toP, PySem.PyData.canLay0]; exact h1, by rw [toP, PySem.PyData.depth]; omega⟩
theorem ZeY (k : Nat) (i : Int) : Sh k (.int i) := ⟨rfl, Nat.zero_le _⟩
theorem ZfK {k : Nat} {d : D} (h : Sh k d) (hk : k <= 64) : PySem.SeqAt.shaped (toP d) = true := by
 unfold PySem.SeqAt.shaped
 rw [h.can, decide_eq_true (Nat.le_trans h.dep hk)]
 rfl
theorem Zd0 (W : Wy) : Sh 2 (.tup (W.map Zs)) := by
 refine Zda fun x hx => ?_
 obtain ⟨r, _, rfl⟩ := List.mem_map.mp hx
 refine Zda fun y hy => ?_
 obtain ⟨o, _, rfl⟩ := List.mem_map.mp hy
 cases o with
 | none => exact ⟨rfl, Nat.le_refl _⟩
 | some a => exact ZeY _ _
noncomputable def cE (e : DL.Env -> Option D) : DL.Env -> Option D := (Zw 2 Yo [] (Zb (Za 0) (Zb e eNil)))
theorem Zeh {ns : List Int} {e : DL.Env -> Option D} {δ : DL.Env} (k : Nat) (h0 : Za 0 δ = some (.lst (ns.map D.int))) (he : e δ = some (.int (k : Int))) : cE e δ = some (.int (ns.getD k 0)) := by
 have hd : Zb (Za 0) (Zb e eNil) δ = some [.lst (ns.map D.int), .int (k : Int)] := Zh h0 (Zh he nil_of)
 exact (YG hd rfl).trans (U2 ns k)
noncomputable def a1 : DL.Env -> Option Out := (Zg 1 (Zw 1 UY [] (Zb (cE (eC (.int 0))) eNil)))
noncomputable def a2 : DL.Env -> Option Out := (Zg 2 (eOp addX (eC (.int 1)) (eOp modD (cE (eC (.int 1))) (eC (.int 6)))))
noncomputable def a3 : DL.Env -> Option Out := (Zg 3 (Zw 4 UZ [] (Zb (Za 0) (Zb (eC (.int 2)) (Zb (Za 2) (Zb (Za 1) eNil))))))
noncomputable def a4 : DL.Env -> Option Out := (Zg 4 (XD "Rooms" 3 UV [] (Zb (Za 1) (Zb (Za 3) eNil))))
noncomputable def b1 : DL.Env -> Option Out := (Zg 7 (Zw 3 UX [] (Zb (Za 4) (Zb (Za 5) (Zb (Za 6) eNil)))))
noncomputable def b2 : DL.Env -> Option Out := (Zg 8 (Zw 4 U0 [] (Zb (Za 3) (Zb (Za 1) (Zb (Za 5) (Zb (Za 6) eNil))))))
noncomputable def wE (i : Nat) : DL.Env -> Option D := (Zw 4 Ua [] (Zb (Za 3) (Zb (Za 1) (Zb (Za i) (Zb (Za 7) eNil)))))
noncomputable def b3 : DL.Env -> Option Out := (sIf (xB (Z1 (Za 8))) (sIf (xB (Y0 (Za 7))) (Zu (eC (.bl false))) sNext) (sIf (xOr (YZ (xB (XC UT (Za 7)))) (xB (eOp neD (Za 7) (Za 8)))) (Zu (eC (.bl false))) (sIf (xB (eOp eqD (wE 5) (wE 6))) (Zu (eC (.bl false))) sNext)))
noncomputable def bI : DL.Env -> Option Out := (ZP (ZL (Zb (Za 2) eNil)) (Zt 6) (Zd b1 (Zd b2 b3)))
theorem ZeZ : f_QK = Zd a1 (Zd a2 (Zd a3 (Zd a4 (Zd (ZP (ZL (Zb (Za 2) eNil)) (Zt 5) bI) (Zu (eOp eqD (ZY Y8 "ways" (Za 4)) (Za 3))))))) := rfl
abbrev LA (ns : List Int) (v1 v2 v3 v4 v5 v6 v7 v8 : Option D) : DL.Env := [some (.lst (ns.map D.int)), v1, v2, v3, v4, v5, v6, v7, v8]
section
variable {m : Nat} {M : List Nat} {W : Wy} (hM : Mk M) (h : Ok m M.length W) (ns : List Int)
include hM h
abbrev LB (ns : List Int) (m : Nat) (M : List Nat) (W : Wy) (v5 v6 v7 v8 : Option D) : DL.Env := LA ns (some (.str M)) (some (.int (m : Int))) (some (.tup (W.map Zs))) (some (ZR M W)) v5 v6 v7 v8
theorem Ze0 {one other : Nat} (h1 : one < m) (h2 : other < m) (v7 v8 : Option D) : ∃ w7 w8, Zd b1 (Zd b2 b3) (LB ns m M W (some (nD one)) (some (nD other)) v7 v8) = some (.nx (LB ns m M W (some (nD one)) (some (nD other)) w7 w8)) := by
 obtain ⟨o, ho, hg⟩ := Zc6 h (m * m + 1) 0 [(one, other, [])] (Iv.first hM h h1 h2) (Nat.zero_le _) (by omega)
 have d1 : Zb (Za 4) (Zb (Za 5) (Zb (Za 6) eNil)) (LB ns m M W (some (nD one)) (some (nD other)) v7 v8) = some [ZR M W, .int (one : Int), .int (other : Int)] := Zh rfl (Zh rfl (Zh rfl nil_of))
 have t1 : b1 (LB ns m M W (some (nD one)) (some (nD other)) v7 v8) = some (.nx (LB ns m M W (some (nD one)) (some (nD other)) (some (oS M o)) v8)) := ZM ((YG d1 rfl).trans (Zbj hM h h1 h2 ho))
 have d2 : Zb (Za 3) (Zb (Za 1) (Zb (Za 5) (Zb (Za 6) eNil))) (LB ns m M W (some (nD one)) (some (nD other)) (some (oS M o)) v8) = some [.tup (W.map Zs), .str M, .int (one : Int), .int (other : Int)] := Zh rfl (Zh rfl (Zh rfl (Zh rfl nil_of)))
 have t2 : b2 (LB ns m M W (some (nD one)) (some (nD other)) (some (oS M o)) v8) = some (.nx (LB ns m M W (some (nD one)) (some (nD other)) (some (oS M o)) (some (oS M o)))) := ZM ((YG d2 rfl).trans (ZcN hM h h1 h2 ho))
 refine ⟨some (oS M o), some (oS M o), (Zp t1).trans ((Zp t2).trans ?_)⟩
 cases o with
 | none => exact (Xu (Z7 rfl)).trans ((Z6 (Z7 rfl)).trans rfl)
 | some r =>
  obtain ⟨g1, g2, _⟩ := hg r rfl
  have e1 : wE 5 (LB ns m M W (some (nD one)) (some (nD other)) (some (oS M (some r))) (some (oS M (some r)))) = some (.bl (wk (gt W) one r).isSome) := by
   have d : Zb (Za 3) (Zb (Za 1) (Zb (Za 5) (Zb (Za 7) eNil))) (LB ns m M W (some (nD one)) (some (nD other)) (some (oS M (some r))) (some (oS M (some r)))) = some [.tup (W.map Zs), .str M, .int (one : Int), .str (ch M r)] := Zh rfl (Zh rfl (Zh rfl (Zh rfl nil_of)))
   exact (YG d rfl).trans (Zax hM h h1 r g1)
  have e2 : wE 6 (LB ns m M W (some (nD one)) (some (nD other)) (some (oS M (some r))) (some (oS M (some r)))) = some (.bl (wk (gt W) other r).isSome) := by
   have d : Zb (Za 3) (Zb (Za 1) (Zb (Za 6) (Zb (Za 7) eNil))) (LB ns m M W (some (nD one)) (some (nD other)) (some (oS M (some r))) (some (oS M (some r)))) = some [.tup (W.map Zs), .str M, .int (other : Int), .str (ch M r)] := Zh rfl (Zh rfl (Zh rfl (Zh rfl nil_of)))
   exact (YG d rfl).trans (Zax hM h h2 r g1)
  have e3 : xB (eOp eqD (wE 5) (wE 6)) (LB ns m M W (some (nD one)) (some (nD other)) (some (oS M (some r))) (some (oS M (some r)))) = some false := Z7 ((Zm e1 e2).trans ((UN _ _).trans (by rw [decide_eq_false g2])))
  have e4 : xB (eOp neD (Za 7) (Za 8)) (LB ns m M W (some (nD one)) (some (nD other)) (some (oS M (some r))) (some (oS M (some r)))) = some false := Z7 ((Zm (x := .str (ch M r)) (y := .str (ch M r)) rfl rfl).trans ((QY _ _).trans (by rw [decide_eq_true rfl]; rfl)))
  exact (Z6 (Z7 rfl)).trans ((Z6 (ZeO (ZbA (b := true) (Z7 (ZeQ (d := .str (ch M r)) rfl rfl))) e4)).trans ((Z6 e3).trans rfl))
theorem ZfL {one : Nat} (h1 : one < m) (v6 v7 v8 : Option D) : ∃ w6 w7 w8, bI (LB ns m M W (some (nD one)) v6 v7 v8) = some (.nx (LB ns m M W (some (nD one)) w6 w7 w8)) := by
 have hm6 := h.m6
 obtain ⟨δ', g, w6, w7, w8, e⟩ := Q0 (γ := Zt 6) (φ := Zd b1 (Zd b2 b3)) (fun δ => ∃ v6 v7 v8, δ = LB ns m M W (some (nD one)) v6 v7 v8) (ZD 0 1 m) (LB ns m M W (some (nD one)) v6 v7 v8) ⟨_, _, _, rfl⟩ (by
  intro x hx δ ⟨v6, v7, v8, e⟩
  subst e
  obtain ⟨b, hb, rfl⟩ := ZbC hx
  rw [show (0 + (b : Int) * 1) = b by omega]
  obtain ⟨w7, w8, t⟩ := Ze0 hM h ns h1 hb v7 v8
  exact ⟨_, rfl, _, t, _, _, _, rfl⟩)
 subst e
 exact ⟨w6, w7, w8, YH ((Vy (j := (m : Int)) rfl (by omega) (by omega)).trans (by rw [Int.toNat_natCast])) g⟩
theorem ZfM : ∃ w5 w6 w7 w8, ZP (ZL (Zb (Za 2) eNil)) (Zt 5) bI (LB ns m M W none none none none) = some (.nx (LB ns m M W w5 w6 w7 w8)) := by
 have hm6 := h.m6
 obtain ⟨δ', g, w5, w6, w7, w8, e⟩ := Q0 (γ := Zt 5) (φ := bI) (fun δ => ∃ v5 v6 v7 v8, δ = LB ns m M W v5 v6 v7 v8) (ZD 0 1 m) (LB ns m M W none none none none) ⟨_, _, _, _, rfl⟩ (by
  intro x hx δ ⟨v5, v6, v7, v8, e⟩
  subst e
  obtain ⟨b, hb, rfl⟩ := ZbC hx
  rw [show (0 + (b : Int) * 1) = b by omega]
  obtain ⟨w6, w7, w8, t⟩ := ZfL hM h ns hb v6 v7 v8
  exact ⟨_, rfl, _, t, _, _, _, _, rfl⟩)
 subst e
 exact ⟨w5, w6, w7, w8, YH ((Vy (j := (m : Int)) rfl (by omega) (by omega)).trans (by rw [Int.toNat_natCast])) g⟩
end
theorem all_true (ns : List Int) (hns : ns.length <= 63) : U1 [.lst (ns.map D.int)] = some (.bl true) := by
 obtain ⟨M, hM, hm1⟩ := ZcH (ns.getD 0 0)
 obtain ⟨m, hm⟩ := Zc2 (show 0 <= 1 + ns.getD 1 0 % 6 by omega)
 have hm0 : 0 < m := by omega
 have hm6 : m <= 6 := by omega
 obtain ⟨W, hW, hl⟩ := Zce ns m hM hm0 hm6
 have c0 : cE (eC (.int 0)) (LA ns none none none none none none none none) = some (.int (ns.getD 0 0)) := Zeh 0 rfl rfl
 have t1 : a1 (LA ns none none none none none none none none) = some (.nx (LA ns (some (.str M)) none none none none none none none)) := ZM ((YG (Zh c0 nil_of) rfl).trans hm1)
 have c1 : cE (eC (.int 1)) (LA ns (some (.str M)) none none none none none none none) = some (.int (ns.getD 1 0)) := Zeh 1 rfl rfl
 have t2 : a2 (LA ns (some (.str M)) none none none none none none none) = some (.nx (LA ns (some (.str M)) (some (.int (m : Int))) none none none none none none)) := ZM ((Zm (x := .int 1) (y := .int (ns.getD 1 0 % 6)) rfl ((Zm (y := .int 6) c1 rfl).trans (XG (by decide)))).trans ((add_int _ _).trans (by rw [hm])))
 have hd3 : Zb (Za 0) (Zb (eC (.int 2)) (Zb (Za 2) (Zb (Za 1) eNil))) (LA ns (some (.str M)) (some (.int (m : Int))) none none none none none none) = some [.lst (ns.map D.int), .int 2, .int (m : Int), .str M] := Zh rfl (Zh rfl (Zh rfl (Zh rfl nil_of)))
 have t3 : a3 (LA ns (some (.str M)) (some (.int (m : Int))) none none none none none none) = some (.nx (LA ns (some (.str M)) (some (.int (m : Int))) (some (.tup (W.map Zs))) none none none none none)) := ZM ((YG hd3 rfl).trans hl)
 have t4 : a4 (LA ns (some (.str M)) (some (.int (m : Int))) (some (.tup (W.map Zs))) none none none none none) = some (.nx (LB ns m M W none none none none)) := ZM ((ZdQ (Zh rfl (Zh rfl nil_of)) rfl).trans (ZdZ M W (by rw [hW.ln]; omega)))
 obtain ⟨w5, w6, w7, w8, t5⟩ := ZfM hM hW ns
 refine XJ (δ := LA ns none none none none none none none none) rfl ?_
 rw [ZeZ, Zp t1, Zp t2, Zp t3, Zp t4, Zp t5]
 have ew : ZY Y8 "ways" (Za 4) (LB ns m M W w5 w6 w7 w8) = some (.tup (W.map Zs)) := ZaZ rfl
 exact YF ((Zm (y := .tup (W.map Zs)) ew rfl).trans (ZcG rfl (ZfK (Zd0 W) (by decide))))
end K15
namespace K15
open PySem PySem.Spec L2 DL
def U6 (K : PySem.W.Frag) : Sp := fun vs H Q _ => ∃ (a : Addr) (ns : List Int), vs = [.ref a] /\ SqL K H a (ns.map V.int) /\ ns.length <= 63 /\ ∀ H', Q (.bl true) H'
theorem Ze1 (hall : ∀ ns : List Int, ns.length <= 63 -> U1 [.lst (ns.map D.int)] = some (.bl true)) {P : Program} {w : World} {K : PySem.W.Frag} {mg : Str -> Option Value} {base : Heap} {t : Adr} (T : Txt K mg t) : FnOk P w K mg base CX0 4 t.a_QK t.d_QK ["script"] (U6 K) :=
 (ZfF T).imp fun vs H Q E ⟨a, ns, hv, hr, hl, q⟩ => by
   subst hv
   refine ⟨fun _ => False, [.lst (ns.map D.int)], .bl true, fun _ z => z.elim, .cons ?_ .nil, rfl, hall ns hl, fun v H' _ r => ?_⟩
   · unfold Rep
     refine ⟨a, _, rfl, fun z => z.elim, hr, ?_⟩
     have := RepL.of_vals (cA := ⟨t.c, K⟩) (av := fun _ => False) (H := H) (xs := ns.map D.int) (by rw [List.all_map]; exact List.all_eq_true.mpr fun _ _ => rfl)
     rw [List.map_map] at this
     exact this
   · cases (show v = _ from r)
     exact q H'
theorem all_mk (hall : ∀ ns : List Int, ns.length <= 63 -> U1 [.lst (ns.map D.int)] = some (.bl true)) {l : PySem.W.OpenLaw} {w : World} {K : PySem.W.Frag} {h : Heap} {mg : Str -> Option Value} {fa : Addr} (X : K.In h) (G : h.Ns mainGlobals mg) (hfa : mg "law" = some (.ref fa))
 {c_Rooms : Addr}
 {f0 : Addr} {od0 an0 : Option Addr} {sl0 : Array (Option Value)} {oc0 kV0 dc0 pm0 cd0 ct0 : Value}
 {f1 : Addr} {od1 an1 : Option Addr} {sl1 : Array (Option Value)} {oc1 kV1 dc1 pm1 cd1 ct1 : Value}
 {f2 : Addr} {od2 an2 : Option Addr} {sl2 : Array (Option Value)} {oc2 kV2 dc2 pm2 cd2 ct2 : Value}
 {f3 : Addr} {od3 an3 : Option Addr} {sl3 : Array (Option Value)} {oc3 kV3 dc3 pm3 cd3 ct3 : Value}
 {f4 : Addr} {od4 an4 : Option Addr} {sl4 : Array (Option Value)} {oc4 kV4 dc4 pm4 cd4 ct4 : Value}
 {f5 : Addr} {od5 an5 : Option Addr} {sl5 : Array (Option Value)} {oc5 kV5 dc5 pm5 cd5 ct5 : Value}
 {f6 : Addr} {od6 an6 : Option Addr} {sl6 : Array (Option Value)} {oc6 kV6 dc6 pm6 cd6 ct6 : Value}
 {f7 : Addr} {od7 an7 : Option Addr} {sl7 : Array (Option Value)} {oc7 kV7 dc7 pm7 cd7 ct7 : Value}
 {f8 : Addr} {od8 an8 : Option Addr} {sl8 : Array (Option Value)} {oc8 kV8 dc8 pm8 cd8 ct8 : Value}
 {f9 : Addr} {od9 an9 : Option Addr} {sl9 : Array (Option Value)} {oc9 kV9 dc9 pm9 cd9 ct9 : Value}
 {f10 : Addr} {od10 an10 : Option Addr} {sl10 : Array (Option Value)} {oc10 kV10 dc10 pm10 cd10 ct10 : Value}
 {f11 : Addr} {od11 an11 : Option Addr} {sl11 : Array (Option Value)} {oc11 kV11 dc11 pm11 cd11 ct11 : Value}
 {f12 : Addr} {od12 an12 : Option Addr} {sl12 : Array (Option Value)} {oc12 kV12 dc12 pm12 cd12 ct12 : Value}
 {f13 : Addr} {od13 an13 : Option Addr} {sl13 : Array (Option Value)} {oc13 kV13 dc13 pm13 cd13 ct13 : Value}
 (Zgx : PySem.W.nsIn K mainGlobals "Rooms" = some (some (.ref c_Rooms)))
 (a0 : PySem.W.nsIn K mainGlobals "_wall" = some (some (.ref f0)))
 (l0 : K.lookup f0 = some ⟨oc0, od0, .func (PySem.W.fnOf "_wall" "_wall" (ZV X7) (ZI X7) (Zo X7) .none kV0 dc0 pm0 an0 cd0 ct0), sl0⟩)
 (c0 : PySem.W.codeIn K cd0 "_wall" = true)
 (k0 : PySem.W.keepIn K (.ref f0) = true)
 (a1 : PySem.W.nsIn K mainGlobals "is_mark" = some (some (.ref f1)))
 (l1 : K.lookup f1 = some ⟨oc1, od1, .func (PySem.W.fnOf "is_mark" "is_mark" (ZV XM) (ZI XM) (Zo XM) .none kV1 dc1 pm1 an1 cd1 ct1), sl1⟩)
 (c1 : PySem.W.codeIn K cd1 "is_mark" = true)
 (k1 : PySem.W.keepIn K (.ref f1) = true)
 (a2 : PySem.W.findIn K (.ref c_Rooms) "__init__" = some (some (.ref f2)))
 (l2 : K.lookup f2 = some ⟨oc2, od2, .func (PySem.W.fnOf "__init__" "Rooms.__init__" (ZV Xv) (ZI Xv) (Zo Xv) .none kV2 dc2 pm2 an2 cd2 ct2), sl2⟩)
 (c2 : PySem.W.codeIn K cd2 "Rooms.__init__" = true)
 (k2 : PySem.W.keepIn K (.ref f2) = true)
 (a3 : PySem.W.findIn K (.ref c_Rooms) "many" = some (some (.ref f3)))
 (l3 : K.lookup f3 = some ⟨oc3, od3, .func (PySem.W.fnOf "many" "Rooms.many" (ZV X8) (ZI X8) (Zo X8) .none kV3 dc3 pm3 an3 cd3 ct3), sl3⟩)
 (c3 : PySem.W.codeIn K cd3 "Rooms.many" = true)
 (k3 : PySem.W.keepIn K (.ref f3) = true)
 (a4 : PySem.W.findIn K (.ref c_Rooms) "led" = some (some (.ref f4)))
 (l4 : K.lookup f4 = some ⟨oc4, od4, .func (PySem.W.fnOf "led" "Rooms.led" (ZV XN) (ZI XN) (Zo XN) .none kV4 dc4 pm4 an4 cd4 ct4), sl4⟩)
 (c4 : PySem.W.codeIn K cd4 "Rooms.led" = true)
 (k4 : PySem.W.keepIn K (.ref f4) = true)
 (a5 : PySem.W.findIn K (.ref c_Rooms) "walked" = some (some (.ref f5)))
 (l5 : K.lookup f5 = some ⟨oc5, od5, .func (PySem.W.fnOf "walked" "Rooms.walked" (ZV X9) (ZI X9) (Zo X9) .none kV5 dc5 pm5 an5 cd5 ct5), sl5⟩)
 (c5 : PySem.W.codeIn K cd5 "Rooms.walked" = true)
 (k5 : PySem.W.keepIn K (.ref f5) = true)
 (a6 : PySem.W.nsIn K mainGlobals "parting" = some (some (.ref f6)))
 (l6 : K.lookup f6 = some ⟨oc6, od6, .func (PySem.W.fnOf "parting" "parting" (ZV XO) (ZI XO) (Zo XO) .none kV6 dc6 pm6 an6 cd6 ct6), sl6⟩)
 (c6 : PySem.W.codeIn K cd6 "parting" = true)
 (k6 : PySem.W.keepIn K (.ref f6) = true)
 (a7 : PySem.W.nsIn K mainGlobals "_law_cell_at" = some (some (.ref f7)))
 (l7 : K.lookup f7 = some ⟨oc7, od7, .func (PySem.W.fnOf "_law_cell_at" "_law_cell_at" (ZV XQ) (ZI XQ) (Zo XQ) .none kV7 dc7 pm7 an7 cd7 ct7), sl7⟩)
 (c7 : PySem.W.codeIn K cd7 "_law_cell_at" = true)
 (k7 : PySem.W.keepIn K (.ref f7) = true)
 (a8 : PySem.W.nsIn K mainGlobals "_law_marks" = some (some (.ref f8)))
 (l8 : K.lookup f8 = some ⟨oc8, od8, .func (PySem.W.fnOf "_law_marks" "_law_marks" (ZV XR) (ZI XR) (Zo XR) .none kV8 dc8 pm8 an8 cd8 ct8), sl8⟩)
 (c8 : PySem.W.codeIn K cd8 "_law_marks" = true)
 (k8 : PySem.W.keepIn K (.ref f8) = true)
 (a9 : PySem.W.nsIn K mainGlobals "_law_table" = some (some (.ref f9)))
 (l9 : K.lookup f9 = some ⟨oc9, od9, .func (PySem.W.fnOf "_law_table" "_law_table" (ZV XS) (ZI XS) (Zo XS) .none kV9 dc9 pm9 an9 cd9 ct9), sl9⟩)
 (c9 : PySem.W.codeIn K cd9 "_law_table" = true)
 (k9 : PySem.W.keepIn K (.ref f9) = true)
 (a10 : PySem.W.nsIn K mainGlobals "_law_living" = some (some (.ref f10)))
 (l10 : K.lookup f10 = some ⟨oc10, od10, .func (PySem.W.fnOf "_law_living" "_law_living" (ZV Xw) (ZI Xw) (Zo Xw) .none kV10 dc10 pm10 an10 cd10 ct10), sl10⟩)
 (c10 : PySem.W.codeIn K cd10 "_law_living" = true)
 (k10 : PySem.W.keepIn K (.ref f10) = true)
 (a11 : PySem.W.nsIn K mainGlobals "_law_first" = some (some (.ref f11)))
 (l11 : K.lookup f11 = some ⟨oc11, od11, .func (PySem.W.fnOf "_law_first" "_law_first" (ZV XT) (ZI XT) (Zo XT) .none kV11 dc11 pm11 an11 cd11 ct11), sl11⟩)
 (c11 : PySem.W.codeIn K cd11 "_law_first" = true)
 (k11 : PySem.W.keepIn K (.ref f11) = true)
 (a12 : PySem.W.nsIn K mainGlobals "_law_walked" = some (some (.ref f12)))
 (l12 : K.lookup f12 = some ⟨oc12, od12, .func (PySem.W.fnOf "_law_walked" "_law_walked" (ZV XU) (ZI XU) (Zo XU) .none kV12 dc12 pm12 an12 cd12 ct12), sl12⟩)
 (c12 : PySem.W.codeIn K cd12 "_law_walked" = true)
 (k12 : PySem.W.keepIn K (.ref f12) = true)
 (a13 : PySem.W.nsIn K mainGlobals "law" = some (some (.ref f13)))
 (l13 : K.lookup f13 = some ⟨oc13, od13, .func (PySem.W.fnOf "law" "law" (ZV YR) (ZI YR) (Zo YR) .none kV13 dc13 pm13 an13 cd13 ct13), sl13⟩)
 (c13 : PySem.W.codeIn K cd13 "law" = true)
 (k13 : PySem.W.keepIn K (.ref f13) = true)
 (Zgy : PySem.W.nsIn K mainGlobals "ValueError" = some none)
 (Zgz : PySem.W.nsIn K mainGlobals "int" = some none)
 (ZgA : PySem.W.nsIn K mainGlobals "isinstance" = some none)
 (ZgB : PySem.W.nsIn K mainGlobals "len" = some none)
 (ZgC : PySem.W.nsIn K mainGlobals "range" = some none)
 (ZgD : PySem.W.nsIn K mainGlobals "str" = some none)
 (ZgE : PySem.W.nsIn K mainGlobals "tuple" = some none)
 (Zgu : PySem.W.plainGet K c_Rooms Str.empty = true)
 (Zgd : PySem.W.hasDictIn K c_Rooms = true)
 (Zgv : PySem.W.plainOver K c_Rooms = true)
 (Zgw : PySem.W.findIn K (.ref c_Rooms) "__setattr__" = some (some (.builtin "object.__setattr__")))
 (Zgc : PySem.W.findIn K (.ref c_Rooms) "__class__" = some (some (.builtin "object.__class__")))
 (Zge : PySem.W.mroIn K c_Rooms (.type "object") = some true)
 (Zgq : PySem.W.makesIn K c_Rooms = true)
 (Zgm : PySem.W.keepIn K (.ref c_Rooms) = true)
 (Zgp : PySem.W.findIn K (.ref c_Rooms) "__init__" = some (some (.ref f2)))
 (Zgo : PySem.W.isFn K (.ref f2) = true)
 (hn_ : PySem.W.specialIn K (.builtin "object.__class__") "__get__" = some (some (.builtin "getset_descriptor.__get__")))
 (htk_ : PySem.W.takesIn K (.builtin "object.__class__") = some true)
 (Zgs : PySem.W.findIn K (.ref c_Rooms) "marks" = some none)
 (Zgt : PySem.W.findIn K (.ref c_Rooms) "ways" = some none)
 (Zgn : PySem.W.findIn K (.ref c_Rooms) "led" = some (some (.ref f4)))
 (Zgr : PySem.W.isFn K (.ref f4) = true)
 (Zgf : PySem.W.kitOne K (.type "NoneType") (.type "str") = some false)
 (Zgh : PySem.W.kitOne K (.type "bool") (.type "str") = some false)
 (Zgi : PySem.W.kitOne K (.type "int") (.type "str") = some false)
 (Zgk : PySem.W.kitOne K (.type "str") (.type "str") = some true)
 (Zgj : PySem.W.kitOne K (.type "list") (.type "str") = some false)
 (Zgl : PySem.W.kitOne K (.type "tuple") (.type "str") = some false)
 (Zgg : PySem.W.kitOne K (.ref c_Rooms) (.type "str") = some false)
 : ∃ fd : FuncData, (∀ (s : Shared) (v : Value), BindsTo s fd ⟨[v], []⟩ [("script", v)]) /\ ∀ base : Heap, K.In base -> base.Ns mainGlobals mg -> FnOk l.prog w K mg base CX0 4 fa fd ["script"] (U6 K) := by
 have e := hfa.symm.trans (PySem.W.mg_of X G a13)
 cases e
 have F0 : FunX K "_wall" "_wall" X7 f0 _ := (ZG (st := X7) l0 c0 k0).x
 have b0 := (ZG (st := X7) l0 c0 k0).binds (ps := ["k"]) fun _ _ _ _ _ _ us hl => match us, hl with | [_], _ => rfl
 have F1 : FunX K "is_mark" "is_mark" XM f1 _ := (ZG (st := XM) l1 c1 k1).x
 have b1 := (ZG (st := XM) l1 c1 k1).binds (ps := ["marks", "text"]) fun _ _ _ _ _ _ us hl => match us, hl with | [_, _], _ => rfl
 have F2 : FunX K "__init__" "Rooms.__init__" Xv f2 _ := (ZG (st := Xv) l2 c2 k2).x
 have b2 := (ZG (st := Xv) l2 c2 k2).binds (ps := ["self", "marks", "ways"]) fun _ _ _ _ _ _ us hl => match us, hl with | [_, _, _], _ => rfl
 have F3 : FunX K "many" "Rooms.many" X8 f3 _ := (ZG (st := X8) l3 c3 k3).x
 have b3 := (ZG (st := X8) l3 c3 k3).binds (ps := ["self"]) fun _ _ _ _ _ _ us hl => match us, hl with | [_], _ => rfl
 have F4 : FunX K "led" "Rooms.led" XN f4 _ := (ZG (st := XN) l4 c4 k4).x
 have b4 := (ZG (st := XN) l4 c4 k4).binds (ps := ["self", "room", "mark"]) fun _ _ _ _ _ _ us hl => match us, hl with | [_, _, _], _ => rfl
 have F5 : FunX K "walked" "Rooms.walked" X9 f5 _ := (ZG (st := X9) l5 c5 k5).x
 have b5 := (ZG (st := X9) l5 c5 k5).binds (ps := ["self", "room", "row"]) fun _ _ _ _ _ _ us hl => match us, hl with | [_, _, _], _ => rfl
 have F6 : FunX K "parting" "parting" XO f6 _ := (ZG (st := XO) l6 c6 k6).x
 have b6 := (ZG (st := XO) l6 c6 k6).binds (ps := ["rooms", "one", "other"]) fun _ _ _ _ _ _ us hl => match us, hl with | [_, _, _], _ => rfl
 have F7 : FunX K "_law_cell_at" "_law_cell_at" XQ f7 _ := (ZG (st := XQ) l7 c7 k7).x
 have b7 := (ZG (st := XQ) l7 c7 k7).binds (ps := ["script", "k"]) fun _ _ _ _ _ _ us hl => match us, hl with | [_, _], _ => rfl
 have F8 : FunX K "_law_marks" "_law_marks" XR f8 _ := (ZG (st := XR) l8 c8 k8).x
 have b8 := (ZG (st := XR) l8 c8 k8).binds (ps := ["cell"]) fun _ _ _ _ _ _ us hl => match us, hl with | [_], _ => rfl
 have F9 : FunX K "_law_table" "_law_table" XS f9 _ := (ZG (st := XS) l9 c9 k9).x
 have b9 := (ZG (st := XS) l9 c9 k9).binds (ps := ["script", "at", "many", "marks"]) fun _ _ _ _ _ _ us hl => match us, hl with | [_, _, _, _], _ => rfl
 have F10 : FunX K "_law_living" "_law_living" Xw f10 _ := (ZG (st := Xw) l10 c10 k10).x
 have b10 := (ZG (st := Xw) l10 c10 k10).binds (ps := ["script", "at", "many", "marks"]) fun _ _ _ _ _ _ us hl => match us, hl with | [_, _, _, _], _ => rfl
 have F11 : FunX K "_law_first" "_law_first" XT f11 _ := (ZG (st := XT) l11 c11 k11).x
 have b11 := (ZG (st := XT) l11 c11 k11).binds (ps := ["ways", "marks", "one", "other"]) fun _ _ _ _ _ _ us hl => match us, hl with | [_, _, _, _], _ => rfl
 have F12 : FunX K "_law_walked" "_law_walked" XU f12 _ := (ZG (st := XU) l12 c12 k12).x
 have b12 := (ZG (st := XU) l12 c12 k12).binds (ps := ["ways", "marks", "room", "row"]) fun _ _ _ _ _ _ us hl => match us, hl with | [_, _, _, _], _ => rfl
 have F13 : FunX K "law" "law" YR fa _ := (ZG (st := YR) l13 c13 k13).x
 have b13 := (ZG (st := YR) l13 c13 k13).binds (ps := ["script"]) fun _ _ _ _ _ _ us hl => match us, hl with | [_], _ => rfl
 have T : Txt K mg { a__wall := f0, d__wall := _, a_QI := f1, d_QI := _, a_QE := f2, d_QE := _, a_Rooms_many := f3, d_Rooms_many := _, a_QH := f4, d_QH := _, a_Rooms_walked := f5, d_Rooms_walked := _, a_QJ := f6, d_QJ := _, a_QA := f7, d_QA := _, a_QD := f8, d_QD := _, a_QG := f9, d_QG := _, a_QB := f10, d_QB := _, a_QF := f11, d_QF := _, a_QC := f12, d_QC := _, a_QK := fa, d_QK := _, c_Rooms := c_Rooms } := { f__wall := F0, b__wall := b0, g__wall := PySem.W.mg_of X G a0, k__wall := k0, f_QI := F1, b_QI := b1, g_QI := PySem.W.mg_of X G a1, k_QI := k1, f_QE := F2, b_QE := b2, k_QE := k2, f_Rooms_many := F3, b_Rooms_many := b3, k_Rooms_many := k3, f_QH := F4, b_QH := b4, k_QH := k4, f_Rooms_walked := F5, b_Rooms_walked := b5, k_Rooms_walked := k5, f_QJ := F6, b_QJ := b6, g_QJ := PySem.W.mg_of X G a6, k_QJ := k6, f_QA := F7, b_QA := b7, g_QA := PySem.W.mg_of X G a7, k_QA := k7, f_QD := F8, b_QD := b8, g_QD := PySem.W.mg_of X G a8, k_QD := k8, f_QG := F9, b_QG := b9, g_QG := PySem.W.mg_of X G a9, k_QG := k9, f_QB := F10, b_QB := b10, g_QB := PySem.W.mg_of X G a10, k_QB := k10, f_QF := F11, b_QF := b11, g_QF := PySem.W.mg_of X G a11, k_QF := k11, f_QC := F12, b_QC := b12, g_QC := PySem.W.mg_of X G a12, k_QC := k12, f_QK := F13, b_QK := b13, g_QK := PySem.W.mg_of X G a13, k_QK := k13, n_ValueError := PySem.W.mg_none_of X G Zgy, n_int := PySem.W.mg_none_of X G Zgz, n_isinstance := PySem.W.mg_none_of X G ZgA, n_len := PySem.W.mg_none_of X G ZgB, n_range := PySem.W.mg_none_of X G ZgC, n_str := PySem.W.mg_none_of X G ZgD, n_tuple := PySem.W.mg_none_of X G ZgE, g_Rooms := PySem.W.mg_of X G Zgx, cl_Rooms := ⟨Zgu, Zgd, Zgv, Zgw⟩, ci_Rooms := ⟨⟨Zgu, Zgd, Zgv, Zgw⟩, Zgc, hn_, htk_, Zge⟩, mk_Rooms := ⟨Zgq, Zgp, Zgo, Zgm⟩, fl_marks := (by intro c hc; simp only [YQ, List.mem_cons, List.mem_nil_iff, or_false] at hc; rcases hc with rfl <;> first | exact ⟨⟨Zgu, Zgd, Zgv, Zgw⟩, Zgs⟩), fl_ways := (by intro c hc; simp only [Y8, List.mem_cons, List.mem_nil_iff, or_false] at hc; rcases hc with rfl <;> first | exact ⟨⟨Zgu, Zgd, Zgv, Zgw⟩, Zgt⟩), me_Rooms_led := ⟨Zgn, Zgr, k4⟩, isi_str := Zdt (by intro p hp; simp only [UT, List.mem_cons, List.mem_nil_iff, or_false] at hp; rcases hp with rfl | rfl | rfl | rfl | rfl | rfl | rfl <;> first | exact Zgf | exact Zgh | exact Zgi | exact Zgk | exact Zgj | exact Zgl | exact ⟨Zgg, ⟨Zgu, Zgd, Zgv, Zgw⟩, Zgc, hn_, htk_, Zge⟩) }
 exact ⟨PySem.W.fnOf "law" "law" (ZV YR) (ZI YR) (Zo YR) .none kV13 dc13 pm13 an13 cd13 ct13, fun s v => .of_eq rfl, fun base _ _ => Ze1 hall T⟩
theorem walk {l : PySem.W.OpenLaw} {q : Program} {loose : List Str} {XP : (Str -> Option Value) -> Heap -> Prop} {YP : World -> Heap -> Prop} {d : DefRec} {K : Params -> PySem.W.Frag} (hn : l.most = some 63) (hdf : d.params.defaults = [])
 (hY : ∀ (w : World) (h : Heap), YP w h -> (K w.params).In h)
 (F : ∀ (w : World) (mg : Str -> Option Value) (fa : Addr) (h : Heap), (K w.params).In h -> h.Ns mainGlobals mg -> mg d.name = some (.ref fa) ->
   ∃ fd : FuncData, (∀ (s : Shared) (u : Value), BindsTo s fd ⟨[u], []⟩ [("script", u)]) /\ ∀ base : Heap, (K w.params).In base -> base.Ns mainGlobals mg -> FnOk l.prog w (K w.params) mg base CX0 4 fa fd ["script"] (U6 (K w.params))) :
 PySem.W.WalkO q loose XP YP l.row.toRowW d [] (fun f vs => PySem.call f vs) :=
 L2.walk_of (n := 63) (k := 4) (x := "script") (CX := fun _ => CX0) (sp := fun w => U6 (K w.params)) hn (by decide) hdf ⟨rfl, by decide, by decide⟩ hY F (fun _ _ a ns hl _ hS => ⟨a, ns, rfl, hS, hl, fun _ => rfl⟩) fun _ _ _ _ _ z => z
end K15
open PySem PySem.W PyProof.Rows
set_option maxRecDepth 100000 in
set_option maxHeartbeats 0 in
theorem PySem.Challenge.cw_grooveway_k15_parted_rooms_holds : PySem.Challenge.rw_grooveway_k15_parted_rooms.Holds := by
 w_on; o_law; k_head; (case hw => w_witness2)
 k_fill
 refine K15.walk (l := PySem.Challenge.rw_grooveway_k15_parted_rooms) rfl rfl (fun w h Y => PySem.W.kIn_of Y) ?F
 case F =>
  intro w mg fa h KX G hmg
  refine' K15.all_mk K15.all_true KX G hmg ?Zgx ?a0 ?l0 ?c0 ?k0 ?a1 ?l1 ?c1 ?k1 ?a2 ?l2 ?c2 ?k2 ?a3 ?l3 ?c3 ?k3 ?a4 ?l4 ?c4 ?k4 ?a5 ?l5 ?c5 ?k5 ?a6 ?l6 ?c6 ?k6 ?a7 ?l7 ?c7 ?k7 ?a8 ?l8 ?c8 ?k8 ?a9 ?l9 ?c9 ?k9 ?a10 ?l10 ?c10 ?k10 ?a11 ?l11 ?c11 ?k11 ?a12 ?l12 ?c12 ?k12 ?a13 ?l13 ?c13 ?k13 ?Zgy ?Zgz ?ZgA ?ZgB ?ZgC ?ZgD ?ZgE ?Zgu ?Zgd ?Zgv ?Zgw ?Zgc ?Zge ?Zgq ?Zgm ?Zgp ?Zgo ?hn_ ?htk_ ?Zgs ?Zgt ?Zgn ?Zgr ?Zgf ?Zgh ?Zgi ?Zgk ?Zgj ?Zgl ?Zgg
  (case Zgx | a0 | l0 | c0 | k0 | a1 | l1 | c1 | k1 | a2 | l2 | c2 | k2 | a3 | l3 | c3 | k3 | a4 | l4 | c4 | k4 | a5 | l5 | c5 | k5 | a6 | l6 | c6 | k6 | a7 | l7 | c7 | k7 | a8 | l8 | c8 | k8 | a9 | l9 | c9 | k9 | a10 | l10 | c10 | k10 | a11 | l11 | c11 | k11 | a12 | l12 | c12 | k12 | a13 | l13 | c13 | k13 | Zgy | Zgz | ZgA | ZgB | ZgC | ZgD | ZgE | Zgu | Zgd | Zgv | Zgw | Zgc | Zge | Zgq | Zgm | Zgp | Zgo | hn_ | htk_ | Zgs | Zgt | Zgn | Zgr => k_is)
  (case Zgf | Zgh | Zgi | Zgk | Zgj | Zgl | Zgg => kit_is)
